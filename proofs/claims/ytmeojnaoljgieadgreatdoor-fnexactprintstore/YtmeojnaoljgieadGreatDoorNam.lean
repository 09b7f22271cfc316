/-
  Names: spec.l2NameOk, impl.validName.
-/
import Derived.Test.YtmeojnaoljgieadGreatDoorPlain
namespace Go.Proofs.YtmeojnaoljgieadGreatDoor
open Go.RowKit
set_option linter.unusedVariables false

def NameOk (s : ByteArray) : Prop := 1 ≤ s.size ∧ s.size ≤ 60 ∧ ∀ j, (h : j < s.size) → 33 ≤ s[j].toNat ∧ s[j].toNat ≤ 126
noncomputable def nameB (s : ByteArray) : Bool := @decide (NameOk s) (Classical.propDecidable _)
theorem nameB_true {s : ByteArray} (h : NameOk s) : nameB s = true := by simp [nameB, h]
theorem nameB_false {s : ByteArray} (h : ¬ NameOk s) : nameB s = false := by simp [nameB, h]
set_option maxHeartbeats 400000 in
theorem l2NameOk_any (s : ByteArray) (w : World) (hs : s.size ≤ 9223372036854775807) : Calls Tryz.prog 69 #[.string s] w fun e w' => e = .returned (.bool (nameB s)) ∧ w = w' := by
  by_cases h1 : s.size < 1
  · rw [nameB_false (fun h => by have := h.1; omega)]
    have d1 : decide ((s.size : Int) < 1) = true := by simp; omega
    go_enter Tryz.func69, Tryz.ntmps69
    go_wp2
    go_ret
    exact ⟨rfl, rfl⟩
  · have d1 : decide ((s.size : Int) < 1) = false := by simp; omega
    by_cases h2 : 60 < s.size
    · rw [nameB_false (fun h => by have := h.2.1; omega)]
      have d2 : decide ((60 : Int) < s.size) = true := by simp; omega
      go_enter Tryz.func69, Tryz.ntmps69
      go_wp2
      go_ret
      exact ⟨rfl, rfl⟩
    · have d2 : decide ((60 : Int) < s.size) = false := by simp; omega
      go_enter Tryz.func69, Tryz.ntmps69
      go_wp2
      go_loopw [3] (fun i wr => ∃ k : Nat, k ≤ s.size ∧ i = .int .i64 k ∧ Hid (∀ j, (h : j < s.size) → j < k → 33 ≤ s[j].toNat ∧ s[j].toNat ≤ 126) ∧ w = wr) (fun i _ => s.size - (intOf i).toNat)
      case atStart => exact ⟨0, Nat.zero_le _, rfl, fun j _ hj => by omega, rfl⟩
      case round =>
        obtain ⟨k, hk, rfl, HA, rfl⟩ := hrel
        by_cases hlt : k < s.size
        · by_cases c1 : s[k].toNat < 33
          · have e1 : decide ((s[k].toNat : Int) < 33) = true := by simp; omega
            have HF : Hid (nameB s = false) := nameB_false (fun h => by have := h.2.2 k hlt; omega)
            clear c1
            go_wp2
            go_ret
            exact ⟨by rw [HF.out]; rfl, rfl⟩
          · have e1 : decide ((s[k].toNat : Int) < 33) = false := by simp; omega
            by_cases c2 : 126 < s[k].toNat
            · have e2 : decide ((126 : Int) < s[k].toNat) = true := by simp; omega
              have HF : Hid (nameB s = false) := nameB_false (fun h => by have := h.2.2 k hlt; omega)
              clear c1 c2
              go_wp2
              go_ret
              exact ⟨by rw [HF.out]; rfl, rfl⟩
            · have e2 : decide ((126 : Int) < s[k].toNat) = false := by simp; omega
              have HB : Hid (∀ j, (h : j < s.size) → j < k + 1 → 33 ≤ s[j].toNat ∧ s[j].toNat ≤ 126) := fun j h hj => by
                rcases Nat.lt_or_ge j k with h' | h'
                · exact HA.out j h h'
                · obtain rfl : j = k := by omega
                  omega
              clear c1 c2
              go_wp2
              go_roundw
              case rel => exact ⟨k + 1, by omega, by go_num, HB, by first | trivial | rfl⟩
              case measure => simp [intOf]; omega
        · have HF : Hid (nameB s = true) := nameB_true ⟨by omega, by omega, fun j h => HA.out j h (by omega)⟩
          go_wp2
          go_ret
          exact ⟨by rw [HF.out]; rfl, rfl⟩

set_option maxHeartbeats 400000 in
theorem validName_any (s : ByteArray) (w : World) (hs : s.size ≤ 9223372036854775807) : Calls Tryz.prog 87 #[.string s] w fun e w' => e = .returned (.bool (nameB s)) ∧ w = w' := by
  by_cases h1 : s.size < 1
  · rw [nameB_false (fun h => by have := h.1; omega)]
    have d1 : decide ((s.size : Int) < 1) = true := by simp; omega
    go_enter Tryz.func87, Tryz.ntmps87
    go_wp2
    go_ret
    exact ⟨rfl, rfl⟩
  · have d1 : decide ((s.size : Int) < 1) = false := by simp; omega
    by_cases h2 : 60 < s.size
    · rw [nameB_false (fun h => by have := h.2.1; omega)]
      have d2 : decide ((60 : Int) < s.size) = true := by simp; omega
      go_enter Tryz.func87, Tryz.ntmps87
      go_wp2
      go_ret
      exact ⟨rfl, rfl⟩
    · have d2 : decide ((60 : Int) < s.size) = false := by simp; omega
      go_enter Tryz.func87, Tryz.ntmps87
      go_wp2
      go_loopw [14] (fun i wr => ∃ k : Nat, k ≤ s.size ∧ i = .int .i64 k ∧ Hid (∀ j, (h : j < s.size) → j < k → 33 ≤ s[j].toNat ∧ s[j].toNat ≤ 126) ∧ w = wr) (fun i _ => s.size - (intOf i).toNat)
      case atStart => exact ⟨0, Nat.zero_le _, rfl, fun j _ hj => by omega, rfl⟩
      case round =>
        obtain ⟨k, hk, rfl, HA, rfl⟩ := hrel
        by_cases hlt : k < s.size
        · by_cases c1 : s[k].toNat < 33
          · have e1 : decide ((s[k].toNat : Int) < 33) = true := by simp; omega
            have HF : Hid (nameB s = false) := nameB_false (fun h => by have := h.2.2 k hlt; omega)
            clear c1
            go_wp2
            go_ret
            exact ⟨by rw [HF.out]; rfl, rfl⟩
          · have e1 : decide ((s[k].toNat : Int) < 33) = false := by simp; omega
            by_cases c2 : 126 < s[k].toNat
            · have e2 : decide ((126 : Int) < s[k].toNat) = true := by simp; omega
              have HF : Hid (nameB s = false) := nameB_false (fun h => by have := h.2.2 k hlt; omega)
              clear c1 c2
              go_wp2
              go_ret
              exact ⟨by rw [HF.out]; rfl, rfl⟩
            · have e2 : decide ((126 : Int) < s[k].toNat) = false := by simp; omega
              have HB : Hid (∀ j, (h : j < s.size) → j < k + 1 → 33 ≤ s[j].toNat ∧ s[j].toNat ≤ 126) := fun j h hj => by
                rcases Nat.lt_or_ge j k with h' | h'
                · exact HA.out j h h'
                · obtain rfl : j = k := by omega
                  omega
              clear c1 c2
              go_wp2
              go_roundw
              case rel => exact ⟨k + 1, by omega, by go_num, HB, by first | trivial | rfl⟩
              case measure => simp [intOf]; omega
        · have HF : Hid (nameB s = true) := nameB_true ⟨by omega, by omega, fun j h => HA.out j h (by omega)⟩
          go_wp2
          go_ret
          exact ⟨by rw [HF.out]; rfl, rfl⟩

end Go.Proofs.YtmeojnaoljgieadGreatDoor
