/-
  Small functions of Next: spec.l2NameOk, l2Flag, l2Takes, l2End; impl.validName, oneIf, machine.over, machine.stuck, stack.take, stack.put; laws.eqTurn.
-/
import Derived.Test.YtmeojnaoljgieabDoorSDec
import Derived.Test.YtmeojnaoljgieabDoorIPrint
namespace Go.Proofs.YtmeojnaoljgieabDoor
open Go.RowKit
set_option linter.unusedVariables false

def NameOk (s : ByteArray) : Prop := 1 ≤ s.size ∧ s.size ≤ 60 ∧ ∀ j, (h : j < s.size) → 33 ≤ s[j].toNat ∧ s[j].toNat ≤ 126
noncomputable def nameB (s : ByteArray) : Bool := @decide (NameOk s) (Classical.propDecidable _)
theorem nameB_true {s : ByteArray} (h : NameOk s) : nameB s = true := by simp [nameB, h]
theorem nameB_false {s : ByteArray} (h : ¬ NameOk s) : nameB s = false := by simp [nameB, h]
def flagB (b : Bool) : ByteArray := if b then ⟨#[49]⟩ else ⟨#[48]⟩

set_option maxHeartbeats 400000 in
theorem l2NameOk_any (s : ByteArray) (w : World) (hs : s.size ≤ 9223372036854775807) : Calls Tryd.prog 34 #[.string s] w fun e w' => e = .returned (.bool (nameB s)) ∧ w = w' := by
  by_cases h1 : s.size < 1
  · rw [nameB_false (fun h => by have := h.1; omega)]
    have d1 : decide ((s.size : Int) < 1) = true := by simp; omega
    go_enter Tryd.func34, Tryd.ntmps34
    go_wp2
    go_ret
    exact ⟨rfl, rfl⟩
  · have d1 : decide ((s.size : Int) < 1) = false := by simp; omega
    by_cases h2 : 60 < s.size
    · rw [nameB_false (fun h => by have := h.2.1; omega)]
      have d2 : decide ((60 : Int) < s.size) = true := by simp; omega
      go_enter Tryd.func34, Tryd.ntmps34
      go_wp2
      go_ret
      exact ⟨rfl, rfl⟩
    · have d2 : decide ((60 : Int) < s.size) = false := by simp; omega
      go_enter Tryd.func34, Tryd.ntmps34
      go_wp2
      go_loopw [3] (fun i wr => ∃ k : Nat, k ≤ s.size ∧ i = .int .i64 k ∧ Hid (∀ j, (h : j < s.size) → j < k → 33 ≤ s[j].toNat ∧ s[j].toNat ≤ 126) ∧ w = wr) (fun i _ => s.size - (intOf i).toNat)
      case atStart => exact ⟨0, Nat.zero_le _, rfl, fun j _ hj => by omega, rfl⟩
      case round =>
        obtain ⟨k, hk, rfl, HA, rfl⟩ := hrel
        by_cases hlt : k < s.size
        · by_cases c1 : s[k].toNat < 33
          · have e1 : decide ((s[k].toNat : Int) < 33) = true := by simp; omega
            have HF : Hid (nameB s = false) := nameB_false (fun h => by have := h.2.2 k hlt; omega)
            clear c1
            go_wp2
            go_ret
            exact ⟨by rw [HF.out]; rfl, rfl⟩
          · have e1 : decide ((s[k].toNat : Int) < 33) = false := by simp; omega
            by_cases c2 : 126 < s[k].toNat
            · have e2 : decide ((126 : Int) < s[k].toNat) = true := by simp; omega
              have HF : Hid (nameB s = false) := nameB_false (fun h => by have := h.2.2 k hlt; omega)
              clear c1 c2
              go_wp2
              go_ret
              exact ⟨by rw [HF.out]; rfl, rfl⟩
            · have e2 : decide ((126 : Int) < s[k].toNat) = false := by simp; omega
              have HB : Hid (∀ j, (h : j < s.size) → j < k + 1 → 33 ≤ s[j].toNat ∧ s[j].toNat ≤ 126) := fun j h hj => by
                rcases Nat.lt_or_ge j k with h' | h'
                · exact HA.out j h h'
                · obtain rfl : j = k := by omega
                  omega
              clear c1 c2
              go_wp2
              go_roundw
              case rel => exact ⟨k + 1, by omega, by go_num, HB, by first | trivial | rfl⟩
              case measure => simp [intOf]; omega
        · have HF : Hid (nameB s = true) := nameB_true ⟨by omega, by omega, fun j h => HA.out j h (by omega)⟩
          go_wp2
          go_ret
          exact ⟨by rw [HF.out]; rfl, rfl⟩

set_option maxHeartbeats 400000 in
theorem validName_any (s : ByteArray) (w : World) (hs : s.size ≤ 9223372036854775807) : Calls Tryd.prog 69 #[.string s] w fun e w' => e = .returned (.bool (nameB s)) ∧ w = w' := by
  by_cases h1 : s.size < 1
  · rw [nameB_false (fun h => by have := h.1; omega)]
    have d1 : decide ((s.size : Int) < 1) = true := by simp; omega
    go_enter Tryd.func69, Tryd.ntmps69
    go_wp2
    go_ret
    exact ⟨rfl, rfl⟩
  · have d1 : decide ((s.size : Int) < 1) = false := by simp; omega
    by_cases h2 : 60 < s.size
    · rw [nameB_false (fun h => by have := h.2.1; omega)]
      have d2 : decide ((60 : Int) < s.size) = true := by simp; omega
      go_enter Tryd.func69, Tryd.ntmps69
      go_wp2
      go_ret
      exact ⟨rfl, rfl⟩
    · have d2 : decide ((60 : Int) < s.size) = false := by simp; omega
      go_enter Tryd.func69, Tryd.ntmps69
      go_wp2
      go_loopw [14] (fun i wr => ∃ k : Nat, k ≤ s.size ∧ i = .int .i64 k ∧ Hid (∀ j, (h : j < s.size) → j < k → 33 ≤ s[j].toNat ∧ s[j].toNat ≤ 126) ∧ w = wr) (fun i _ => s.size - (intOf i).toNat)
      case atStart => exact ⟨0, Nat.zero_le _, rfl, fun j _ hj => by omega, rfl⟩
      case round =>
        obtain ⟨k, hk, rfl, HA, rfl⟩ := hrel
        by_cases hlt : k < s.size
        · by_cases c1 : s[k].toNat < 33
          · have e1 : decide ((s[k].toNat : Int) < 33) = true := by simp; omega
            have HF : Hid (nameB s = false) := nameB_false (fun h => by have := h.2.2 k hlt; omega)
            clear c1
            go_wp2
            go_ret
            exact ⟨by rw [HF.out]; rfl, rfl⟩
          · have e1 : decide ((s[k].toNat : Int) < 33) = false := by simp; omega
            by_cases c2 : 126 < s[k].toNat
            · have e2 : decide ((126 : Int) < s[k].toNat) = true := by simp; omega
              have HF : Hid (nameB s = false) := nameB_false (fun h => by have := h.2.2 k hlt; omega)
              clear c1 c2
              go_wp2
              go_ret
              exact ⟨by rw [HF.out]; rfl, rfl⟩
            · have e2 : decide ((126 : Int) < s[k].toNat) = false := by simp; omega
              have HB : Hid (∀ j, (h : j < s.size) → j < k + 1 → 33 ≤ s[j].toNat ∧ s[j].toNat ≤ 126) := fun j h hj => by
                rcases Nat.lt_or_ge j k with h' | h'
                · exact HA.out j h h'
                · obtain rfl : j = k := by omega
                  omega
              clear c1 c2
              go_wp2
              go_roundw
              case rel => exact ⟨k + 1, by omega, by go_num, HB, by first | trivial | rfl⟩
              case measure => simp [intOf]; omega
        · have HF : Hid (nameB s = true) := nameB_true ⟨by omega, by omega, fun j h => HA.out j h (by omega)⟩
          go_wp2
          go_ret
          exact ⟨by rw [HF.out]; rfl, rfl⟩

set_option maxHeartbeats 400000 in
theorem l2Flag_any (b : Bool) (w : World) : Calls Tryd.prog 93 #[.bool b] w fun e w' => e = .returned (.string (flagB b)) ∧ w = w' := by
  cases b
  all_goals
    go_enter Tryd.func93, Tryd.ntmps93
    go_wp2
    go_ret
    exact ⟨rfl, rfl⟩

set_option maxHeartbeats 400000 in
theorem oneIf_any (b : Bool) (w : World) : Calls Tryd.prog 82 #[.bool b] w fun e w' => e = .returned (.string (flagB b)) ∧ w = w' := by
  cases b
  all_goals
    go_enter Tryd.func82, Tryd.ntmps82
    go_wp2
    go_ret
    exact ⟨rfl, rfl⟩

def putsOf : List Int := [0, 1, 1, 1, 1, 1, 1, 2, 2, 0, 0, 0, 1, 1, 0, 0]

set_option maxHeartbeats 400000 in
theorem l2Takes_1 (w : World) : Calls Tryd.prog 74 #[.int .i64 1] w fun e w' => e = .returned (.tuple #[.int .i64 0, .int .i64 1]) ∧ w = w' := by
  go_enter Tryd.func74, Tryd.ntmps74
  go_wp2
  go_ret2
  exact ⟨rfl, rfl⟩

set_option maxHeartbeats 400000 in
theorem l2Takes_2 (w : World) : Calls Tryd.prog 74 #[.int .i64 2] w fun e w' => e = .returned (.tuple #[.int .i64 2, .int .i64 1]) ∧ w = w' := by
  go_enter Tryd.func74, Tryd.ntmps74
  go_wp2
  go_ret2
  exact ⟨rfl, rfl⟩

set_option maxHeartbeats 400000 in
theorem l2Takes_3 (w : World) : Calls Tryd.prog 74 #[.int .i64 3] w fun e w' => e = .returned (.tuple #[.int .i64 1, .int .i64 1]) ∧ w = w' := by
  go_enter Tryd.func74, Tryd.ntmps74
  go_wp2
  go_ret2
  exact ⟨rfl, rfl⟩

set_option maxHeartbeats 400000 in
theorem l2Takes_4 (w : World) : Calls Tryd.prog 74 #[.int .i64 4] w fun e w' => e = .returned (.tuple #[.int .i64 1, .int .i64 1]) ∧ w = w' := by
  go_enter Tryd.func74, Tryd.ntmps74
  go_wp2
  go_ret2
  exact ⟨rfl, rfl⟩

set_option maxHeartbeats 400000 in
theorem l2Takes_5 (w : World) : Calls Tryd.prog 74 #[.int .i64 5] w fun e w' => e = .returned (.tuple #[.int .i64 1, .int .i64 1]) ∧ w = w' := by
  go_enter Tryd.func74, Tryd.ntmps74
  go_wp2
  go_ret2
  exact ⟨rfl, rfl⟩

set_option maxHeartbeats 400000 in
theorem l2Takes_6 (w : World) : Calls Tryd.prog 74 #[.int .i64 6] w fun e w' => e = .returned (.tuple #[.int .i64 2, .int .i64 1]) ∧ w = w' := by
  go_enter Tryd.func74, Tryd.ntmps74
  go_wp2
  go_ret2
  exact ⟨rfl, rfl⟩

set_option maxHeartbeats 400000 in
theorem l2Takes_7 (w : World) : Calls Tryd.prog 74 #[.int .i64 7] w fun e w' => e = .returned (.tuple #[.int .i64 1, .int .i64 2]) ∧ w = w' := by
  go_enter Tryd.func74, Tryd.ntmps74
  go_wp2
  go_ret2
  exact ⟨rfl, rfl⟩

set_option maxHeartbeats 400000 in
theorem l2Takes_8 (w : World) : Calls Tryd.prog 74 #[.int .i64 8] w fun e w' => e = .returned (.tuple #[.int .i64 2, .int .i64 2]) ∧ w = w' := by
  go_enter Tryd.func74, Tryd.ntmps74
  go_wp2
  go_ret2
  exact ⟨rfl, rfl⟩

set_option maxHeartbeats 400000 in
theorem l2Takes_9 (w : World) : Calls Tryd.prog 74 #[.int .i64 9] w fun e w' => e = .returned (.tuple #[.int .i64 1, .int .i64 0]) ∧ w = w' := by
  go_enter Tryd.func74, Tryd.ntmps74
  go_wp2
  go_ret2
  exact ⟨rfl, rfl⟩

set_option maxHeartbeats 400000 in
theorem l2Takes_10 (w : World) : Calls Tryd.prog 74 #[.int .i64 10] w fun e w' => e = .returned (.tuple #[.int .i64 0, .int .i64 0]) ∧ w = w' := by
  go_enter Tryd.func74, Tryd.ntmps74
  go_wp2
  go_ret2
  exact ⟨rfl, rfl⟩

set_option maxHeartbeats 400000 in
theorem l2Takes_11 (w : World) : Calls Tryd.prog 74 #[.int .i64 11] w fun e w' => e = .returned (.tuple #[.int .i64 1, .int .i64 0]) ∧ w = w' := by
  go_enter Tryd.func74, Tryd.ntmps74
  go_wp2
  go_ret2
  exact ⟨rfl, rfl⟩

set_option maxHeartbeats 400000 in
theorem l2Takes_12 (w : World) : Calls Tryd.prog 74 #[.int .i64 12] w fun e w' => e = .returned (.tuple #[.int .i64 1, .int .i64 1]) ∧ w = w' := by
  go_enter Tryd.func74, Tryd.ntmps74
  go_wp2
  go_ret2
  exact ⟨rfl, rfl⟩

set_option maxHeartbeats 400000 in
theorem l2Takes_13 (w : World) : Calls Tryd.prog 74 #[.int .i64 13] w fun e w' => e = .returned (.tuple #[.int .i64 1, .int .i64 1]) ∧ w = w' := by
  go_enter Tryd.func74, Tryd.ntmps74
  go_wp2
  go_ret2
  exact ⟨rfl, rfl⟩

set_option maxHeartbeats 400000 in
theorem l2Takes_14 (w : World) : Calls Tryd.prog 74 #[.int .i64 14] w fun e w' => e = .returned (.tuple #[.int .i64 1, .int .i64 0]) ∧ w = w' := by
  go_enter Tryd.func74, Tryd.ntmps74
  go_wp2
  go_ret2
  exact ⟨rfl, rfl⟩

set_option maxHeartbeats 400000 in
theorem l2Takes_15 (w : World) : Calls Tryd.prog 74 #[.int .i64 15] w fun e w' => e = .returned (.tuple #[.int .i64 1, .int .i64 0]) ∧ w = w' := by
  go_enter Tryd.func74, Tryd.ntmps74
  go_wp2
  go_ret2
  exact ⟨rfl, rfl⟩

theorem l2Takes_in (o : Nat) (w : World) (h1 : 1 ≤ o) (h2 : o ≤ 15) : Calls Tryd.prog 74 #[.int .i64 o] w fun e w' => e = .returned (.tuple #[.int .i64 (takesOf.getD o 0), .int .i64 (putsOf.getD o 0)]) ∧ w = w' := by
  rcases (show o = 1 ∨ o = 2 ∨ o = 3 ∨ o = 4 ∨ o = 5 ∨ o = 6 ∨ o = 7 ∨ o = 8 ∨ o = 9 ∨ o = 10 ∨ o = 11 ∨ o = 12 ∨ o = 13 ∨ o = 14 ∨ o = 15 from by omega) with rfl | rfl | rfl | rfl | rfl | rfl | rfl | rfl | rfl | rfl | rfl | rfl | rfl | rfl | rfl
  · exact l2Takes_1 w
  · exact l2Takes_2 w
  · exact l2Takes_3 w
  · exact l2Takes_4 w
  · exact l2Takes_5 w
  · exact l2Takes_6 w
  · exact l2Takes_7 w
  · exact l2Takes_8 w
  · exact l2Takes_9 w
  · exact l2Takes_10 w
  · exact l2Takes_11 w
  · exact l2Takes_12 w
  · exact l2Takes_13 w
  · exact l2Takes_14 w
  · exact l2Takes_15 w

/-- A run of the specification, between two instructions. -/
def runV (pl : Int) (sk : Value) (st lk : Int) : Value := .agg #[.int .i64 pl, sk, .int .i64 st, .int .i64 lk, .bool false, .int .i64 0, .string ⟨#[]⟩, .bool false, .string ⟨#[]⟩, .bool false]
def overV (pl : Int) (sk : Value) (st lk c : Int) (t : ByteArray) : Value := .agg #[.int .i64 pl, sk, .int .i64 st, .int .i64 lk, .bool true, .int .i64 c, .string t, .bool false, .string ⟨#[]⟩, .bool false]
def waitV (pl : Int) (sk : Value) (st lk : Int) (ask : Bool) (nm : ByteArray) : Value := .agg #[.int .i64 pl, sk, .int .i64 st, .int .i64 lk, .bool false, .int .i64 0, .string ⟨#[]⟩, .bool ask, .string nm, .bool true]
/-- A Turn. -/
def turnV (ov : Bool) (c : Int) (t : ByteArray) (ask : Bool) (nm : ByteArray) (st : Int) : Value := .agg #[.bool ov, .int .i64 c, .string t, .bool ask, .string nm, .int .i64 st]

set_option maxHeartbeats 400000 in
theorem l2End_any (pl : Int) (a : Option Addr) (n cap : Nat) (st lk c : Int) (t : ByteArray) (w : World) :
    Calls Tryd.prog 73 #[runV pl (.slice a n cap) st lk, .int .i64 c, .string t] w fun e w' => e = .returned (overV pl (.slice a n cap) st lk c t) ∧ Below w.heap.size w w' := by
  unfold runV
  go_enter Tryd.func73, Tryd.ntmps73
  go_wp2
  exact bodyPost_ret (v := overV pl (.slice a n cap) st lk c t) (by simp [results, Tryd.results73, go_sem, overV]) rfl ⟨rfl, ((Below.refl _ _).alloc (Nat.le_refl _) _).alloc (by simp) _⟩

set_option maxHeartbeats 400000 in
theorem eqTurn_same (ov : Bool) (c : Int) (t : ByteArray) (ask : Bool) (nm : ByteArray) (st : Int) (w : World) :
    Calls Tryd.prog 20 #[turnV ov c t ask nm st, turnV ov c t ask nm st] w fun e w' => e = .returned (.bool true) ∧ Below w.heap.size w w' := by
  unfold turnV
  have e1 := str_eq (rfl : t = t)
  have e2 := str_eq (rfl : nm = nm)
  go_enter Tryd.func20, Tryd.ntmps20
  go_wp2
  go_ret
  exact ⟨rfl, ((Below.refl _ _).alloc (Nat.le_refl _) _).alloc (by simp) _⟩

end Go.Proofs.YtmeojnaoljgieabDoor
