/-
  spec.CheckSpace.
-/
import Derived.Test.YtmeojnaoljgieacDoorChkI
namespace Go.Proofs.YtmeojnaoljgieacDoor
open Go.RowKit
set_option linter.unusedVariables false

set_option maxHeartbeats 1000000 in
theorem l3Target_any (sa ta : Option Addr) (n1 c1 c2 : Nat) (ts : List T2) (s : ByteArray) (w : World) (hc : RowT w ta ts) (hl : ts.length ≤ 1048576) :
    Calls Tryd.prog 83 #[.agg #[.slice sa n1 c1, .slice ta ts.length c2], .string s] w fun e w' => Below w.heap.size w w' ∧ ∃ r : Int, e = .returned (.int .i64 r) ∧ ((0 ≤ r ∧ Has (tnames ts) s) ∨ (r < 0 ∧ ¬ Has (tnames ts) s)) := by
  have hb0 : Below w.heap.size w (w.alloc (.cells #[.slice sa n1 c1, .slice ta ts.length c2] 42)) := (Below.refl _ _).alloc (Nat.le_refl _) _
  have k1 : (w.alloc (.cells #[.slice sa n1 c1, .slice ta ts.length c2] 42)).cell? ⟨w.heap.size, 1, none⟩ = some (.slice ta ts.length c2) := by simp [go_sem]
  have HC : Hid (RowT (w.alloc (.cells #[.slice sa n1 c1, .slice ta ts.length c2] 42)) ta ts) := hc.below hb0
  clear hc
  go_enter Tryd.func83, Tryd.ntmps83
  go_wp2
  go_loopw [5] (fun i wr => ∃ k : Nat, k ≤ ts.length ∧ i = .int .i64 k ∧ Hid (∀ j, j < k → (tx ts j).name ≠ s) ∧ (w.alloc (.cells #[.slice sa n1 c1, .slice ta ts.length c2] 42)) = wr) (fun i _ => ts.length - (intOf i).toNat)
  case atStart => exact ⟨0, Nat.zero_le _, rfl, (fun j hj => by omega : ∀ j, j < 0 → (tx ts j).name ≠ s), rfl⟩
  case round =>
    obtain ⟨k, hk, rfl, HA, rfl⟩ := hrel
    by_cases hlt : k < ts.length
    · obtain ⟨b, off, rfl, c1', x, p, c2', c3'⟩ := HC.out k hlt
      have hkI : (k : Int) < (ts.length : Int) := by omega
      obtain ⟨nm, en⟩ : ∃ nm, (tx ts k).name = nm := ⟨_, rfl⟩
      have EN : Hid ((tx ts k).name = nm) := en
      rw [en] at c1'
      clear en c2' c3'
      by_cases he : nm = s
      · have heq := str_eq he
        have HE : Hid (nm = s) := he
        clear he
        go_wp2
        go_ret
        exact ⟨hb0, _, rfl, Or.inl ⟨by omega, k, by rw [tnames_length]; exact hlt, by rw [nx_tnames, EN.out]; exact HE.out⟩⟩
      · have heq := str_ne he
        have HE : Hid (nm ≠ s) := he
        clear he
        go_wp2
        go_roundw
        case rel => exact ⟨k + 1, by omega, by go_num, ext_succ HA.out (by rw [EN.out]; exact HE.out), trivial⟩
        case measure => simp [intOf]; omega
    · go_wp2
      go_ret
      exact ⟨hb0, _, rfl, Or.inr ⟨by omega, fun ⟨j, hj, e⟩ => by rw [tnames_length] at hj; rw [nx_tnames] at e; exact HA.out j (by omega) e⟩⟩

end Go.Proofs.YtmeojnaoljgieacDoor
