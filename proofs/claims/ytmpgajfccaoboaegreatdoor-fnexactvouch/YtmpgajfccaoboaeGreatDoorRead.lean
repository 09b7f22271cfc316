/-
  The contracts of spec.ReadResult and impl.ReadResult.
-/
import Derived.Test.YtmpgajfccaoboaeGreatDoorProg
import Derived.WalkKit
import Derived.ProofKit
import Derived.OpenShut
import Derived.Below
namespace Go.Proofs.YtmpgajfccaoboaeGreatDoor
open Go.RowKit
set_option linter.unusedVariables false

/-- Whether a text is the form of a result. -/
def rrB (s : ByteArray) : Prop := ∃ h : 2 ≤ s.size, s.size ≤ 2002 ∧ 48 ≤ (s[0].toNat : Int) ∧ (s[0].toNat : Int) ≤ 53 ∧ (s[1].toNat : Int) = 58

/-- A Result without a chain; with a bool. -/
def resA (c : Int) (t : ByteArray) : Value := .agg #[.int .i64 c, .string t, .slice none 0 0]
def resV (c : Int) (t : ByteArray) (b : Bool) : Value := .tuple #[resA c t, .bool b]

theorem parts_no {s : ByteArray} (h : ¬ rrB s) : s.size < 2 ∨ ∃ h : 2 ≤ s.size, 2002 < s.size ∨ (s[0].toNat : Int) < 48 ∨ 53 < (s[0].toNat : Int) ∨ (s[1].toNat : Int) ≠ 58 := by
  by_cases h1 : s.size < 2
  · exact .inl h1
  · refine .inr ⟨by omega, ?_⟩
    have h2 : 2 ≤ s.size := by omega
    have : ¬ (s.size ≤ 2002 ∧ 48 ≤ (s[0].toNat : Int) ∧ (s[0].toNat : Int) ≤ 53 ∧ (s[1].toNat : Int) = 58) := fun k => h ⟨h2, k⟩
    omega

set_option maxHeartbeats 1000000 in
theorem specRead_no (s : ByteArray) (w : World) (hs : s.size ≤ 1048576) (h : ¬ rrB s) :
    Calls Tryz.prog 154 #[.string s] w fun e w' => e = .returned (resV 0 ⟨#[]⟩ false) ∧ Below w.heap.size w w' := by
  rcases parts_no h with h | ⟨h, k⟩
  · go_enter Tryz.func154, Tryz.ntmps154
    go_wp2
    exact bodyPost_ret (v := resV 0 ⟨#[]⟩ false) (by simp [results, Tryz.results154, go_sem, resV, resA]) rfl ⟨rfl, (Below.refl _ _).alloc (Nat.le_refl _) _⟩
  · have hcase : (s[1].toNat : Int) = 58 ∨ ((s[1].toNat : Int) != 58) = true := by by_cases e : (s[1].toNat : Int) = 58; exact .inl e; exact .inr (by simpa using e)
    rcases hcase with hcase | hcase
    all_goals
      go_enter Tryz.func154, Tryz.ntmps154
      go_wp2
    all_goals first
      | exact bodyPost_ret (v := resV 0 ⟨#[]⟩ false) (by simp [results, Tryz.results154, go_sem, resV, resA]) rfl ⟨rfl, (Below.refl _ _).alloc (Nat.le_refl _) _⟩
      | (exfalso; omega)

set_option maxHeartbeats 1000000 in
theorem specRead_yes (s : ByteArray) (w : World) (h : rrB s) (h0 : 0 < s.size) :
    Calls Tryz.prog 154 #[.string s] w fun e w' => e = .returned (resV ((s[0].toNat : Int) - 48) (s.extract 2 s.size) true) ∧ Below w.heap.size w w' := by
  obtain ⟨h, h2, h3, h4, h5⟩ := h
  go_enter Tryz.func154, Tryz.ntmps154
  go_wp2
  go_region
  go_wp2
  exact bodyPost_ret (v := resV ((s[0].toNat : Int) - 48) (s.extract 2 s.size) true) (by simp [results, Tryz.results154, go_sem, resV, resA]) rfl ⟨rfl, ((Below.refl _ _).alloc (Nat.le_refl _) _).drew⟩

set_option maxHeartbeats 1000000 in
theorem implRead_no (s : ByteArray) (w : World) (hs : s.size ≤ 1048576) (h : ¬ rrB s) :
    Calls Tryz.prog 163 #[.string s] w fun e w' => e = .returned (resV 0 ⟨#[]⟩ false) ∧ Below w.heap.size w w' := by
  rcases parts_no h with h | ⟨h, k⟩
  · go_enter Tryz.func163, Tryz.ntmps163
    go_wp2
    exact bodyPost_ret (v := resV 0 ⟨#[]⟩ false) (by simp [results, Tryz.results163, go_sem, resV, resA]) rfl ⟨rfl, (Below.refl _ _).alloc (Nat.le_refl _) _⟩
  · have hcase : (s[1].toNat : Int) = 58 ∨ ((s[1].toNat : Int) != 58) = true := by by_cases e : (s[1].toNat : Int) = 58; exact .inl e; exact .inr (by simpa using e)
    rcases hcase with hcase | hcase
    all_goals
      go_enter Tryz.func163, Tryz.ntmps163
      go_wp2
    all_goals first
      | exact bodyPost_ret (v := resV 0 ⟨#[]⟩ false) (by simp [results, Tryz.results163, go_sem, resV, resA]) rfl ⟨rfl, (Below.refl _ _).alloc (Nat.le_refl _) _⟩
      | (exfalso; omega)

set_option maxHeartbeats 1000000 in
theorem implRead_yes (s : ByteArray) (w : World) (h : rrB s) (h0 : 0 < s.size) :
    Calls Tryz.prog 163 #[.string s] w fun e w' => e = .returned (resV ((s[0].toNat : Int) - 48) (s.extract 2 s.size) true) ∧ Below w.heap.size w w' := by
  obtain ⟨h, h2, h3, h4, h5⟩ := h
  go_enter Tryz.func163, Tryz.ntmps163
  go_wp2
  go_region
  go_wp2
  exact bodyPost_ret (v := resV ((s[0].toNat : Int) - 48) (s.extract 2 s.size) true) (by simp [results, Tryz.results163, go_sem, resV, resA]) rfl ⟨rfl, ((Below.refl _ _).alloc (Nat.le_refl _) _).drew⟩

end Go.Proofs.YtmpgajfccaoboaeGreatDoor
