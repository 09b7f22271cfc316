/-
  The contracts of spec.ReadResult and impl.ReadResult.
-/
import Derived.Test.YtmeojnaoljgieaaRows
import Derived.WalkKit
import Derived.ProofKit
import Derived.OpenShut
import Derived.Below
namespace Go.Proofs.Ytmeojnaoljgieaa
open Go.RowKit
set_option linter.unusedVariables false

/-- Whether a text is the form of a result. -/
def rrB (s : ByteArray) : Prop := ∃ h : 2 ≤ s.size, s.size ≤ 2002 ∧ 48 ≤ (s[0].toNat : Int) ∧ (s[0].toNat : Int) ≤ 53 ∧ (s[1].toNat : Int) = 58

/-- A Result without a chain; with a bool. -/
def resA (c : Int) (t : ByteArray) : Value := .agg #[.int .i64 c, .string t, .slice none 0 0]
def resV (c : Int) (t : ByteArray) (b : Bool) : Value := .tuple #[resA c t, .bool b]

theorem parts_no {s : ByteArray} (h : ¬ rrB s) : s.size < 2 ∨ ∃ h : 2 ≤ s.size, 2002 < s.size ∨ (s[0].toNat : Int) < 48 ∨ 53 < (s[0].toNat : Int) ∨ (s[1].toNat : Int) ≠ 58 := by
  by_cases h1 : s.size < 2
  · exact .inl h1
  · refine .inr ⟨by omega, ?_⟩
    have h2 : 2 ≤ s.size := by omega
    have : ¬ (s.size ≤ 2002 ∧ 48 ≤ (s[0].toNat : Int) ∧ (s[0].toNat : Int) ≤ 53 ∧ (s[1].toNat : Int) = 58) := fun k => h ⟨h2, k⟩
    omega

set_option maxHeartbeats 1000000 in
theorem specRead_no (s : ByteArray) (w : World) (hs : s.size ≤ 1048576) (h : ¬ rrB s) :
    Calls Try.prog 14 #[.string s] w fun e w' => e = .returned (resV 0 ⟨#[]⟩ false) ∧ Below w.heap.size w w' := by
  rcases parts_no h with h | ⟨h, k⟩
  · go_enter Try.func14, Try.ntmps14
    go_wp2
    exact bodyPost_ret (v := resV 0 ⟨#[]⟩ false) (by simp [results, Try.results14, go_sem, resV, resA]) rfl ⟨rfl, (Below.refl _ _).alloc (Nat.le_refl _) _⟩
  · have hcase : (s[1].toNat : Int) = 58 ∨ ((s[1].toNat : Int) != 58) = true := by by_cases e : (s[1].toNat : Int) = 58; exact .inl e; exact .inr (by simpa using e)
    rcases hcase with hcase | hcase
    all_goals
      go_enter Try.func14, Try.ntmps14
      go_wp2
    all_goals first
      | exact bodyPost_ret (v := resV 0 ⟨#[]⟩ false) (by simp [results, Try.results14, go_sem, resV, resA]) rfl ⟨rfl, (Below.refl _ _).alloc (Nat.le_refl _) _⟩
      | (exfalso; omega)

set_option maxHeartbeats 1000000 in
theorem specRead_yes (s : ByteArray) (w : World) (h : rrB s) (h0 : 0 < s.size) :
    Calls Try.prog 14 #[.string s] w fun e w' => e = .returned (resV ((s[0].toNat : Int) - 48) (s.extract 2 s.size) true) ∧ Below w.heap.size w w' := by
  obtain ⟨h, h2, h3, h4, h5⟩ := h
  go_enter Try.func14, Try.ntmps14
  go_wp2
  go_region
  go_wp2
  exact bodyPost_ret (v := resV ((s[0].toNat : Int) - 48) (s.extract 2 s.size) true) (by simp [results, Try.results14, go_sem, resV, resA]) rfl ⟨rfl, ((Below.refl _ _).alloc (Nat.le_refl _) _).drew⟩

set_option maxHeartbeats 1000000 in
theorem implRead_no (s : ByteArray) (w : World) (hs : s.size ≤ 1048576) (h : ¬ rrB s) :
    Calls Try.prog 15 #[.string s] w fun e w' => e = .returned (resV 0 ⟨#[]⟩ false) ∧ Below w.heap.size w w' := by
  rcases parts_no h with h | ⟨h, k⟩
  · go_enter Try.func15, Try.ntmps15
    go_wp2
    exact bodyPost_ret (v := resV 0 ⟨#[]⟩ false) (by simp [results, Try.results15, go_sem, resV, resA]) rfl ⟨rfl, (Below.refl _ _).alloc (Nat.le_refl _) _⟩
  · have hcase : (s[1].toNat : Int) = 58 ∨ ((s[1].toNat : Int) != 58) = true := by by_cases e : (s[1].toNat : Int) = 58; exact .inl e; exact .inr (by simpa using e)
    rcases hcase with hcase | hcase
    all_goals
      go_enter Try.func15, Try.ntmps15
      go_wp2
    all_goals first
      | exact bodyPost_ret (v := resV 0 ⟨#[]⟩ false) (by simp [results, Try.results15, go_sem, resV, resA]) rfl ⟨rfl, (Below.refl _ _).alloc (Nat.le_refl _) _⟩
      | (exfalso; omega)

set_option maxHeartbeats 1000000 in
theorem implRead_yes (s : ByteArray) (w : World) (h : rrB s) (h0 : 0 < s.size) :
    Calls Try.prog 15 #[.string s] w fun e w' => e = .returned (resV ((s[0].toNat : Int) - 48) (s.extract 2 s.size) true) ∧ Below w.heap.size w w' := by
  obtain ⟨h, h2, h3, h4, h5⟩ := h
  go_enter Try.func15, Try.ntmps15
  go_wp2
  go_region
  go_wp2
  exact bodyPost_ret (v := resV ((s[0].toNat : Int) - 48) (s.extract 2 s.size) true) (by simp [results, Try.results15, go_sem, resV, resA]) rfl ⟨rfl, ((Below.refl _ _).alloc (Nat.le_refl _) _).drew⟩

theorem markNone (k : Int) (w : World) : Calls Try.prog 24 #[.slice none 0 0, .int .i64 k] w fun e w' => e = .returned (.int .i64 k) ∧ w = w' := by
  go_enter Try.func24, Try.ntmps24
  go_wp2
  go_loop [1, 5] (fun c i => c = .int .i64 k ∧ i = .int .i64 0) (fun _ _ => 0)
  case atStart => exact ⟨rfl, rfl⟩
  case round =>
    obtain ⟨rfl, rfl⟩ := hrel
    go_wp2
    go_ret
    exact ⟨rfl, rfl⟩

theorem heldNone (k : Int) (w : World) : Calls Try.prog 25 #[.slice none 0 0, .int .i64 k] w fun e w' => e = .returned (.int .i64 k) ∧ w = w' := by
  go_enter Try.func25, Try.ntmps25
  go_wp2
  go_loop [1, 5] (fun c i => c = .int .i64 k ∧ i = .int .i64 0) (fun _ _ => 0)
  case atStart => exact ⟨rfl, rfl⟩
  case round =>
    obtain ⟨rfl, rfl⟩ := hrel
    go_wp2
    go_ret
    exact ⟨rfl, rfl⟩

theorem eqNone (w : World) : Calls Try.prog 13 #[.slice none 0 0, .slice none 0 0] w fun e w' => e = .returned (.bool true) ∧ w = w' := by
  go_enter Try.func13, Try.ntmps13
  go_wp2
  go_loop [5] (fun i => i = .int .i64 0) (fun _ => 0)
  case atStart => rfl
  case round =>
    subst hrel
    go_wp2
    go_ret
    exact ⟨rfl, rfl⟩

theorem markRes (c : Int) (t : ByteArray) (k : Int) (w : World) : Calls Try.prog 17 #[resA c t, .int .i64 k] w fun e w' => e = .returned (.int .i64 k) ∧ Below w.heap.size w w' := by
  unfold resA
  go_enter Try.func17, Try.ntmps17
  go_wp2_with (go_at_call 24; refine (markNone _ _).mono ?_; rintro e w' ⟨rfl, rfl⟩)
  go_ret
  exact ⟨rfl, (Below.refl _ _).alloc (Nat.le_refl _) _⟩

theorem heldRes (c : Int) (t : ByteArray) (k : Int) (hk : 0 ≤ k) (w : World) : Calls Try.prog 18 #[resA c t, .int .i64 k] w fun e w' => e = .returned (.int .i64 k) ∧ Below w.heap.size w w' := by
  unfold resA
  go_enter Try.func18, Try.ntmps18
  go_wp2_with (go_at_call 25; refine (heldNone _ _).mono ?_; rintro e w' ⟨rfl, rfl⟩)
  go_ret
  exact ⟨rfl, (Below.refl _ _).alloc (Nat.le_refl _) _⟩


theorem eqRes (c : Int) (t : ByteArray) (w : World) : Calls Try.prog 16 #[resA c t, resA c t] w fun e w' => e = .returned (.bool true) ∧ Below w.heap.size w w' := by
  unfold resA
  go_enter Try.func16, Try.ntmps16
  go_wp2_with (go_at_call 13; refine (eqNone _).mono ?_; rintro e w' ⟨rfl, rfl⟩)
  go_ret
  exact ⟨rfl, ((Below.refl _ _).alloc (Nat.le_refl _) _).alloc (by simp) _⟩

end Go.Proofs.Ytmeojnaoljgieaa
