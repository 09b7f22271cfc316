/-
  FnExactFormResult: laws.szResult, laws.toResult, laws.eqResult; the walk of the law.
-/
import Derived.Test.YtmeojnaoljgieaaDoorForm
namespace Go.Proofs.YtmeojnaoljgieaaDoor
open Go.RowKit
set_option linter.unusedVariables false

set_option maxHeartbeats 1000000 in
theorem szResult_any (c : Int) (t : ByteArray) (a : Option Addr) (cap : Nat) (ss : List ByteArray) (w : World) (ht : t.size ≤ maxLen) (hc : Strs w a ss) (hl : ss.length ≤ maxLen) (hs : ∀ s ∈ ss, s.size ≤ maxLen) :
    Calls Tryd.prog 5 #[.agg #[.int .i64 c, .string t, .slice a ss.length cap], .int .i64 1048576] w fun e w' => Below w.heap.size w w' ∧ ∃ r : Int, e = .returned (.int .i64 r) ∧ (r < 0 ∨ (t.size ≤ 1048576 ∧ ss.length ≤ 1048576 ∧ 0 ≤ r)) := by
  have hb0 : Below w.heap.size w (w.alloc (.cells #[.int .i64 c, .string t, .slice a ss.length cap] 24)) := (Below.refl _ _).alloc (Nat.le_refl _) _
  have ht' := ht
  unfold maxLen at ht'
  by_cases h0 : t.size ≤ 1048576
  · have HZ : Hid (∀ L : Int, 0 ≤ L → L ≤ 1048576 → Calls Tryd.prog 15 #[.slice a ss.length cap, .int .i64 L] (w.alloc (.cells #[.int .i64 c, .string t, .slice a ss.length cap] 24)) fun e w' => (w.alloc (.cells #[.int .i64 c, .string t, .slice a ss.length cap] 24)) = w' ∧ ∃ r : Int, e = .returned (.int .i64 r) ∧ (r < 0 ∨ ((ss.length + total ss : Int) ≤ L ∧ 0 ≤ r))) := fun L h1 h2 => szStringS_any a cap ss _ (hc.below hb0) hl hs L h1 h2
    go_enter Tryd.func5, Tryd.ntmps5
    go_wp2_with (go_at_call 15; refine (HZ.out _ (by omega) (by omega)).mono ?_; rintro e w' ⟨rfl, r, rfl, hr⟩)
    all_goals go_ret
    · exact ⟨hb0, -1, rfl, by omega⟩
    · exact ⟨hb0, r, rfl, by omega⟩
  · go_enter Tryd.func5, Tryd.ntmps5
    go_wp2
    go_ret
    exact ⟨hb0, -1, rfl, by omega⟩

set_option maxHeartbeats 1000000 in
theorem toResult_any (c : Int) (t : ByteArray) (a : Option Addr) (cap : Nat) (ss : List ByteArray) (w : World) (hc : Strs w a ss) (hl : ss.length ≤ 1048576) :
    Calls Tryd.prog 7 #[.agg #[.int .i64 c, .string t, .slice a ss.length cap]] w fun e w' => Below w.heap.size w w' ∧ ∃ g : Nat, e = .returned (.agg #[.int .i64 c, .string t, .slice (some ⟨g, 0, none⟩) ss.length ss.length]) ∧ Strs w' (some ⟨g, 0, none⟩) ss := by
  go_enter Tryd.func7, Tryd.ntmps7
  go_wp2_with fail
  have hb0 : Below w.heap.size w (((w.alloc (.cells #[.int .i64 c, .string t, .slice a ss.length cap] 24)).alloc (.cells #[.int .i64 0, .string ⟨#[]⟩, .slice none 0 0] 27)).alloc (.cells #[.int .i64 c, .string t, .slice none 0 0] 27)) := (((Below.refl _ _).alloc (Nat.le_refl _) _).alloc (by simp) _).alloc (by simp; omega) _
  refine (toStringS_any a cap ss _ (hc.below hb0) hl).mono ?_
  rintro e w1 ⟨hb1, g, rfl, hg, hr⟩
  simp at hg
  have hb : Below w.heap.size w w1 := hb0.trans (hb1.mono hb0.size)
  have hz := hb1.size
  simp at hz
  have c10 : w1.cell? ⟨w.heap.size + 1, 0, none⟩ = some (.int .i64 0) := cell_below hb1 (by simp [go_sem])
  have c11 : w1.cell? ⟨w.heap.size + 1, 1, none⟩ = some (.string ⟨#[]⟩) := cell_below hb1 (by simp [go_sem])
  have c12 : w1.cell? ⟨w.heap.size + 1, 2, none⟩ = some (.slice none 0 0) := cell_below hb1 (by simp [go_sem])
  have c20 : w1.cell? ⟨w.heap.size + 1 + 1, 0, none⟩ = some (.int .i64 c) := cell_below hb1 (by simp [go_sem])
  have c21 : w1.cell? ⟨w.heap.size + 1 + 1, 1, none⟩ = some (.string t) := cell_below hb1 (by simp [go_sem])
  have c22 : w1.cell? ⟨w.heap.size + 1 + 1, 2, none⟩ = some (.slice none 0 0) := cell_below hb1 (by simp [go_sem])
  have f1 : ∀ j, w1.frozen? ⟨w.heap.size + 1, j, none⟩ = false := fun j => by rw [hb1.frozen (p := ⟨w.heap.size + 1, j, none⟩) (by simp)]; simp [go_sem]
  have f2 : ∀ j, w1.frozen? ⟨w.heap.size + 1 + 1, j, none⟩ = false := fun j => by rw [hb1.frozen (p := ⟨w.heap.size + 1 + 1, j, none⟩) (by simp)]; simp [go_sem]
  clear hb0 hb1
  go_wp2
  refine bodyPost_ret (v := .agg #[.int .i64 c, .string t, .slice (some ⟨g, 0, none⟩) ss.length ss.length]) (by simp [results, Tryd.results7, go_sem, c10, c11, c12]) rfl ⟨?_, g, rfl, ?_⟩
  · exact (((hb.setCell (p := ⟨w.heap.size + 1 + 1, 2, none⟩) (by simp; omega) _).setCell (p := ⟨w.heap.size + 1, 0, none⟩) (by simp) _).setCell (p := ⟨w.heap.size + 1, 1, none⟩) (by simp) _).setCell (p := ⟨w.heap.size + 1, 2, none⟩) (by simp) _
  · exact (((hr.setCell (by omega) _).setCell (by omega) _).setCell (by omega) _).setCell (by omega) _

set_option maxHeartbeats 1000000 in
theorem eqResult_same (c : Int) (t : ByteArray) (a a' : Option Addr) (cap cap' : Nat) (ss : List ByteArray) (w : World) (hc : Strs w a ss) (hc' : Strs w a' ss) (hl : ss.length ≤ 1048576) :
    Calls Tryd.prog 9 #[.agg #[.int .i64 c, .string t, .slice a ss.length cap], .agg #[.int .i64 c, .string t, .slice a' ss.length cap']] w fun e w' => Below w.heap.size w w' ∧ e = .returned (.bool true) := by
  go_enter Tryd.func9, Tryd.ntmps9
  go_wp2_with fail
  have hb0 : Below w.heap.size w ((w.alloc (.cells #[.int .i64 c, .string t, .slice a ss.length cap] 27)).alloc (.cells #[.int .i64 c, .string t, .slice a' ss.length cap'] 27)) := ((Below.refl _ _).alloc (Nat.le_refl _) _).alloc (by simp) _
  refine (eqStringS_same a a' cap cap' ss _ (hc.below hb0) (hc'.below hb0) hl).mono ?_
  rintro e w1 ⟨hb1, rfl⟩
  go_wp2
  go_ret
  exact ⟨hb0.trans (hb1.mono hb0.size), rfl⟩

/-- What FormResult answers: the two agree. -/
theorem form_out (c : Int) (t : ByteArray) (n : Nat) (ht : t.size ≤ 1048576) (hn : n ≤ 1048576) : ∃ out : ByteArray,
    (∀ (a : Option Addr) (cap : Nat) (w : World), Calls Tryd.prog 6 #[.agg #[.int .i64 c, .string t, .slice a n cap]] w fun e w' => e = .returned (.string out) ∧ Below w.heap.size w w') ∧
    (∀ (a : Option Addr) (cap : Nat) (w : World), Calls Tryd.prog 8 #[.agg #[.int .i64 c, .string t, .slice a n cap]] w fun e w' => e = .returned (.string out) ∧ Below w.heap.size w w') := by
  by_cases h : c < 0 ∨ 5 < c ∨ 2000 < t.size ∨ 0 < n
  · exact ⟨_, fun a cap w => specForm_no c t a n cap w ht hn h, fun a cap w => implForm_no c t a n cap w ht hn h⟩
  · obtain ⟨m, rfl⟩ := Int.eq_ofNat_of_zero_le (show 0 ≤ c by omega)
    obtain rfl : n = 0 := by omega
    exact ⟨_, fun a cap w => specForm_yes m t a cap w (by omega) (by omega), fun a cap w => implForm_yes m t a cap w (by omega) (by omega)⟩

/-- A result's three cells at a block. -/
def R3 (w : World) (b : Nat) (c : Int) (t : ByteArray) (s : Value) : Prop := w.cell? ⟨b, 0, none⟩ = some (.int .i64 c) ∧ w.cell? ⟨b, 1, none⟩ = some (.string t) ∧ w.cell? ⟨b, 2, none⟩ = some s
theorem R3.below {w w' : World} {b : Nat} {c : Int} {t : ByteArray} {s : Value} (h : R3 w b c t s) (hb : Below w.heap.size w w') : R3 w' b c t s := ⟨cell_below hb h.1, cell_below hb h.2.1, cell_below hb h.2.2⟩
theorem R3.new (w : World) (c : Int) (t : ByteArray) (s : Value) (ty : TypeId) : R3 (w.alloc (.cells #[.int .i64 c, .string t, s] ty)) w.heap.size c t s := ⟨by simp [go_sem], by simp [go_sem], by simp [go_sem]⟩

set_option maxHeartbeats 4000000 in
theorem formLaw (c : Int) (t : ByteArray) (a : Option Addr) (cap : Nat) (ss : List ByteArray) (w : World) (ht : t.size ≤ maxLen) (hc : Strs w a ss) (hl : ss.length ≤ maxLen) (hs : ∀ s ∈ ss, s.size ≤ maxLen) :
    Calls Tryd.prog 3 #[.agg #[.int .i64 c, .string t, .slice a ss.length cap]] w fun e w' => e = .returned (.bool true) ∧ Below w.heap.size w w' := by
  have hb0 : Below w.heap.size w (w.alloc (.cells #[.int .i64 c, .string t, .slice a ss.length cap] 24)) := (Below.refl _ _).alloc (Nat.le_refl _) _
  have hX := R3.new w c t (.slice a ss.length cap) 24
  go_enter Tryd.func3, Tryd.ntmps3
  go_wp2_with fail
  refine (szResult_any c t a cap ss _ ht (hc.below hb0) hl hs).mono ?_
  rintro e w1 ⟨hb1, r, rfl, hr⟩
  have hB1 := below_trans hb0 hb1
  replace hX := hX.below hb1
  rcases hr with hr | ⟨ht5, hl5, hr⟩
  · go_wp2
    go_ret
    exact ⟨rfl, hB1⟩
  · clear hb0 hb1
    obtain ⟨out, hS, hI⟩ := form_out c t ss.length ht5 hl5
    have HS : Hid _ := hS
    have HI : Hid _ := hI
    clear hS hI
    obtain ⟨hx0, hx1, hx2⟩ := hX
    go_wp2_with fail
    refine (toResult_any c t a cap ss _ (hc.below hB1) hl5).mono ?_
    rintro e w2 ⟨hb2, g, rfl, hr2⟩
    have hX : R3 w1 w.heap.size c t (.slice a ss.length cap) := ⟨hx0, hx1, hx2⟩
    replace hX := hX.below hb2
    have hB2 := below_trans hB1 hb2
    clear hx0 hx1 hx2 hb2 hB1
    go_wp2_with fail
    refine (HS.out _ _ _).mono ?_
    rintro e w3 ⟨rfl, hb3⟩
    replace hX := hX.below hb3
    have hB3 := below_trans hB2 hb3
    clear hb3 hB2 hr2
    obtain ⟨hx0, hx1, hx2⟩ := hX
    go_wp2_with fail
    refine (toResult_any c t a cap ss _ (hc.below hB3) hl5).mono ?_
    rintro e w4 ⟨hb4, g2, rfl, hr4⟩
    have hX : R3 w3 w.heap.size c t (.slice a ss.length cap) := ⟨hx0, hx1, hx2⟩
    replace hX := hX.below hb4
    have hB4 := below_trans hB3 hb4
    clear hx0 hx1 hx2 hb4 hB3
    have hz4 := World.block_lt_of_cell? _ _ hX.1
    go_wp2_with fail
    have hba : Below w4.heap.size w4 (w4.alloc (.cells #[.int .i64 c, .string t, .slice (some ⟨g2, 0, none⟩) ss.length ss.length] 27)) := (Below.refl _ _).alloc (Nat.le_refl _) _
    have hY := R3.new w4 c t (.slice (some ⟨g2, 0, none⟩) ss.length ss.length) 27
    replace hX := hX.below hba
    refine (HI.out _ _ _).mono ?_
    rintro e w5 ⟨rfl, hb5⟩
    replace hX := hX.below hb5
    replace hY := hY.below hb5
    have hB5 := below_trans (below_trans hB4 hba) hb5
    have hr5 := (hr4.below hba).below hb5
    clear hba hb5 hB4 hr4
    go_wp2_with fail
    have hca := hc.below hB5
    have hb5d : Below w5.heap.size w5 w5.drew := (Below.refl _ _).drew
    obtain ⟨hx0, hx1, hx2⟩ := hX
    obtain ⟨hy0, hy1, hy2⟩ := hY
    have hX : R3 w5 w.heap.size c t (.slice a ss.length cap) := ⟨hx0, hx1, hx2⟩
    have hY : R3 w5 w4.heap.size c t (.slice (some ⟨g2, 0, none⟩) ss.length ss.length) := ⟨hy0, hy1, hy2⟩
    go_region_with (first | (go_at_call 9; refine (eqResult_same c t _ _ _ _ ss _ (hr5.below (below_trans hb5d hb6)) hr6 hl5).mono ?_; rintro e w7 ⟨hb7, rfl⟩) | (go_at_call 7; refine (toResult_any c t a cap ss _ (hca.below hb5d) hl5).mono ?_; rintro e w6 ⟨hb6, g3, rfl, hr6⟩; obtain ⟨hv0, hv1, hv2⟩ := hY.below (below_trans hb5d hb6)))
    all_goals
      go_wp2
      go_ret
      exact ⟨rfl, below_trans (below_trans (below_trans hB5 hb5d) hb6) hb7⟩

end Go.Proofs.YtmeojnaoljgieaaDoor
