/-
  FnExactPrintStore's law.
-/
import Derived.Test.YtmeojnaoljgieadGreatDoorPrV
namespace Go.Proofs.YtmeojnaoljgieadGreatDoor
open Go.RowKit
set_option linter.unusedVariables false

set_option maxRecDepth 100000 in
set_option maxHeartbeats 2000000 in
theorem printStoreLaw (n : Int) (ta ra : Option Addr) (tc rc : Nat) (ts : List ByteArray) (rs : List T3) (w : World) (hT : Tab w) (hP : P10 w) (h : SoOk w ta ts ra rs) :
    Calls Tryz.prog 3 #[.agg #[.int .i64 n, .slice ta ts.length tc, .slice ra rs.length rc]] w fun e w' => e = .returned (.bool true) ∧ Below w.heap.size w w' := by
  have hb0 : Below w.heap.size w (w.alloc (.cells #[.int .i64 n, .slice ta ts.length tc, .slice ra rs.length rc] 25)) := (Below.refl _ _).alloc (Nat.le_refl _) _
  have c0 : (w.alloc (.cells #[.int .i64 n, .slice ta ts.length tc, .slice ra rs.length rc] 25)).cell? ⟨w.heap.size, 0, none⟩ = some (.int .i64 n) := by simp [go_sem]
  have c1 : (w.alloc (.cells #[.int .i64 n, .slice ta ts.length tc, .slice ra rs.length rc] 25)).cell? ⟨w.heap.size, 1, none⟩ = some (.slice ta ts.length tc) := by simp [go_sem]
  have c2 : (w.alloc (.cells #[.int .i64 n, .slice ta ts.length tc, .slice ra rs.length rc] 25)).cell? ⟨w.heap.size, 2, none⟩ = some (.slice ra rs.length rc) := by simp [go_sem]
  have HO : Hid (SoOk w ta ts ra rs) := h
  have HT : Hid (Tab w) := hT
  have HP : Hid (P10 w) := hP
  clear h hT hP
  go_enter Tryz.func3, Tryz.ntmps3
  go_wp2_with fail
  refine (szStore_any n ta ra tc rc ts rs _ (HO.out.below hb0)).mono ?_
  rintro e w1 ⟨hb1, r, rfl, hr⟩
  have hB1 := bt hb0 hb1
  have c10 := cell_below hb1 c0
  have c11 := cell_below hb1 c1
  have c12 := cell_below hb1 c2
  clear hb0 hb1 c0 c1 c2
  rcases hr with hr | ⟨hr0, hl, hq⟩
  · go_wp2
    go_ret
    exact ⟨rfl, hB1⟩
  · have HQ : Hid (QsSmall rs) := hq
    have HIN : Hid (∀ (W : World) (a a' : Option Addr), Strs W a ts → RowQ W a' rs → StIn W a ts a' rs) := fun W a a' h1 h2 => ⟨h1, hl, fun i => HO.out.xn i, h2, HO.out.ok, hq⟩
    clear hq
    go_wp2_with fail
    refine (toStore_any n ta ra tc rc ts rs _ (HO.out.st.below hB1) (HO.out.rq.below hB1) hl HQ.out).mono ?_
    rintro e w3 ⟨hb3, g1, g2, rfl, hs3, hq3⟩
    have hB3 := bt hB1 hb3
    have c30 := cell_below hb3 c10
    have c31 := cell_below hb3 c11
    have c32 := cell_below hb3 c12
    go_wp2_with fail
    refine (specPrintStore_any n _ _ _ _ ts rs _ (HIN.out _ _ _ hs3 hq3)).mono ?_
    rintro e w4 ⟨rfl, hb4⟩
    have hB4 := bt hB3 hb4
    have c40 := cell_below hb4 c30
    have c41 := cell_below hb4 c31
    have c42 := cell_below hb4 c32
    clear hb3 hb4 hB1 hB3 c10 c11 c12 c30 c31 c32 hs3 hq3
    go_wp2_with fail
    refine (toStore_any n ta ra tc rc ts rs _ (HO.out.st.below hB4) (HO.out.rq.below hB4) hl HQ.out).mono ?_
    rintro e w5 ⟨hb5, g3, g4, rfl, hs5, hq5⟩
    have hB5 := bt hB4 hb5
    have c50 := cell_below hb5 c40
    have c51 := cell_below hb5 c41
    have c52 := cell_below hb5 c42
    have hb6 : Below w5.heap.size w5 (w5.alloc (.cells #[.int .i64 n, .slice (some ⟨g3, 0, none⟩) ts.length ts.length, .slice (some ⟨g4, 0, none⟩) rs.length rs.length] 30)) := (Below.refl _ _).alloc (Nat.le_refl _) _
    have d60 : (w5.alloc (.cells #[.int .i64 n, .slice (some ⟨g3, 0, none⟩) ts.length ts.length, .slice (some ⟨g4, 0, none⟩) rs.length rs.length] 30)).cell? ⟨w5.heap.size, 0, none⟩ = some (.int .i64 n) := by simp [go_sem]
    have d61 : (w5.alloc (.cells #[.int .i64 n, .slice (some ⟨g3, 0, none⟩) ts.length ts.length, .slice (some ⟨g4, 0, none⟩) rs.length rs.length] 30)).cell? ⟨w5.heap.size, 1, none⟩ = some (.slice (some ⟨g3, 0, none⟩) ts.length ts.length) := by simp [go_sem]
    have d62 : (w5.alloc (.cells #[.int .i64 n, .slice (some ⟨g3, 0, none⟩) ts.length ts.length, .slice (some ⟨g4, 0, none⟩) rs.length rs.length] 30)).cell? ⟨w5.heap.size, 2, none⟩ = some (.slice (some ⟨g4, 0, none⟩) rs.length rs.length) := by simp [go_sem]
    have hB6 := bt hB5 hb6
    have c60 := cell_below hb6 c50
    have c61 := cell_below hb6 c51
    have c62 := cell_below hb6 c52
    have hs6 := hs5.below hb6
    have hq6 := hq5.below hb6
    clear hB4 c40 c41 c42 hb5 hB5 c50 c51 c52 hb6 hs5 hq5
    go_wp2_with fail
    refine (implPrintStore_any n _ _ _ _ ts rs _ (HT.out.below hB6) (HP.out.below hB6) (HIN.out _ _ _ hs6 hq6)).mono ?_
    rintro e w7 ⟨rfl, hb7⟩
    have heq := str_eq (rfl : prB n ts rs = prB n ts rs)
    generalize prB n ts rs = pb at *
    have hB7 := bt hB6 hb7
    have c70 := cell_below hb7 c60
    have c71 := cell_below hb7 c61
    have c72 := cell_below hb7 c62
    have d70 := cell_below hb7 d60
    have d71 := cell_below hb7 d61
    have d72 := cell_below hb7 d62
    have hs7 := hs6.below hb7
    have hq7 := hq6.below hb7
    clear hB6 c60 c61 c62 d60 d61 d62 hb7 hs6 hq6
    have HS7 : Hid (Strs w7 (some ⟨g3, 0, none⟩) ts) := hs7
    have HQ7 : Hid (RowQ w7 (some ⟨g4, 0, none⟩) rs) := hq7
    clear hs7 hq7
    have hb8 : Below w7.heap.size w7 w7.drew := (Below.refl _ _).drew
    go_wp2_with fail
    go_region_held3 (fun w' => (w'.cell? ⟨w5.heap.size, 0, none⟩ = some (.int .i64 n) ∧ w'.cell? ⟨w5.heap.size, 1, none⟩ = some (.slice (some ⟨g3, 0, none⟩) ts.length ts.length) ∧ w'.cell? ⟨w5.heap.size, 2, none⟩ = some (.slice (some ⟨g4, 0, none⟩) rs.length rs.length)) ∧ (w'.cell? ⟨w.heap.size, 0, none⟩ = some (.int .i64 n) ∧ w'.cell? ⟨w.heap.size, 1, none⟩ = some (.slice ta ts.length tc) ∧ w'.cell? ⟨w.heap.size, 2, none⟩ = some (.slice ra rs.length rc)))
      (first | assumption | exact ⟨⟨cell_below hb9 d70, cell_below hb9 d71, cell_below hb9 d72⟩, cell_below hb9 c70, cell_below hb9 c71, cell_below hb9 c72⟩ | exact ⟨⟨cell_below hb10 (cell_below hb9 d70), cell_below hb10 (cell_below hb9 d71), cell_below hb10 (cell_below hb9 d72)⟩, cell_below hb10 (cell_below hb9 c70), cell_below hb10 (cell_below hb9 c71), cell_below hb10 (cell_below hb9 c72)⟩ | (simp [*]; done))
      (first | (go_at_call 10; refine (toStore_any n ta ra tc rc ts rs _ ((HO.out.st.below hB7).below hb8) ((HO.out.rq.below hB7).below hb8) hl HQ.out).mono ?_; rintro e w9 ⟨hb9, g5, g6, rfl, hs9, hq9⟩) | (go_at_call 12; refine (eqStore_same n _ _ _ _ _ _ _ _ ts rs _ (HS7.out.below (bt hb8 hb9)) hs9 (HQ7.out.below (bt hb8 hb9)) hq9 hl HQ.out).mono ?_; rintro e w10 ⟨hb10, rfl⟩))
    all_goals
      go_wp2
      go_ret
      exact ⟨rfl, bt (bt (bt hB7 hb8) hb9) hb10⟩

end Go.Proofs.YtmeojnaoljgieadGreatDoor
