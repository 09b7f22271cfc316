/-
  FnExactPrintProgram: the walk of the law.
-/
import Derived.Test.YtmeojnaoljgieabDoorSPrint
namespace Go.Proofs.YtmeojnaoljgieabDoor
open Go.RowKit
set_option linter.unusedVariables false

theorem below_trans {w a b : World} (h : Below w.heap.size w a) (k : Below a.heap.size a b) : Below w.heap.size w b := h.trans (k.mono h.size)

set_option maxHeartbeats 1000000 in
theorem printLaw (a : Option Addr) (cap : Nat) (is : List I3) (w : World) (hT : Tab w) (hP : P10 w) (hc : Row3 w a is) (hl : is.length ≤ maxLen) (hs : ∀ i, (ix is i).text.size ≤ maxLen) :
    Calls Tryd.prog 3 #[.agg #[.slice a is.length cap]] w fun e w' => e = .returned (.bool true) ∧ Below w.heap.size w w' := by
  have hb0 : Below w.heap.size w (w.alloc (.cells #[.slice a is.length cap] 24)) := (Below.refl _ _).alloc (Nat.le_refl _) _
  have hs' : ∀ i, (ix is i).text.size ≤ 9223372036854775807 := hs
  have hc0 : (w.alloc (.cells #[.slice a is.length cap] 24)).cell? ⟨w.heap.size, 0, none⟩ = some (.slice a is.length cap) := by simp [go_sem]
  obtain ⟨out, HO⟩ : ∃ out : ByteArray, Hid ((if progOk is = true then (⟨(printL is is.length).toArray⟩ : ByteArray) else ⟨#[]⟩) = out) := ⟨_, rfl⟩
  go_enter Tryd.func3, Tryd.ntmps3
  go_wp2_with fail
  refine (szProgram_any a cap is _ (hc.below hb0) hl hs).mono ?_
  rintro e w1 ⟨hb1, r, rfl, hr⟩
  have hB1 := below_trans hb0 hb1
  have hc1 := cell_below hb1 hc0
  rcases hr with hr | ⟨htot, hr⟩
  · go_wp2
    go_ret
    exact ⟨rfl, hB1⟩
  · have hl5 : is.length ≤ 1048576 := by omega
    clear hb0 hb1
    go_wp2_with fail
    refine (toProgram_any a cap is _ (hc.below hB1) hl5).mono ?_
    rintro e w2 ⟨hb2, g, rfl, hr2⟩
    have hB2 := below_trans hB1 hb2
    have hc2 := cell_below hb2 hc1
    go_wp2_with fail
    refine (specPrint_any _ _ is _ hr2 hl5 hs').mono ?_
    rintro e w3 ⟨rfl, hb3⟩
    rw [HO.out]
    have hB3 := below_trans hB2 hb3
    have hc3 := cell_below hb3 hc2
    clear hb2 hb3 hB1 hB2 hc0 hc1 hc2 hr2
    go_wp2_with fail
    refine (toProgram_any a cap is _ (hc.below hB3) hl5).mono ?_
    rintro e w4 ⟨hb4, g2, rfl, hr4⟩
    have hB4 := below_trans hB3 hb4
    have hc4 := cell_below hb4 hc3
    have hz4 : w.heap.size < w4.heap.size := World.block_lt_of_cell? _ _ hc4
    clear hb4 hB3 hc3
    go_wp2_with fail
    have hba : Below w4.heap.size w4 (w4.alloc (.cells #[.slice (some ⟨g2, 0, none⟩) is.length is.length] 29)) := (Below.refl _ _).alloc (Nat.le_refl _) _
    have hd4 : (w4.alloc (.cells #[.slice (some ⟨g2, 0, none⟩) is.length is.length] 29)).cell? ⟨w4.heap.size, 0, none⟩ = some (.slice (some ⟨g2, 0, none⟩) is.length is.length) := by simp [go_sem]
    refine (implPrint_any _ _ is _ ((hT.below hB4).below hba) ((hP.below hB4).below hba) (hr4.below hba) hl5 hs').mono ?_
    rintro e w5 ⟨rfl, hb5⟩
    rw [HO.out]
    have hB5 := below_trans (below_trans hB4 hba) hb5
    have hc5 := cell_below hb5 (cell_below hba hc4)
    have hd5 := cell_below hb5 hd4
    have hr5 := (hr4.below hba).below hb5
    clear hba hd4 hb5 hB4 hc4 hr4
    have hbb := str_eq (rfl : out = out)
    go_wp2_with fail
    have hca := hc.below hB5
    have hb5d : Below w5.heap.size w5 w5.drew := (Below.refl _ _).drew
    go_region_held3 (fun w' => w'.cell? ⟨w4.heap.size, 0, none⟩ = some (.slice (some ⟨g2, 0, none⟩) is.length is.length) ∧ w'.cell? ⟨w.heap.size, 0, none⟩ = some (.slice a is.length cap))
      (first | assumption | exact ⟨cell_below hb6 hd5, cell_below hb6 hc5⟩ | exact ⟨cell_below hb7 (cell_below hb6 hd5), cell_below hb7 (cell_below hb6 hc5)⟩ | (simp [*]; done))
      (first | (go_at_call 8; refine (toProgram_any a cap is _ (hca.below hb5d) hl5).mono ?_; rintro e w6 ⟨hb6, g3, rfl, hr6⟩) | (go_at_call 10; refine (eqProgram_same _ _ _ _ is _ (hr5.below (below_trans hb5d hb6)) hr6 hl5).mono ?_; rintro e w7 ⟨hb7, rfl⟩))
    all_goals
      go_wp2
      go_ret
      exact ⟨rfl, below_trans (below_trans (below_trans hB5 hb5d) hb6) hb7⟩

end Go.Proofs.YtmeojnaoljgieabDoor
