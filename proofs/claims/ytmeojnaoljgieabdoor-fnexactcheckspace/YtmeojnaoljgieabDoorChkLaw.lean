/-
  FnExactCheckSpace: the walk of the law.
-/
import Derived.Test.YtmeojnaoljgieabDoorChkS
namespace Go.Proofs.YtmeojnaoljgieabDoor
open Go.RowKit
set_option linter.unusedVariables false

theorem SpOk.at {w w' : World} {sa ta sa' ta' : Option Addr} {ss : List S2} {ts : List T2} (h : SpOk w sa ss ta ts) (rs : RowS w' sa' ss) (rt : RowT w' ta' ts) : SpOk w' sa' ss ta' ts :=
  ⟨rs, rt, h.ls, h.lt, h.ns, h.xs, h.nt, h.lc, h.xt⟩

set_option maxHeartbeats 4000000 in
theorem checkLaw (sa ta : Option Addr) (c1 c2 : Nat) (ss : List S2) (ts : List T2) (w : World) (hT : Tab w) (h : SpOk w sa ss ta ts) :
    Calls Tryd.prog 4 #[.agg #[.slice sa ss.length c1, .slice ta ts.length c2]] w fun e w' => e = .returned (.bool true) ∧ Below w.heap.size w w' := by
  have hb0 : Below w.heap.size w (w.alloc (.cells #[.slice sa ss.length c1, .slice ta ts.length c2] 36)) := (Below.refl _ _).alloc (Nat.le_refl _) _
  have hX0 : (w.alloc (.cells #[.slice sa ss.length c1, .slice ta ts.length c2] 36)).cell? ⟨w.heap.size, 0, none⟩ = some (.slice sa ss.length c1) := by simp [go_sem]
  have hX1 : (w.alloc (.cells #[.slice sa ss.length c1, .slice ta ts.length c2] 36)).cell? ⟨w.heap.size, 1, none⟩ = some (.slice ta ts.length c2) := by simp [go_sem]
  have H : Hid (SpOk w sa ss ta ts) := h
  have HT : Hid (Tab w) := hT
  have h0 := h.at (h.rs.below hb0) (h.rt.below hb0)
  clear hT
  obtain ⟨out, HO⟩ : ∃ out : Int, Hid (chk ss ts = out) := ⟨_, rfl⟩
  go_enter Tryd.func4, Tryd.ntmps4
  go_wp2_with fail
  refine (szSpace_any sa ta c1 c2 ss ts _ h0).mono ?_
  rintro e w1 ⟨hb1, r, rfl, hr⟩
  have hB1 := bt hb0 hb1
  have x10 := cell_below hb1 hX0
  have x11 := cell_below hb1 hX1
  rcases hr with hr | ⟨hsm, hr⟩
  · clear h h0 hb0 hb1
    go_wp2
    go_ret
    exact ⟨rfl, hB1⟩
  · have SM : Hid (SpSmall ss ts) := hsm
    clear h h0 hb0 hb1 hX0 hX1 hsm
    go_wp2_with fail
    refine (toSpace_any sa ta c1 c2 ss ts _ (H.out.rs.below hB1) (H.out.rt.below hB1) SM.out).mono ?_
    rintro e w2 ⟨hb2, g1, g2, rfl, r1, r2⟩
    have hB2 := bt hB1 hb2
    have x20 := cell_below hb2 x10
    have x21 := cell_below hb2 x11
    clear hb2 hB1 x10 x11
    go_wp2_with fail
    refine (specCheck_any _ _ _ _ ss ts _ (H.out.at r1 r2) SM.out).mono ?_
    rintro e w3 ⟨hb3, rfl⟩
    rw [HO.out]
    have hB3 := bt hB2 hb3
    have x30 := cell_below hb3 x20
    have x31 := cell_below hb3 x21
    clear hb3 hB2 r1 r2 x20 x21
    go_wp2_with fail
    refine (toSpace_any sa ta c1 c2 ss ts _ (H.out.rs.below hB3) (H.out.rt.below hB3) SM.out).mono ?_
    rintro e w4 ⟨hb4, g3, g4, rfl, r3, r4⟩
    have hB4 := bt hB3 hb4
    have x40 := cell_below hb4 x30
    have x41 := cell_below hb4 x31
    have hz4 := World.block_lt_of_cell? _ _ x40
    clear hb4 hB3 x30 x31
    go_wp2_with fail
    have hba : Below w4.heap.size w4 (w4.alloc (.cells #[.slice (some ⟨g3, 0, none⟩) ss.length ss.length, .slice (some ⟨g4, 0, none⟩) ts.length ts.length] 42)) := (Below.refl _ _).alloc (Nat.le_refl _) _
    have hY0 : (w4.alloc (.cells #[.slice (some ⟨g3, 0, none⟩) ss.length ss.length, .slice (some ⟨g4, 0, none⟩) ts.length ts.length] 42)).cell? ⟨w4.heap.size, 0, none⟩ = some (.slice (some ⟨g3, 0, none⟩) ss.length ss.length) := by simp [go_sem]
    have hY1 : (w4.alloc (.cells #[.slice (some ⟨g3, 0, none⟩) ss.length ss.length, .slice (some ⟨g4, 0, none⟩) ts.length ts.length] 42)).cell? ⟨w4.heap.size, 1, none⟩ = some (.slice (some ⟨g4, 0, none⟩) ts.length ts.length) := by simp [go_sem]
    refine (implCheck_any _ _ _ _ ss ts _ ((HT.out.below hB4).below hba) (H.out.at (r3.below hba) (r4.below hba)) SM.out).mono ?_
    rintro e w5 ⟨hb5, rfl⟩
    rw [HO.out]
    have hB5 := bt (bt hB4 hba) hb5
    have x50 := cell_below hb5 (cell_below hba x40)
    have x51 := cell_below hb5 (cell_below hba x41)
    have y50 := cell_below hb5 hY0
    have y51 := cell_below hb5 hY1
    have r5 : Hid (RowS w5 (some ⟨g3, 0, none⟩) ss) := (r3.below hba).below hb5
    have r6 : Hid (RowT w5 (some ⟨g4, 0, none⟩) ts) := (r4.below hba).below hb5
    have RA : Hid (RowS w5 sa ss) := H.out.rs.below hB5
    have RB : Hid (RowT w5 ta ts) := H.out.rt.below hB5
    clear hba hb5 hB4 r3 r4 x40 x41 hY0 hY1
    go_wp2_with fail
    have hb5d : Below w5.heap.size w5 w5.drew := (Below.refl _ _).drew
    go_region_held3 (fun w' => (w'.cell? ⟨w.heap.size, 0, none⟩ = some (.slice sa ss.length c1) ∧ w'.cell? ⟨w.heap.size, 1, none⟩ = some (.slice ta ts.length c2)) ∧ w'.cell? ⟨w4.heap.size, 0, none⟩ = some (.slice (some ⟨g3, 0, none⟩) ss.length ss.length) ∧ w'.cell? ⟨w4.heap.size, 1, none⟩ = some (.slice (some ⟨g4, 0, none⟩) ts.length ts.length))
      (first | assumption | exact ⟨⟨x50, x51⟩, y50, y51⟩ | exact ⟨⟨cell_below hb6 x50, cell_below hb6 x51⟩, cell_below hb6 y50, cell_below hb6 y51⟩ | exact ⟨⟨cell_below hb7 (cell_below hb6 x50), cell_below hb7 (cell_below hb6 x51)⟩, cell_below hb7 (cell_below hb6 y50), cell_below hb7 (cell_below hb6 y51)⟩ | (simp [*]; done))
      (first | (go_at_call 15; refine (eqSpace_same _ _ _ _ _ _ _ _ ss ts _ (r5.out.below (bt hb5d hb6)) (r6.out.below (bt hb5d hb6)) r7 r8 SM.out).mono ?_; rintro e w7 ⟨hb7, rfl⟩) | (go_at_call 13; refine (toSpace_any sa ta c1 c2 ss ts _ (RA.out.below hb5d) (RB.out.below hb5d) SM.out).mono ?_; rintro e w6 ⟨hb6, g5, g6, rfl, r7, r8⟩))
    all_goals
      go_wp2
      go_ret
      exact ⟨rfl, bt (bt (bt hB5 hb5d) hb6) hb7⟩

end Go.Proofs.YtmeojnaoljgieabDoor
