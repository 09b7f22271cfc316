/-
  Blocks of a Kept.
-/
import Derived.Test.YtmeojnaoljgieadDoorPxA
import Derived.Test.YtmeojnaoljgieadDoorCpC
namespace Go.Proofs.YtmeojnaoljgieadDoor
open Go.RowKit Go.Deep
set_option linter.unusedVariables false

theorem blk_c6 {w : World} {b T : Nat} {v1 v2 v3 v4 v5 v6 : Value} (h : w.heap[b]? = some (.cells #[v1, v2, v3, v4, v5, v6] T (0, 0))) : w.cell? ⟨b, 0, none⟩ = some v1 ∧ w.cell? ⟨b, 1, none⟩ = some v2 ∧ w.cell? ⟨b, 2, none⟩ = some v3 ∧ w.cell? ⟨b, 3, none⟩ = some v4 ∧ w.cell? ⟨b, 4, none⟩ = some v5 ∧ w.cell? ⟨b, 5, none⟩ = some v6 :=
  ⟨by rw [Lib.cell_of_heap h]; rfl, by rw [Lib.cell_of_heap h]; rfl, by rw [Lib.cell_of_heap h]; rfl, by rw [Lib.cell_of_heap h]; rfl, by rw [Lib.cell_of_heap h]; rfl, by rw [Lib.cell_of_heap h]; rfl⟩
theorem below_set6P {B R : Nat} {w w' : World} (h : Below B w w') (hR : B ≤ R) (u1 u2 u3 u4 u5 u6 : Value) : Below B w ((((((w'.setCell ⟨R, 0, none⟩ u1).setCell ⟨R, 1, none⟩ u2).setCell ⟨R, 2, none⟩ u3).setCell ⟨R, 3, none⟩ u4).setCell ⟨R, 4, none⟩ u5).setCell ⟨R, 5, none⟩ u6) :=
  (((((h.setCell (p := ⟨R, 0, none⟩) hR _).setCell (p := ⟨R, 1, none⟩) hR _).setCell (p := ⟨R, 2, none⟩) hR _).setCell (p := ⟨R, 3, none⟩) hR _).setCell (p := ⟨R, 4, none⟩) hR _).setCell (p := ⟨R, 5, none⟩) hR _
theorem OwnX.set6 {w : World} {lo hi R : Nat} {v : Value} {ts : List ByteArray} (h : OwnX w lo hi v ts) (hR : R < lo) (u1 u2 u3 u4 u5 u6 : Value) : OwnX ((((((w.setCell ⟨R, 0, none⟩ u1).setCell ⟨R, 1, none⟩ u2).setCell ⟨R, 2, none⟩ u3).setCell ⟨R, 3, none⟩ u4).setCell ⟨R, 4, none⟩ u5).setCell ⟨R, 5, none⟩ u6) lo hi v ts :=
  (((((h.set hR _).set hR _).set hR _).set hR _).set hR _).set hR _
theorem OwnQ.set6 {w : World} {lo hi R : Nat} {v : Value} {rs : List T3} (h : OwnQ w lo hi v rs) (hR : R < lo) (u1 u2 u3 u4 u5 u6 : Value) : OwnQ ((((((w.setCell ⟨R, 0, none⟩ u1).setCell ⟨R, 1, none⟩ u2).setCell ⟨R, 2, none⟩ u3).setCell ⟨R, 3, none⟩ u4).setCell ⟨R, 4, none⟩ u5).setCell ⟨R, 5, none⟩ u6) lo hi v rs :=
  (((((h.set hR _).set hR _).set hR _).set hR _).set hR _).set hR _
/-- What a Kept with a store hands out. -/
theorem KpOut.full {lo lo' hi' R : Nat} {w : World} {n : Int} {ts ts' : List ByteArray} {rs rs' : List T3} {x A B : ByteArray} {cd wd : Int} {v1 v2 : Value} (h : KpP n ts rs x cd wd ts' rs' A B) (h1 : OwnX w lo' hi' v1 ts') (h2 : OwnQ w lo' hi' v2 rs') (hR : R < lo') (hl : lo ≤ lo') (hh : hi' ≤ w.heap.size) (u1 u2 u3 u4 u5 u6 : Value) : KpOut lo ((((((w.setCell ⟨R, 0, none⟩ u1).setCell ⟨R, 1, none⟩ u2).setCell ⟨R, 2, none⟩ u3).setCell ⟨R, 3, none⟩ u4).setCell ⟨R, 4, none⟩ u5).setCell ⟨R, 5, none⟩ u6) (.returned (.agg #[.int .i64 cd, .int .i64 wd, v1, v2, .string A, .string B])) n ts rs x :=
  ⟨cd, wd, ts', rs', A, B, v1, v2, rfl, h, (h1.set6 hR _ _ _ _ _ _).wide hl (by simpa using hh), (h2.set6 hR _ _ _ _ _ _).wide hl (by simpa using hh)⟩

end Go.Proofs.YtmeojnaoljgieadDoor
