import Derived.Test.YtmanoabocelpeaaGreatDoorTNStand
import Derived.Test.YtmanoabocelpeaaGreatDoorTNPlainS
import Derived.Test.YtmanoabocelpeaaGreatDoorTVoG
import Derived.Test.YtmanoabocelpeaaGreatDoorTForm
import Derived.Deep.DeepCutAuto
namespace Go.Proofs.YtmanoabocelpeaaGreatDoor
open Go.RowKit
set_option linter.unusedVariables false
set_option maxHeartbeats 8000000
set_option maxRecDepth 100000
theorem specNext_yes (a ra : Option Addr) (cap rcap : Nat) (is : List I3) (ys : List R3) (w : World) (hc : Row3 w a is) (hr : RowR w ra ys) (hl : is.length <= 1048576) (hs : ∀ i, (ix is i).text.size <= 9223372036854775807) (hs2 : ∀ i, (rx ys i).text.size <= 9223372036854775807) (hv1 : progOk is = true) (hv2 : repsOk ys = true) :
  Calls Tryz.prog 10 #[.agg #[.slice a is.length cap], .slice ra ys.length rcap] w fun e w' => Below w.heap.size w w' /\ ∃ r, Full is ys s00 r /\ e = .returned (resT r) := by
 have hb0 : Below w.heap.size w ((w.alloc (.cells #[.slice a is.length cap] 37)).alloc (.cells #[.bool false, .int .i64 0, .string ⟨#[]⟩, .bool false, .string ⟨#[]⟩, .int .i64 0] 44)) := ((Below.refl _ _).alloc (Nat.le_refl _) _).alloc (by simp) _
 have hk : ((w.alloc (.cells #[.slice a is.length cap] 37)).alloc (.cells #[.bool false, .int .i64 0, .string ⟨#[]⟩, .bool false, .string ⟨#[]⟩, .int .i64 0] 44)).heap[w.heap.size + 1]? = some (.cells #[.bool false, .int .i64 0, .string ⟨#[]⟩, .bool false, .string ⟨#[]⟩, .int .i64 0] 44 (0, 0)) := by
  have h := heap_new (w.alloc (.cells #[.slice a is.length cap] 37)) (.cells #[.bool false, .int .i64 0, .string ⟨#[]⟩, .bool false, .string ⟨#[]⟩, .int .i64 0] 44)
  rw [show (w.alloc (.cells #[.slice a is.length cap] 37)).heap.size = w.heap.size + 1 from by simp] at h
  exact h
 have hbx : ((w.alloc (.cells #[.slice a is.length cap] 37)).alloc (.cells #[.bool false, .int .i64 0, .string ⟨#[]⟩, .bool false, .string ⟨#[]⟩, .int .i64 0] 44)).cell? ⟨w.heap.size, 0, none⟩ = some (.slice a is.length cap) := by simp [go_sem]
 have hv2' := hv2
 simp only [repsOk, Bool.and_eq_true, decide_eq_true_eq] at hv2'
 have hlen : ys.length <= 200 := hv2'.1
 have HV1 : Hid (progOk is = true) := hv1
 have HV2 : Hid (repsOk ys = true) := hv2
 have HOK : Hid (∀ i, i < ys.length -> repOk (rx ys i) = true) := hv2'.2
 have HC : Hid (Row3 w a is) := hc
 have HR : Hid (RowR w ra ys) := hr
 clear hv2' hv2
 go_enter Tryz.func10, Tryz.ntmps10
 go_wp2_with fail
 refine (specValid_any a cap is _ (HC.out.below hb0) hl hs).mono ?_
 rintro e w1 ⟨hb1, rfl⟩
 have hB1 := bN hb0 hb1
 have hk1 := blkB hb1 hk
 have hbx1 := cell_below hb1 hbx
 rw [hv1]
 clear hb0 hb1 hk hbx hv1 hc hr
 have d2 : decide ((200 : Int) < (ys.length : Int)) = false := by simp; omega
 have HK1 : Hid (w1.heap[w.heap.size + 1]? = some (.cells #[.bool false, .int .i64 0, .string ⟨#[]⟩, .bool false, .string ⟨#[]⟩, .int .i64 0] 44 (0, 0))) := hk1
 have HB1 : Hid (Below w.heap.size w w1) := hB1
 have HX1 : Hid (w1.cell? ⟨w.heap.size, 0, none⟩ = some (.slice a is.length cap)) := hbx1
 have hR1 : w.heap.size + 1 < w1.heap.size := blk_lt hk1
 clear hk1 hB1 hbx1
 go_wp2_with fail
 go_loopw [5] (fun i wr => ∃ k : Nat, k <= ys.length /\ i = .int .i64 k /\ w1 = wr) (fun i _ => ys.length - (intOf i).toNat)
 case atStart => exact ⟨0, Nat.zero_le _, rfl, rfl⟩
 case round =>
  obtain ⟨k, hk, rfl, rfl⟩ := hrel
  by_cases hlt : k < ys.length
  ·obtain ⟨b, off, rfl, c1, c2, c3⟩ := (HR.out.below HB1.out) k hlt
   have hsk := hs2 k
   have hok := HOK.out k hlt
   clear hs2 HR HOK
   generalize rx ys k = r at *
   have d1 : decide ((2000 : Int) < (r.text.size : Int)) = false := by simp only [repOk, Bool.and_eq_true, decide_eq_true_eq] at hok; simp; omega
   have d3 : decide (r.code < 0) = false := by simp only [repOk, Bool.and_eq_true, decide_eq_true_eq] at hok; simp; omega
   have d4 : decide (7 < r.code) = false := by simp only [repOk, Bool.and_eq_true, decide_eq_true_eq] at hok; simp; omega
   clear hok
   go_wp2_with fail
   go_roundw
   case rel => exact ⟨k + 1, by omega, by go_num, trivial⟩
   case measure => simp [intOf]; omega
  ·have hkI : ¬ (k : Int) < (ys.length : Int) := by omega
   go_wp2_with fail
   go_loopg [] 2002 (fun kx wr => ∃ (x0 : Int) (ax : Option Addr) (nx cx : Nat) (x2 x3 : Int) (x4 : Bool) (x5 : Int) (x6 : ByteArray) (x7 : Bool) (x8 : ByteArray) (x9 : Bool), Hid (wr.heap[w1.heap.size]? = some (.cells #[.int .i64 x0, .slice ax nx cx, .int .i64 x2, .int .i64 x3, .bool x4, .int .i64 x5, .string x6, .bool x7, .string x8, .bool x9] 77 (0, 0))) /\ Hid (Stand is ys w1.heap.size wr kx x0 ax nx cx x2 x3 x4 x5 x6 x7 x8 x9) /\ Hid (Below w1.heap.size w1 wr))
   case atStart => exact ⟨0, none, 0, 0, 0, 0, false, 0, ⟨#[]⟩, false, ⟨#[]⟩, false, heap_new _ _, Or.inl ⟨s00, s00_ok is, fun r h => h, ⟨rfl, Or.inl ⟨rfl, rfl⟩⟩, by simp [s00], rfl, rfl, rfl, rfl, rfl, rfl, rfl, rfl, rfl, rfl⟩, (Below.refl _ _).alloc (Nat.le_refl _) _⟩
   case round =>
    obtain ⟨x0, ax, nx, cx, x2, x3, x4, x5, x6, x7, x8, x9, HRB, HST, HBW⟩ := hrel
    have hxw : wr.cell? ⟨w.heap.size, 0, none⟩ = some (.slice a is.length cap) := by rw [HBW.out.cell (p := ⟨w.heap.size, 0, none⟩) (by simp; omega)]; exact HX1.out
    have hkw : wr.heap[w.heap.size + 1]? = some (.cells #[.bool false, .int .i64 0, .string ⟨#[]⟩, .bool false, .string ⟨#[]⟩, .int .i64 0] 44 (0, 0)) := by rw [HBW.out.block _ hR1]; exact HK1.out
    have hBw : Below w.heap.size w wr := HB1.out.trans (HBW.out.mono (by omega))
    have hrb := HRB.out
    rcases HST.out with ⟨s, h1, h2, h3, h4, rfl, rfl, rfl, rfl, rfl, rfl, rfl, rfl, rfl, rfl⟩ | ⟨n, h1, rfl, rfl, rfl⟩ | ⟨n, h1, rfl, rfl, rfl⟩
    ·have HS : Hid (StOk is s) := h1
     have HF : Hid (∀ r, Full is ys s r -> Full is ys s00 r) := h2
     have HOW : Hid (Own w1.heap.size wr ax cx s.stack) := h3
     have hst := h1.steps
     have hlr : w1.heap.size < wr.heap.size := blk_lt hrb
     have p0 := Lib.cell_of_heap hrb 0
     have p1 := Lib.cell_of_heap hrb 1
     have p2 := Lib.cell_of_heap hrb 2
     have p3 := Lib.cell_of_heap hrb 3
     have p4 := Lib.cell_of_heap hrb 4
     have p5 := Lib.cell_of_heap hrb 5
     have p6 := Lib.cell_of_heap hrb 6
     have p7 := Lib.cell_of_heap hrb 7
     have p8 := Lib.cell_of_heap hrb 8
     have p9 := Lib.cell_of_heap hrb 9
     simp only [gA, gB, gC] at p0 p1 p2 p3 p4 p5 p6 p7 p8 p9
     have fp : ∀ j, wr.frozen? ⟨w1.heap.size, j, none⟩ = false := fun j => Lib.frozen_of_heap hrb j
     clear h1 h2 h3 hrb HST
     go_wp2_with fail
     have hl3 := l2Step_any a cap is s ax cx ra rcap ys wr w1.heap.size HV1.out HS.out (HC.out.below hBw) HOW.out hlen (HR.out.below hBw)
     unfold runV at hl3
     refine hl3.mono ?_
     rintro e w3 ⟨hb3, hpost⟩
     obtain ⟨y0, ay, ny, cy, y2, y3, y4, y5, y6, y7, y8, y9, rfl, hsd⟩ := stand_step HV1.out HS.out HV2.out HF.out hpost
     have hr3 : w3.heap[w1.heap.size]? = some (.cells #[.int .i64 s.pl, .slice ax s.stack.length cx, .int .i64 s.steps, .int .i64 s.looks, .bool false, .int .i64 0, .string ⟨#[]⟩, .bool false, .string ⟨#[]⟩, .bool false] 77 (0, 0)) := by rw [hb3.block _ hlr]; exact HRB.out
     have HSD : Hid (Stand is ys wr.heap.size w3 (2001 - s.steps) y0 ay ny cy y2 y3 y4 y5 y6 y7 y8 y9) := hsd
     have HR3 : Hid (w3.heap[w1.heap.size]? = some (.cells #[.int .i64 s.pl, .slice ax s.stack.length cx, .int .i64 s.steps, .int .i64 s.looks, .bool false, .int .i64 0, .string ⟨#[]⟩, .bool false, .string ⟨#[]⟩, .bool false] 77 (0, 0))) := hr3
     have hB4 : Below w1.heap.size w1 w3 := HBW.out.trans (hb3.mono (by omega))
     clear p0 p1 p2 p3 p4 p5 p6 p7 p8 p9 fp
     have p0 := Lib.cell_of_heap hr3 0
     have p1 := Lib.cell_of_heap hr3 1
     have p2 := Lib.cell_of_heap hr3 2
     have p3 := Lib.cell_of_heap hr3 3
     have p4 := Lib.cell_of_heap hr3 4
     have p5 := Lib.cell_of_heap hr3 5
     have p6 := Lib.cell_of_heap hr3 6
     have p7 := Lib.cell_of_heap hr3 7
     have p8 := Lib.cell_of_heap hr3 8
     have p9 := Lib.cell_of_heap hr3 9
     simp only [gA, gB, gC] at p0 p1 p2 p3 p4 p5 p6 p7 p8 p9
     have fp : ∀ j, w3.frozen? ⟨w1.heap.size, j, none⟩ = false := fun j => Lib.frozen_of_heap hr3 j
     clear hr3 hsd hpost hl3 hb3
     unfold r10
     go_wp2_with fail
     go_roundg (2001 - s.steps)
     case rel => exact ⟨y0, ay, ny, cy, y2, y3, y4, y5, y6, y7, y8, y9, block_set10 HR3.out _ _ _ _ _ _ _ _ _ _, (stand_set10 HSD.out ⟨_, HR3.out⟩ _ _ _ _ _ _ _ _ _ _).mono (by omega), ((((((((((hB4).setCell (p := ⟨w1.heap.size, 0, none⟩) (Nat.le_refl _) _).setCell (p := ⟨w1.heap.size, 1, none⟩) (Nat.le_refl _) _).setCell (p := ⟨w1.heap.size, 2, none⟩) (Nat.le_refl _) _).setCell (p := ⟨w1.heap.size, 3, none⟩) (Nat.le_refl _) _).setCell (p := ⟨w1.heap.size, 4, none⟩) (Nat.le_refl _) _).setCell (p := ⟨w1.heap.size, 5, none⟩) (Nat.le_refl _) _).setCell (p := ⟨w1.heap.size, 6, none⟩) (Nat.le_refl _) _).setCell (p := ⟨w1.heap.size, 7, none⟩) (Nat.le_refl _) _).setCell (p := ⟨w1.heap.size, 8, none⟩) (Nat.le_refl _) _).setCell (p := ⟨w1.heap.size, 9, none⟩) (Nat.le_refl _) _⟩
     case measure => omega
    ·have HF : Hid (Full is ys s00 (.over x5 x6 n)) := h1
     have p0 := Lib.cell_of_heap hrb 0
     have p1 := Lib.cell_of_heap hrb 1
     have p2 := Lib.cell_of_heap hrb 2
     have p3 := Lib.cell_of_heap hrb 3
     have p4 := Lib.cell_of_heap hrb 4
     have p5 := Lib.cell_of_heap hrb 5
     have p6 := Lib.cell_of_heap hrb 6
     have p7 := Lib.cell_of_heap hrb 7
     have p8 := Lib.cell_of_heap hrb 8
     have p9 := Lib.cell_of_heap hrb 9
     simp only [gA, gB, gC] at p0 p1 p2 p3 p4 p5 p6 p7 p8 p9
     have fp : ∀ j, wr.frozen? ⟨w1.heap.size, j, none⟩ = false := fun j => Lib.frozen_of_heap hrb j
     have k0 := Lib.cell_of_heap hkw 0
     have k1 := Lib.cell_of_heap hkw 1
     have k2 := Lib.cell_of_heap hkw 2
     have k3 := Lib.cell_of_heap hkw 3
     have k4 := Lib.cell_of_heap hkw 4
     have k5 := Lib.cell_of_heap hkw 5
     simp only [gA, gB, gC] at k0 k1 k2 k3 k4 k5
     have f0 : ∀ j, wr.frozen? ⟨w.heap.size + 1, j, none⟩ = false := fun j => Lib.frozen_of_heap hkw j
     clear h1 hrb hkw HST
     go_wp2_with fail
     exact bodyPost_ret (v := turnV true x5 x6 false ⟨#[]⟩ n) (by simp [results, Tryz.results10, go_sem, turnV, k0, k1, k2, k3, k4, k5]) rfl ⟨((((((hBw).setCell (p := ⟨w.heap.size + 1, 0, none⟩) (by simp) _).setCell (p := ⟨w.heap.size + 1, 1, none⟩) (by simp) _).setCell (p := ⟨w.heap.size + 1, 2, none⟩) (by simp) _).setCell (p := ⟨w.heap.size + 1, 3, none⟩) (by simp) _).setCell (p := ⟨w.heap.size + 1, 4, none⟩) (by simp) _).setCell (p := ⟨w.heap.size + 1, 5, none⟩) (by simp) _, _, HF.out, rfl⟩
    ·have HF : Hid (Full is ys s00 (.wait x7 x8 n)) := h1
     have p0 := Lib.cell_of_heap hrb 0
     have p1 := Lib.cell_of_heap hrb 1
     have p2 := Lib.cell_of_heap hrb 2
     have p3 := Lib.cell_of_heap hrb 3
     have p4 := Lib.cell_of_heap hrb 4
     have p5 := Lib.cell_of_heap hrb 5
     have p6 := Lib.cell_of_heap hrb 6
     have p7 := Lib.cell_of_heap hrb 7
     have p8 := Lib.cell_of_heap hrb 8
     have p9 := Lib.cell_of_heap hrb 9
     simp only [gA, gB, gC] at p0 p1 p2 p3 p4 p5 p6 p7 p8 p9
     have fp : ∀ j, wr.frozen? ⟨w1.heap.size, j, none⟩ = false := fun j => Lib.frozen_of_heap hrb j
     have k0 := Lib.cell_of_heap hkw 0
     have k1 := Lib.cell_of_heap hkw 1
     have k2 := Lib.cell_of_heap hkw 2
     have k3 := Lib.cell_of_heap hkw 3
     have k4 := Lib.cell_of_heap hkw 4
     have k5 := Lib.cell_of_heap hkw 5
     simp only [gA, gB, gC] at k0 k1 k2 k3 k4 k5
     have f0 : ∀ j, wr.frozen? ⟨w.heap.size + 1, j, none⟩ = false := fun j => Lib.frozen_of_heap hkw j
     clear h1 hrb hkw HST
     go_wp2_with fail
     exact bodyPost_ret (v := turnV false 0 ⟨#[]⟩ x7 x8 n) (by simp [results, Tryz.results10, go_sem, turnV, k0, k1, k2, k3, k4, k5]) rfl ⟨((((((hBw).setCell (p := ⟨w.heap.size + 1, 0, none⟩) (by simp) _).setCell (p := ⟨w.heap.size + 1, 1, none⟩) (by simp) _).setCell (p := ⟨w.heap.size + 1, 2, none⟩) (by simp) _).setCell (p := ⟨w.heap.size + 1, 3, none⟩) (by simp) _).setCell (p := ⟨w.heap.size + 1, 4, none⟩) (by simp) _).setCell (p := ⟨w.heap.size + 1, 5, none⟩) (by simp) _, _, HF.out, rfl⟩
theorem bk3 {w : World} {b : Nat} {v0 v1 v2 : Value} {T : TypeId} (h : w.heap[b]? = some (.cells #[v0, v1, v2] T (0, 0))) : w.cell? ⟨b, 0, none⟩ = some v0 /\ w.cell? ⟨b, 1, none⟩ = some v1 /\ w.cell? ⟨b, 2, none⟩ = some v2 /\ ∀ j, w.frozen? ⟨b, j, none⟩ = false := by
 refine ⟨?_, ?_, ?_, fun j => Lib.frozen_of_heap h j⟩ <;> rw [Lib.cell_of_heap h] <;> rfl
theorem blk_keep {w w' : World} {b : Nat} {cs : Array Value} {T : TypeId} (hb : Below w.heap.size w w') (h : w.heap[b]? = some (.cells cs T (0, 0))) : w'.heap[b]? = some (.cells cs T (0, 0)) := by
 rw [hb.block _ (blk_lt h)]; exact h
theorem set3_at {w : World} {b : Nat} {u0 u1 u2 : Value} {T : TypeId} (h : w.heap[b]? = some (.cells #[u0, u1, u2] T (0, 0))) (v0 v1 v2 : Value) : (((w.setCell ⟨b, 0, none⟩ v0).setCell ⟨b, 1, none⟩ v1).setCell ⟨b, 2, none⟩ v2).heap[b]? = some (.cells #[v0, v1, v2] T (0, 0)) := by
 rw [Joins.block_setCell (Joins.block_setCell (Joins.block_setCell h v0) v1) v2]
 rfl
theorem below_set3 {B : Nat} {w w' : World} (hb : Below B w w') {b : Nat} (h : B <= b) (v0 v1 v2 : Value) : Below B w (((w'.setCell ⟨b, 0, none⟩ v0).setCell ⟨b, 1, none⟩ v1).setCell ⟨b, 2, none⟩ v2) :=
 ((hb.setCell (p := ⟨b, 0, none⟩) h _).setCell (p := ⟨b, 1, none⟩) h _).setCell (p := ⟨b, 2, none⟩) h _
def repCells : List R3 -> List Value
 | [] => []
 | y :: ys => .bool y.has :: .int .i64 y.code :: .string y.text :: repCells ys
theorem repCells_snoc (ys : List R3) (y : R3) : repCells (ys ++ [y]) = repCells ys ++ [.bool y.has, .int .i64 y.code, .string y.text] := by
 induction ys with
 | nil => rfl
 | cons x xs ih => simp only [List.cons_append, repCells, ih]
theorem repCells_get : ∀ (ys : List R3) (i : Nat), i < ys.length -> (repCells ys)[i * 3]? = some (.bool (rx ys i).has) /\ (repCells ys)[i * 3 + 1]? = some (.int .i64 (rx ys i).code) /\ (repCells ys)[i * 3 + 2]? = some (.string (rx ys i).text)
 | [], i, h => by simp at h
 | y :: ys, 0, h => by simp [repCells, rx]
 | y :: ys, i + 1, h => by
  have := repCells_get ys i (by simpa using h)
  rw [show (i + 1) * 3 = i * 3 + 1 + 1 + 1 from by omega]
  simpa [repCells, rx] using this
theorem rowR_of {w : World} {B cap : Nat} {a : Option Addr} {ys : List R3} (h : w.ownsRow B 49 3 (.slice a ys.length cap) ys.length (repCells ys)) : RowR w a ys := by
 intro i hi
 rcases h.2 with ⟨hv, h0⟩ | ⟨g, cap', cur, hv, _⟩
 ·omega
 ·simp only [Value.slice.injEq] at hv
  obtain ⟨rfl, _, _⟩ := hv
  obtain ⟨k1, k2, k3⟩ := repCells_get ys i hi
  exact ⟨g, 0, rfl, by rw [Nat.zero_add, h.cellAt _ (by omega)]; exact k1, by rw [Nat.zero_add, h.cellAt _ (by omega)]; exact k2, by rw [Nat.zero_add, h.cellAt _ (by omega)]; exact k3⟩
theorem cell_three (w : World) (v0 v1 v2 : Value) (ty : TypeId) : ∀ j u, [v0, v1, v2][j]? = some u -> (w.alloc (.cells #[v0, v1, v2] ty)).cell? ((⟨w.heap.size, 0, none⟩ : Addr).add j) = some u := by
 intro j u hu
 match j with
 | 0 => simp at hu; subst hu; simp [go_sem, Addr.add]
 | 1 => simp at hu; subst hu; simp [go_sem, Addr.add]
 | 2 => simp at hu; subst hu; simp [go_sem, Addr.add]
 | j + 3 => simp at hu
def lenV : Value -> Nat
 | .slice _ n _ => n
 | _ => 0
theorem reps_of {ys : List R3} {gs : List G3} (h : ∀ i, i < ys.length -> repOk (rx ys i) = true) (hk : ys.length <= 200) : repsOk ys = true := by
 simp only [repsOk, Bool.and_eq_true, decide_eq_true_eq]
 exact ⟨hk, h⟩
theorem rx_any {ys : List R3} (h : ∀ i, i < ys.length -> repOk (rx ys i) = true) : ∀ i, (rx ys i).text.size <= 9223372036854775807 := fun i => by
 rcases Nat.lt_or_ge i ys.length with h1 | h1
 ·have := rep_size h i h1; omega
 ·unfold rx
  rw [List.getD_eq_getElem?_getD, List.getElem?_eq_none h1]
  decide
def gCx : List G3 -> List Value
 | [] => []
 | g :: gs => .string g.name :: .bool g.ask :: .string g.sum :: gCx gs
theorem gC_snoc (gs : List G3) (g : G3) : gCx (gs ++ [g]) = gCx gs ++ [.string g.name, .bool g.ask, .string g.sum] := by
 induction gs with
 | nil => rfl
 | cons x xs ih => simp only [List.cons_append, gCx, ih]
theorem gC_get : ∀ (gs : List G3) (i : Nat), i < gs.length -> (gCx gs)[i * 3]? = some (.string (gx gs i).name) /\ (gCx gs)[i * 3 + 1]? = some (.bool (gx gs i).ask) /\ (gCx gs)[i * 3 + 2]? = some (.string (gx gs i).sum)
 | [], i, h => by simp at h
 | y :: ys, 0, h => by simp [gCx, gx]
 | y :: ys, i + 1, h => by
  have := gC_get ys i (by simpa using h)
  rw [show (i + 1) * 3 = i * 3 + 1 + 1 + 1 from by omega]
  simpa [gCx, gx] using this
theorem own_base {w : World} {B B' e sz n : Nat} {v : Value} {xs : List Value} (h : w.ownsRow B e sz v n xs) (hB : B' <= B) : w.ownsRow B' e sz v n xs := by
 refine ⟨h.1, ?_⟩
 rcases h.2 with k | ⟨g, cap, cur, e, hg, r⟩
 ·exact Or.inl k
 ·exact Or.inr ⟨g, cap, cur, e, by omega, r⟩
theorem looks_of {w : World} {B B' : Nat} {v : Value} {gs : List G3} (h : w.ownsRow B 47 3 v gs.length (gCx gs)) (hB : B' <= B) : LooksO w B' v gs := ⟨gCx gs, own_base h hB, fun i hi => gC_get gs i hi⟩
theorem own_ks {w w' : World} {B h base e sz n : Nat} {v : Value} {xs : List Value} (ho : w.ownsRow base e sz v n xs) (k : KS B h w w') (h1 : e ≠ 9) (h2 : e ≠ 60) (hne : ∀ b, v.ownBlock = some b -> b ≠ h) : w'.ownsRow base e sz v n xs := by
 refine ⟨ho.1, ?_⟩
 rcases ho.2 with r | ⟨g, cap, cur, rfl, hg, hh, r⟩
 ·exact Or.inl r
 ·exact Or.inr ⟨g, cap, cur, rfl, hg, k.keep g cur e h1 h2 (hne g (by simp [Value.ownBlock])) hh, r⟩
theorem own_ne {B h base e sz n : Nat} {sv tv : Value} {w : World} {ms : Ms} {st : List ByteArray} {mv kv v : Value} {vs : Nat -> Value} {xs : List Value} (s : Shop B h sv tv w ms st mv kv vs) (ho : w.ownsRow base e sz v n xs) (he : e ≠ 57) : ∀ b, v.ownBlock = some b -> b ≠ h := by
 intro b hb e'
 subst e'
 rcases ho.2 with ⟨rfl, _⟩ | ⟨g, cap, cur, rfl, hg, hh, _⟩
 ·simp [Value.ownBlock] at hb
 ·simp [Value.ownBlock] at hb
  subst hb
  rw [s.blk] at hh
  injection hh with hh
  injection hh with _ h5
  exact he h5.symm
theorem specForm_in (c : Int) (t : ByteArray) (w : World) (h0 : 0 <= c) (h5 : c <= 5) (ht : t.size <= 2000) : Calls Tryz.prog 84 #[.agg #[.int .i64 c, .string t, .slice none 0 0]] w fun e w' => e = .returned (.string (formB c t)) /\ Below w.heap.size w w' := by
 obtain ⟨m, rfl⟩ := Int.eq_ofNat_of_zero_le h0
 exact specForm_yes m t none 0 w (by omega) ht
theorem step_form {x : Operand} {W : World} {ops : Array Oper} {o : Oper} {a : Act} {K : Act -> World -> Prop} {Q : Exit -> Act -> World -> Prop} {E : Prop} (hgd : o.guard = none)
  (ho : o.op = .call { callee := .value (.func 84), args := #[x], argTypes := #[32] }) (c : Int) (t f : ByteArray) (hf : formB c t = f) (h0 : 0 <= c) (h5 : c <= 5) (ht : t.size <= 2000) (hx : a.eval x = .agg #[.int .i64 c, .string t, .slice none 0 0]) (h : ∀ w', Below W.heap.size W w' -> K (a.put o.dst (.string f)) w') :
  if Region.wanted o (yielded ops a.tmps) = true then Oper.wp Tryz.prog o a W K Q else E := by
 have hw : Region.wanted o (yielded ops a.tmps) = true := by simp [Region.wanted, hgd]
 have hrun : (execOp a.eval o).run Tryz.prog W = .ok (.enter 84 #[.agg #[.int .i64 c, .string t, .slice none 0 0]]) W := by
  unfold execOp
  rw [ho]
  simp [go_sem]
  cases x with
  | tmp t => simpa [Act.eval] using hx
  | const v => simpa [Act.eval] using hx
  | «global» g => simp [Act.eval] at hx
  | func f => simp [Act.eval] at hx
 rw [if_pos hw]
 unfold Oper.wp
 rw [hrun, Oper.upon_enter]
 refine (specForm_in c t W h0 h5 ht).mono ?_
 rintro e w' ⟨rfl, hb⟩
 rw [hf]
 exact h w' hb
def DeadAt (h : Nat) (sv tv : Value) (w : World) (a : Ans) (v : Value) : Prop :=
 ∃ mv kv c t chv, w.heap[h]? = some (.cells #[sv, tv, mv, kv, .int .i64 c, .string t, chv, .bool true] 57 (0, 0)) /\ v = .agg #[.int .i64 c, .string t, chv] /\ (match a with | .circle ch => c = 6 /\ t = ⟨#[]⟩ /\ ∃ base, w.ownsRow base 9 1 chv ch.length (strV ch) | .deep nm => c = 7 /\ t = nm /\ chv = .slice none 0 0 | .ok _ => False)
theorem DeadAt.out {h : Nat} {sv tv : Value} {w : World} {a : Ans} {v : Value} (d : DeadAt h sv tv w a v) : ∃ mv kv c t ca cn cc, w.heap[h]? = some (.cells #[sv, tv, mv, kv, .int .i64 c, .string t, .slice ca cn cc, .bool true] 57 (0, 0)) /\ v = .agg #[.int .i64 c, .string t, .slice ca cn cc] := by
 obtain ⟨mv, kv, c, t, chv, h1, h2, k⟩ := d
 have hs : ∃ ca cn cc, chv = .slice ca cn cc := by
  cases a with
  | ok d => exact absurd k id
  | circle ch =>
   obtain ⟨_, _, base, ho⟩ := k
   rcases ho.2 with ⟨e, _⟩ | ⟨g, cap, cur, e, _⟩
   ·exact ⟨_, _, _, e⟩
   ·exact ⟨_, _, _, e⟩
  | deep nm => exact ⟨_, _, _, k.2.2⟩
 obtain ⟨ca, cn, cc, rfl⟩ := hs
 exact ⟨mv, kv, c, t, ca, cn, cc, h1, h2⟩
theorem DeadAt.stop {h : Nat} {sv tv : Value} {w : World} {a : Ans} {v : Value} (d : DeadAt h sv tv w a v) : a.stop := by
 obtain ⟨_, _, _, _, _, _, _, k⟩ := d
 cases a
 ·exact k
 ·trivial
 ·trivial
theorem DeadAt.below {h : Nat} {sv tv : Value} {w w' : World} {a : Ans} {v : Value} (d : DeadAt h sv tv w a v) (hb : Below w.heap.size w w') : DeadAt h sv tv w' a v := by
 obtain ⟨mv, kv, c, t, chv, k1, k2, k3⟩ := d
 refine ⟨mv, kv, c, t, chv, by rw [hb.block h (blk_lt k1)]; exact k1, k2, ?_⟩
 cases a with
 | ok d => exact k3
 | circle ch => obtain ⟨e1, e2, base, e3⟩ := k3; exact ⟨e1, e2, base, ownsRow_below e3 hb⟩
 | deep nm => exact k3
def Fr (w : World) (ms : Ms) (vs : Nat -> Value) (ms' : Ms) (vs' : Nat -> Value) : Prop := ∀ i d b, i < ms'.length -> (mx ms' i).2 = some d -> (vs' i).ownBlock = some b -> (∃ d', i < ms.length /\ (mx ms i).2 = some d' /\ (vs i).ownBlock = some b) \/ w.heap.size <= b
theorem Fr.refl (w : World) (ms : Ms) (vs : Nat -> Value) : Fr w ms vs ms vs := fun i d b h1 h2 h3 => Or.inl ⟨d, h1, h2, h3⟩
theorem Fr.trans {w w1 : World} {ms m1 m2 : Ms} {vs v1 v2 : Nat -> Value} (h : Fr w ms vs m1 v1) (hs : w.heap.size <= w1.heap.size) (k : Fr w1 m1 v1 m2 v2) : Fr w ms vs m2 v2 := fun i d b h1 h2 h3 => by
 rcases k i d b h1 h2 h3 with ⟨d', q1, q2, q3⟩ | q
 ·exact h i d' b q1 q2 q3
 ·exact Or.inr (by omega)
def MakeP (B h : Nat) (sv tv : Value) (ss : List S2) (ts : List T2) (ms : Ms) (st : List ByteArray) (vs : Nat -> Value) (nm : ByteArray) (w : World) (e : Ending) (w' : World) : Prop :=
 KS B h w w' /\ ∃ ms' a, Does ss ts ms st (.make nm) ms' a /\ ((∃ d mv kv vs', a = .ok d /\ e = .returned (.agg #[.int .i64 d.c, .string d.t, .slice none 0 0]) /\ Shop B h sv tv w' ms' st mv kv vs' /\ Fr w ms vs ms' vs') \/ (∃ v, e = .returned v /\ DeadAt h sv tv w' a v))
def RunP (B h : Nat) (sv tv : Value) (ss : List S2) (ts : List T2) (ms : Ms) (st : List ByteArray) (vs : Nat -> Value) (is : List I3) (w : World) (e : Ending) (w' : World) : Prop :=
 KS B h w w' /\ ∃ ms' a, Does ss ts ms st (.run is [] []) ms' a /\ ((∃ d lv mv kv vs', a = .ok d /\ e = .returned (.tuple #[.agg #[.int .i64 d.c, .string d.t, .slice none 0 0], lv]) /\ (LooksO w' B lv d.ls /\ ∀ b, lv.ownBlock = some b -> w.heap.size <= b /\ ∀ i d, i < ms'.length -> (mx ms' i).2 = some d -> (vs' i).ownBlock ≠ some b) /\ Shop B h sv tv w' ms' st mv kv vs' /\ Fr w ms vs ms' vs') \/ (∃ v lv, e = .returned (.tuple #[v, lv]) /\ DeadAt h sv tv w' a v))
theorem own_grown {w w' : World} {base base' e e' sz sz' n n' : Nat} {v v' : Value} {xs xs' : List Value} (ho : w.ownsRow base e sz v n xs) (ho' : w.ownsRow base' e' sz' v' n' xs') (hne : e ≠ e') (hg : w.grownBy w' v'.ownBlock) : w'.ownsRow base e sz v n xs := by
 refine ⟨ho.1, ?_⟩
 rcases ho.2 with r | ⟨g, cap, cur, rfl, hb, hh, r⟩
 ·exact Or.inl r
 ·refine Or.inr ⟨g, cap, cur, rfl, hb, ?_, r⟩
  rw [hg.block g (blk_lt hh) ?_]
  ·exact hh
  ·intro e1
   rcases ho'.2 with ⟨rfl, _⟩ | ⟨g', cap', cur', rfl, hb', hh', _⟩
   ·simp [Value.ownBlock] at e1
   ·simp [Value.ownBlock] at e1
    subst e1
    rw [hh] at hh'
    injection hh' with hh'
    injection hh' with _ h5
    exact hne h5
theorem Shop.grown {B h base e sz n : Nat} {sv tv : Value} {w w' : World} {ms : Ms} {st : List ByteArray} {mv kv v : Value} {vs : Nat -> Value} {xs : List Value} (s : Shop B h sv tv w ms st mv kv vs) (ho : w.ownsRow base e sz v n xs) (hg : w.grownBy w' v.ownBlock) (h1 : e ≠ 57) (h2 : e ≠ 60) (h3 : e ≠ 9)
  (hl : ∀ i d, i < ms.length -> (mx ms i).2 = some d -> ∀ b, v.ownBlock = some b -> (vs i).ownBlock ≠ some b) : Shop B h sv tv w' ms st mv kv vs := by
 refine ⟨s.hB, ?_, own_grown s.row ho (fun e1 => h2 e1.symm) hg, own_grown s.stk ho (fun e1 => h3 e1.symm) hg, fun i d hi hd => ?_⟩
 ·rw [hg.block h (blk_lt s.blk) ?_]
  ·exact s.blk
  ·intro e1
   exact own_ne s ho h1 h e1.symm rfl
 ·obtain ⟨ys, k1, k2⟩ := s.lks i d hi hd
  refine ⟨ys, ⟨k1.1, ?_⟩, k2⟩
  rcases k1.2 with r | ⟨g, cap, cur, e1, hb, hh, r⟩
  ·exact Or.inl r
  ·refine Or.inr ⟨g, cap, cur, e1, hb, ?_, r⟩
   rw [hg.block g (blk_lt hh) ?_]
   ·exact hh
   ·intro e2
    exact hl i d hi hd g e2.symm (by rw [e1]; simp [Value.ownBlock])
theorem lks_ne {B h base e sz n : Nat} {sv tv : Value} {w : World} {ms : Ms} {st : List ByteArray} {mv kv v : Value} {vs : Nat -> Value} {xs : List Value} (s : Shop B h sv tv w ms st mv kv vs) (ho : w.ownsRow base e sz v n xs) (h1 : e ≠ 47) : ∀ i d, i < ms.length -> (mx ms i).2 = some d -> ∀ b, v.ownBlock = some b -> (vs i).ownBlock ≠ some b := by
 intro i d hi hd b hb e1
 obtain ⟨ys, k1, _⟩ := s.lks i d hi hd
 rcases ho.2 with ⟨rfl, _⟩ | ⟨g, cap, cur, rfl, _, hh, _⟩
 ·simp [Value.ownBlock] at hb
 ·simp [Value.ownBlock] at hb
  subst hb
  rcases k1.2 with ⟨e2, _⟩ | ⟨g', cap', cur', e2, _, hh', _⟩
  ·rw [e2] at e1; simp [Value.ownBlock] at e1
  ·rw [e2] at e1
   simp [Value.ownBlock] at e1
   subst e1
   rw [hh] at hh'
   injection hh' with hh'
   injection hh' with _ h5
   exact h1 h5
end Go.Proofs.YtmanoabocelpeaaGreatDoor
