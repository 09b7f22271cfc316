/-
  spec.Next, whole.
-/
import Derived.Test.YtmeojnaoljgieabDoorNStand
namespace Go.Proofs.YtmeojnaoljgieabDoor
open Go.RowKit
set_option linter.unusedVariables false

set_option maxRecDepth 100000 in
set_option maxHeartbeats 4000000 in
theorem specNext_no (a ra : Option Addr) (cap rcap : Nat) (is : List I3) (ys : List R3) (w : World) (hc : Row3 w a is) (hr : RowR w ra ys) (hl : is.length ≤ 1048576) (hl2 : ys.length ≤ 1048576) (hs : ∀ i, (ix is i).text.size ≤ 9223372036854775807) (hs2 : ∀ i, (rx ys i).text.size ≤ 9223372036854775807) (hv : ¬ (progOk is = true ∧ repsOk ys = true)) :
    Calls Tryd.prog 17 #[.agg #[.slice a is.length cap], .slice ra ys.length rcap] w fun e w' => Below w.heap.size w w' ∧ e = .returned (turnV false 9 ⟨#[]⟩ false ⟨#[]⟩ 0) := by
  have hb0 : Below w.heap.size w ((w.alloc (.cells #[.slice a is.length cap] 29)).alloc (.cells #[.bool false, .int .i64 0, .string ⟨#[]⟩, .bool false, .string ⟨#[]⟩, .int .i64 0] 49)) := ((Below.refl _ _).alloc (Nat.le_refl _) _).alloc (by simp) _
  have hk : ((w.alloc (.cells #[.slice a is.length cap] 29)).alloc (.cells #[.bool false, .int .i64 0, .string ⟨#[]⟩, .bool false, .string ⟨#[]⟩, .int .i64 0] 49)).heap[w.heap.size + 1]? = some (.cells #[.bool false, .int .i64 0, .string ⟨#[]⟩, .bool false, .string ⟨#[]⟩, .int .i64 0] 49 (0, 0)) := by
    have h := heap_new (w.alloc (.cells #[.slice a is.length cap] 29)) (.cells #[.bool false, .int .i64 0, .string ⟨#[]⟩, .bool false, .string ⟨#[]⟩, .int .i64 0] 49)
    rw [show (w.alloc (.cells #[.slice a is.length cap] 29)).heap.size = w.heap.size + 1 from by simp] at h
    exact h
  obtain ⟨v1, hv1⟩ : ∃ v, progOk is = v := ⟨_, rfl⟩
  go_enter Tryd.func17, Tryd.ntmps17
  go_wp2_with fail
  refine (specValid_any a cap is _ (hc.below hb0) hl hs).mono ?_
  rintro e w1 ⟨hb1, rfl⟩
  have hB1 := bN hb0 hb1
  have hk1 : w1.heap[w.heap.size + 1]? = some (.cells #[.bool false, .int .i64 0, .string ⟨#[]⟩, .bool false, .string ⟨#[]⟩, .int .i64 0] 49 (0, 0)) := by rw [hb1.block _ (blk_lt hk)]; exact hk
  rw [hv1]
  clear hb0 hb1 hk
  cases v1
  · have k0 := Lib.cell_of_heap hk1 0
    have k1 := Lib.cell_of_heap hk1 1
    have k2 := Lib.cell_of_heap hk1 2
    have k3 := Lib.cell_of_heap hk1 3
    have k4 := Lib.cell_of_heap hk1 4
    have k5 := Lib.cell_of_heap hk1 5
    simp only [List.getElem?_toArray, List.getElem?_cons_zero, List.getElem?_cons_succ] at k0 k1 k2 k3 k4 k5
    have f0 : ∀ j, w1.frozen? ⟨w.heap.size + 1, j, none⟩ = false := fun j => Lib.frozen_of_heap hk1 j
    clear hk1
    go_wp2_with fail
    exact bodyPost_ret (v := turnV false 9 ⟨#[]⟩ false ⟨#[]⟩ 0) (by simp [results, Tryd.results17, go_sem, turnV, k0, k1, k2, k3, k4, k5]) rfl ⟨((((((hB1).setCell (p := ⟨w.heap.size + 1, 0, none⟩) (by simp) _).setCell (p := ⟨w.heap.size + 1, 1, none⟩) (by simp) _).setCell (p := ⟨w.heap.size + 1, 2, none⟩) (by simp) _).setCell (p := ⟨w.heap.size + 1, 3, none⟩) (by simp) _).setCell (p := ⟨w.heap.size + 1, 4, none⟩) (by simp) _).setCell (p := ⟨w.heap.size + 1, 5, none⟩) (by simp) _, rfl⟩
  · have hv2 : repsOk ys = false := by
      cases h : repsOk ys
      · rfl
      · exact absurd ⟨hv1, h⟩ hv
    by_cases hlen : 200 < ys.length
    · have d2 : decide ((200 : Int) < (ys.length : Int)) = true := by simp; omega
      have k0 := Lib.cell_of_heap hk1 0
      have k1 := Lib.cell_of_heap hk1 1
      have k2 := Lib.cell_of_heap hk1 2
      have k3 := Lib.cell_of_heap hk1 3
      have k4 := Lib.cell_of_heap hk1 4
      have k5 := Lib.cell_of_heap hk1 5
      simp only [List.getElem?_toArray, List.getElem?_cons_zero, List.getElem?_cons_succ] at k0 k1 k2 k3 k4 k5
      have f0 : ∀ j, w1.frozen? ⟨w.heap.size + 1, j, none⟩ = false := fun j => Lib.frozen_of_heap hk1 j
      clear hk1
      go_wp2_with fail
      exact bodyPost_ret (v := turnV false 9 ⟨#[]⟩ false ⟨#[]⟩ 0) (by simp [results, Tryd.results17, go_sem, turnV, k0, k1, k2, k3, k4, k5]) rfl ⟨((((((hB1).setCell (p := ⟨w.heap.size + 1, 0, none⟩) (by simp) _).setCell (p := ⟨w.heap.size + 1, 1, none⟩) (by simp) _).setCell (p := ⟨w.heap.size + 1, 2, none⟩) (by simp) _).setCell (p := ⟨w.heap.size + 1, 3, none⟩) (by simp) _).setCell (p := ⟨w.heap.size + 1, 4, none⟩) (by simp) _).setCell (p := ⟨w.heap.size + 1, 5, none⟩) (by simp) _, rfl⟩
    · have d2 : decide ((200 : Int) < (ys.length : Int)) = false := by simp; omega
      have HV2 : Hid (repsOk ys = false) := hv2
      clear hv hv1 hv2
      have HK1 : Hid (w1.heap[w.heap.size + 1]? = some (.cells #[.bool false, .int .i64 0, .string ⟨#[]⟩, .bool false, .string ⟨#[]⟩, .int .i64 0] 49 (0, 0))) := hk1
      have HB1 : Hid (Below w.heap.size w w1) := hB1
      clear hk1 hB1
      go_wp2_with fail
      go_loopw [5] (fun i wr => ∃ k : Nat, k ≤ ys.length ∧ i = .int .i64 k ∧ Hid (∀ i, i < k → repOk (rx ys i) = true) ∧ w1 = wr) (fun i _ => ys.length - (intOf i).toNat)
      case atStart => exact ⟨0, Nat.zero_le _, rfl, fun i hi => by omega, rfl⟩
      case round =>
        obtain ⟨k, hk, rfl, HK, rfl⟩ := hrel
        by_cases hlt : k < ys.length
        · obtain ⟨b, off, rfl, c1, c2, c3⟩ := (hr.below HB1.out) k hlt
          have hsk := hs2 k
          have hcs := repOk_cases (rx ys k)
          have HS : Hid (repOk (rx ys k) = true → ∀ i, i < k + 1 → repOk (rx ys i) = true) := fun h i hi => by
            rcases Nat.lt_or_ge i k with h' | h'
            · exact HK.out i h'
            · obtain rfl : i = k := by omega
              exact h
          clear hr hs2
          generalize rx ys k = r at *
          have hk1 := HK1.out
          have k0 := Lib.cell_of_heap hk1 0
          have k1 := Lib.cell_of_heap hk1 1
          have k2 := Lib.cell_of_heap hk1 2
          have k3 := Lib.cell_of_heap hk1 3
          have k4 := Lib.cell_of_heap hk1 4
          have k5 := Lib.cell_of_heap hk1 5
          simp only [List.getElem?_toArray, List.getElem?_cons_zero, List.getElem?_cons_succ] at k0 k1 k2 k3 k4 k5
          have f0 : ∀ j, w1.frozen? ⟨w.heap.size + 1, j, none⟩ = false := fun j => Lib.frozen_of_heap hk1 j
          clear hk1
          rcases hcs with ⟨ho, d1⟩ | ⟨ho, d1, d3⟩ | ⟨ho, d1, d3, d4⟩ | ⟨ho, d1, d3, d4⟩
          · clear ho
            go_wp2_with fail
            exact bodyPost_ret (v := turnV false 9 ⟨#[]⟩ false ⟨#[]⟩ 0) (by simp [results, Tryd.results17, go_sem, turnV, k0, k1, k2, k3, k4, k5]) rfl ⟨((((((HB1.out).setCell (p := ⟨w.heap.size + 1, 0, none⟩) (by simp) _).setCell (p := ⟨w.heap.size + 1, 1, none⟩) (by simp) _).setCell (p := ⟨w.heap.size + 1, 2, none⟩) (by simp) _).setCell (p := ⟨w.heap.size + 1, 3, none⟩) (by simp) _).setCell (p := ⟨w.heap.size + 1, 4, none⟩) (by simp) _).setCell (p := ⟨w.heap.size + 1, 5, none⟩) (by simp) _, rfl⟩
          · clear ho
            go_wp2_with fail
            exact bodyPost_ret (v := turnV false 9 ⟨#[]⟩ false ⟨#[]⟩ 0) (by simp [results, Tryd.results17, go_sem, turnV, k0, k1, k2, k3, k4, k5]) rfl ⟨((((((HB1.out).setCell (p := ⟨w.heap.size + 1, 0, none⟩) (by simp) _).setCell (p := ⟨w.heap.size + 1, 1, none⟩) (by simp) _).setCell (p := ⟨w.heap.size + 1, 2, none⟩) (by simp) _).setCell (p := ⟨w.heap.size + 1, 3, none⟩) (by simp) _).setCell (p := ⟨w.heap.size + 1, 4, none⟩) (by simp) _).setCell (p := ⟨w.heap.size + 1, 5, none⟩) (by simp) _, rfl⟩
          · clear ho
            go_wp2_with fail
            exact bodyPost_ret (v := turnV false 9 ⟨#[]⟩ false ⟨#[]⟩ 0) (by simp [results, Tryd.results17, go_sem, turnV, k0, k1, k2, k3, k4, k5]) rfl ⟨((((((HB1.out).setCell (p := ⟨w.heap.size + 1, 0, none⟩) (by simp) _).setCell (p := ⟨w.heap.size + 1, 1, none⟩) (by simp) _).setCell (p := ⟨w.heap.size + 1, 2, none⟩) (by simp) _).setCell (p := ⟨w.heap.size + 1, 3, none⟩) (by simp) _).setCell (p := ⟨w.heap.size + 1, 4, none⟩) (by simp) _).setCell (p := ⟨w.heap.size + 1, 5, none⟩) (by simp) _, rfl⟩
          · have HO : Hid (∀ i, i < k + 1 → repOk (rx ys i) = true) := HS.out ho
            clear ho
            go_wp2_with fail
            go_roundw
            case rel => exact ⟨k + 1, by omega, by go_num, HO, trivial⟩
            case measure => simp [intOf]; omega
        · exfalso
          have h : repsOk ys = true := by
            simp only [repsOk, Bool.and_eq_true, decide_eq_true_eq]
            exact ⟨by omega, fun i hi => HK.out i (by omega)⟩
          rw [HV2.out] at h
          cases h

set_option maxRecDepth 100000 in
set_option maxHeartbeats 8000000 in
theorem specNext_yes (a ra : Option Addr) (cap rcap : Nat) (is : List I3) (ys : List R3) (w : World) (hc : Row3 w a is) (hr : RowR w ra ys) (hl : is.length ≤ 1048576) (hs : ∀ i, (ix is i).text.size ≤ 9223372036854775807) (hs2 : ∀ i, (rx ys i).text.size ≤ 9223372036854775807) (hv1 : progOk is = true) (hv2 : repsOk ys = true) :
    Calls Tryd.prog 17 #[.agg #[.slice a is.length cap], .slice ra ys.length rcap] w fun e w' => Below w.heap.size w w' ∧ ∃ r, Full is ys s00 r ∧ e = .returned (resT r) := by
  have hb0 : Below w.heap.size w ((w.alloc (.cells #[.slice a is.length cap] 29)).alloc (.cells #[.bool false, .int .i64 0, .string ⟨#[]⟩, .bool false, .string ⟨#[]⟩, .int .i64 0] 49)) := ((Below.refl _ _).alloc (Nat.le_refl _) _).alloc (by simp) _
  have hk : ((w.alloc (.cells #[.slice a is.length cap] 29)).alloc (.cells #[.bool false, .int .i64 0, .string ⟨#[]⟩, .bool false, .string ⟨#[]⟩, .int .i64 0] 49)).heap[w.heap.size + 1]? = some (.cells #[.bool false, .int .i64 0, .string ⟨#[]⟩, .bool false, .string ⟨#[]⟩, .int .i64 0] 49 (0, 0)) := by
    have h := heap_new (w.alloc (.cells #[.slice a is.length cap] 29)) (.cells #[.bool false, .int .i64 0, .string ⟨#[]⟩, .bool false, .string ⟨#[]⟩, .int .i64 0] 49)
    rw [show (w.alloc (.cells #[.slice a is.length cap] 29)).heap.size = w.heap.size + 1 from by simp] at h
    exact h
  have hbx : ((w.alloc (.cells #[.slice a is.length cap] 29)).alloc (.cells #[.bool false, .int .i64 0, .string ⟨#[]⟩, .bool false, .string ⟨#[]⟩, .int .i64 0] 49)).cell? ⟨w.heap.size, 0, none⟩ = some (.slice a is.length cap) := by simp [go_sem]
  have hv2' := hv2
  simp only [repsOk, Bool.and_eq_true, decide_eq_true_eq] at hv2'
  have hlen : ys.length ≤ 200 := hv2'.1
  have HV1 : Hid (progOk is = true) := hv1
  have HV2 : Hid (repsOk ys = true) := hv2
  have HOK : Hid (∀ i, i < ys.length → repOk (rx ys i) = true) := hv2'.2
  have HC : Hid (Row3 w a is) := hc
  have HR : Hid (RowR w ra ys) := hr
  clear hv2' hv2
  go_enter Tryd.func17, Tryd.ntmps17
  go_wp2_with fail
  refine (specValid_any a cap is _ (HC.out.below hb0) hl hs).mono ?_
  rintro e w1 ⟨hb1, rfl⟩
  have hB1 := bN hb0 hb1
  have hk1 : w1.heap[w.heap.size + 1]? = some (.cells #[.bool false, .int .i64 0, .string ⟨#[]⟩, .bool false, .string ⟨#[]⟩, .int .i64 0] 49 (0, 0)) := by rw [hb1.block _ (blk_lt hk)]; exact hk
  have hbx1 := cell_below hb1 hbx
  rw [hv1]
  clear hb0 hb1 hk hbx hv1 hc hr
  have d2 : decide ((200 : Int) < (ys.length : Int)) = false := by simp; omega
  have HK1 : Hid (w1.heap[w.heap.size + 1]? = some (.cells #[.bool false, .int .i64 0, .string ⟨#[]⟩, .bool false, .string ⟨#[]⟩, .int .i64 0] 49 (0, 0))) := hk1
  have HB1 : Hid (Below w.heap.size w w1) := hB1
  have HX1 : Hid (w1.cell? ⟨w.heap.size, 0, none⟩ = some (.slice a is.length cap)) := hbx1
  have hR1 : w.heap.size + 1 < w1.heap.size := blk_lt hk1
  clear hk1 hB1 hbx1
  go_wp2_with fail
  go_loopw [5] (fun i wr => ∃ k : Nat, k ≤ ys.length ∧ i = .int .i64 k ∧ w1 = wr) (fun i _ => ys.length - (intOf i).toNat)
  case atStart => exact ⟨0, Nat.zero_le _, rfl, rfl⟩
  case round =>
    obtain ⟨k, hk, rfl, rfl⟩ := hrel
    by_cases hlt : k < ys.length
    · obtain ⟨b, off, rfl, c1, c2, c3⟩ := (HR.out.below HB1.out) k hlt
      have hsk := hs2 k
      have hok := HOK.out k hlt
      clear hs2 HR HOK
      generalize rx ys k = r at *
      have d1 : decide ((2000 : Int) < (r.text.size : Int)) = false := by simp only [repOk, Bool.and_eq_true, decide_eq_true_eq] at hok; simp; omega
      have d3 : decide (r.code < 0) = false := by simp only [repOk, Bool.and_eq_true, decide_eq_true_eq] at hok; simp; omega
      have d4 : decide (7 < r.code) = false := by simp only [repOk, Bool.and_eq_true, decide_eq_true_eq] at hok; simp; omega
      clear hok
      go_wp2_with fail
      go_roundw
      case rel => exact ⟨k + 1, by omega, by go_num, trivial⟩
      case measure => simp [intOf]; omega
    · have hkI : ¬ (k : Int) < (ys.length : Int) := by omega
      go_wp2_with fail
      go_loopg [] 2002 (fun kx wr => ∃ (x0 : Int) (ax : Option Addr) (nx cx : Nat) (x2 x3 : Int) (x4 : Bool) (x5 : Int) (x6 : ByteArray) (x7 : Bool) (x8 : ByteArray) (x9 : Bool), Hid (wr.heap[w1.heap.size]? = some (.cells #[.int .i64 x0, .slice ax nx cx, .int .i64 x2, .int .i64 x3, .bool x4, .int .i64 x5, .string x6, .bool x7, .string x8, .bool x9] 96 (0, 0))) ∧ Hid (Stand is ys w1.heap.size wr kx x0 ax nx cx x2 x3 x4 x5 x6 x7 x8 x9) ∧ Hid (Below w1.heap.size w1 wr))
      case atStart => exact ⟨0, none, 0, 0, 0, 0, false, 0, ⟨#[]⟩, false, ⟨#[]⟩, false, heap_new _ _, Or.inl ⟨s00, s00_ok is, fun r h => h, ⟨rfl, Or.inl ⟨rfl, rfl⟩⟩, by simp [s00], rfl, rfl, rfl, rfl, rfl, rfl, rfl, rfl, rfl, rfl⟩, (Below.refl _ _).alloc (Nat.le_refl _) _⟩
      case round =>
        obtain ⟨x0, ax, nx, cx, x2, x3, x4, x5, x6, x7, x8, x9, HRB, HST, HBW⟩ := hrel
        have hxw : wr.cell? ⟨w.heap.size, 0, none⟩ = some (.slice a is.length cap) := by rw [HBW.out.cell (p := ⟨w.heap.size, 0, none⟩) (by simp; omega)]; exact HX1.out
        have hkw : wr.heap[w.heap.size + 1]? = some (.cells #[.bool false, .int .i64 0, .string ⟨#[]⟩, .bool false, .string ⟨#[]⟩, .int .i64 0] 49 (0, 0)) := by rw [HBW.out.block _ hR1]; exact HK1.out
        have hBw : Below w.heap.size w wr := HB1.out.trans (HBW.out.mono (by omega))
        have hrb := HRB.out
        rcases HST.out with ⟨s, h1, h2, h3, h4, rfl, rfl, rfl, rfl, rfl, rfl, rfl, rfl, rfl, rfl⟩ | ⟨n, h1, rfl, rfl, rfl⟩ | ⟨n, h1, rfl, rfl, rfl⟩
        · have HS : Hid (StOk is s) := h1
          have HF : Hid (∀ r, Full is ys s r → Full is ys s00 r) := h2
          have HOW : Hid (Own w1.heap.size wr ax cx s.stack) := h3
          have hst := h1.steps
          have hlr : w1.heap.size < wr.heap.size := blk_lt hrb
          have p0 := Lib.cell_of_heap hrb 0
          have p1 := Lib.cell_of_heap hrb 1
          have p2 := Lib.cell_of_heap hrb 2
          have p3 := Lib.cell_of_heap hrb 3
          have p4 := Lib.cell_of_heap hrb 4
          have p5 := Lib.cell_of_heap hrb 5
          have p6 := Lib.cell_of_heap hrb 6
          have p7 := Lib.cell_of_heap hrb 7
          have p8 := Lib.cell_of_heap hrb 8
          have p9 := Lib.cell_of_heap hrb 9
          simp only [List.getElem?_toArray, List.getElem?_cons_zero, List.getElem?_cons_succ] at p0 p1 p2 p3 p4 p5 p6 p7 p8 p9
          have fp : ∀ j, wr.frozen? ⟨w1.heap.size, j, none⟩ = false := fun j => Lib.frozen_of_heap hrb j
          clear h1 h2 h3 hrb HST
          go_wp2_with fail
          have hl3 := l2Step_any a cap is s ax cx ra rcap ys wr w1.heap.size HV1.out HS.out (HC.out.below hBw) HOW.out hlen (HR.out.below hBw)
          unfold runV at hl3
          refine hl3.mono ?_
          rintro e w3 ⟨hb3, hpost⟩
          obtain ⟨y0, ay, ny, cy, y2, y3, y4, y5, y6, y7, y8, y9, rfl, hsd⟩ := stand_step HV1.out HS.out HV2.out HF.out hpost
          have hr3 : w3.heap[w1.heap.size]? = some (.cells #[.int .i64 s.pl, .slice ax s.stack.length cx, .int .i64 s.steps, .int .i64 s.looks, .bool false, .int .i64 0, .string ⟨#[]⟩, .bool false, .string ⟨#[]⟩, .bool false] 96 (0, 0)) := by rw [hb3.block _ hlr]; exact HRB.out
          have HSD : Hid (Stand is ys wr.heap.size w3 (2001 - s.steps) y0 ay ny cy y2 y3 y4 y5 y6 y7 y8 y9) := hsd
          have HR3 : Hid (w3.heap[w1.heap.size]? = some (.cells #[.int .i64 s.pl, .slice ax s.stack.length cx, .int .i64 s.steps, .int .i64 s.looks, .bool false, .int .i64 0, .string ⟨#[]⟩, .bool false, .string ⟨#[]⟩, .bool false] 96 (0, 0))) := hr3
          have hB4 : Below w1.heap.size w1 w3 := HBW.out.trans (hb3.mono (by omega))
          clear p0 p1 p2 p3 p4 p5 p6 p7 p8 p9 fp
          have p0 := Lib.cell_of_heap hr3 0
          have p1 := Lib.cell_of_heap hr3 1
          have p2 := Lib.cell_of_heap hr3 2
          have p3 := Lib.cell_of_heap hr3 3
          have p4 := Lib.cell_of_heap hr3 4
          have p5 := Lib.cell_of_heap hr3 5
          have p6 := Lib.cell_of_heap hr3 6
          have p7 := Lib.cell_of_heap hr3 7
          have p8 := Lib.cell_of_heap hr3 8
          have p9 := Lib.cell_of_heap hr3 9
          simp only [List.getElem?_toArray, List.getElem?_cons_zero, List.getElem?_cons_succ] at p0 p1 p2 p3 p4 p5 p6 p7 p8 p9
          have fp : ∀ j, w3.frozen? ⟨w1.heap.size, j, none⟩ = false := fun j => Lib.frozen_of_heap hr3 j
          clear hr3 hsd hpost hl3 hb3
          unfold r10
          go_wp2_with fail
          go_roundg (2001 - s.steps)
          case rel => exact ⟨y0, ay, ny, cy, y2, y3, y4, y5, y6, y7, y8, y9, block_set10 HR3.out _ _ _ _ _ _ _ _ _ _, (stand_set10 HSD.out ⟨_, HR3.out⟩ _ _ _ _ _ _ _ _ _ _).mono (by omega), ((((((((((hB4).setCell (p := ⟨w1.heap.size, 0, none⟩) (Nat.le_refl _) _).setCell (p := ⟨w1.heap.size, 1, none⟩) (Nat.le_refl _) _).setCell (p := ⟨w1.heap.size, 2, none⟩) (Nat.le_refl _) _).setCell (p := ⟨w1.heap.size, 3, none⟩) (Nat.le_refl _) _).setCell (p := ⟨w1.heap.size, 4, none⟩) (Nat.le_refl _) _).setCell (p := ⟨w1.heap.size, 5, none⟩) (Nat.le_refl _) _).setCell (p := ⟨w1.heap.size, 6, none⟩) (Nat.le_refl _) _).setCell (p := ⟨w1.heap.size, 7, none⟩) (Nat.le_refl _) _).setCell (p := ⟨w1.heap.size, 8, none⟩) (Nat.le_refl _) _).setCell (p := ⟨w1.heap.size, 9, none⟩) (Nat.le_refl _) _⟩
          case measure => omega
        · have HF : Hid (Full is ys s00 (.over x5 x6 n)) := h1
          have p0 := Lib.cell_of_heap hrb 0
          have p1 := Lib.cell_of_heap hrb 1
          have p2 := Lib.cell_of_heap hrb 2
          have p3 := Lib.cell_of_heap hrb 3
          have p4 := Lib.cell_of_heap hrb 4
          have p5 := Lib.cell_of_heap hrb 5
          have p6 := Lib.cell_of_heap hrb 6
          have p7 := Lib.cell_of_heap hrb 7
          have p8 := Lib.cell_of_heap hrb 8
          have p9 := Lib.cell_of_heap hrb 9
          simp only [List.getElem?_toArray, List.getElem?_cons_zero, List.getElem?_cons_succ] at p0 p1 p2 p3 p4 p5 p6 p7 p8 p9
          have fp : ∀ j, wr.frozen? ⟨w1.heap.size, j, none⟩ = false := fun j => Lib.frozen_of_heap hrb j
          have k0 := Lib.cell_of_heap hkw 0
          have k1 := Lib.cell_of_heap hkw 1
          have k2 := Lib.cell_of_heap hkw 2
          have k3 := Lib.cell_of_heap hkw 3
          have k4 := Lib.cell_of_heap hkw 4
          have k5 := Lib.cell_of_heap hkw 5
          simp only [List.getElem?_toArray, List.getElem?_cons_zero, List.getElem?_cons_succ] at k0 k1 k2 k3 k4 k5
          have f0 : ∀ j, wr.frozen? ⟨w.heap.size + 1, j, none⟩ = false := fun j => Lib.frozen_of_heap hkw j
          clear h1 hrb hkw HST
          go_wp2_with fail
          exact bodyPost_ret (v := turnV true x5 x6 false ⟨#[]⟩ n) (by simp [results, Tryd.results17, go_sem, turnV, k0, k1, k2, k3, k4, k5]) rfl ⟨((((((hBw).setCell (p := ⟨w.heap.size + 1, 0, none⟩) (by simp) _).setCell (p := ⟨w.heap.size + 1, 1, none⟩) (by simp) _).setCell (p := ⟨w.heap.size + 1, 2, none⟩) (by simp) _).setCell (p := ⟨w.heap.size + 1, 3, none⟩) (by simp) _).setCell (p := ⟨w.heap.size + 1, 4, none⟩) (by simp) _).setCell (p := ⟨w.heap.size + 1, 5, none⟩) (by simp) _, _, HF.out, rfl⟩
        · have HF : Hid (Full is ys s00 (.wait x7 x8 n)) := h1
          have p0 := Lib.cell_of_heap hrb 0
          have p1 := Lib.cell_of_heap hrb 1
          have p2 := Lib.cell_of_heap hrb 2
          have p3 := Lib.cell_of_heap hrb 3
          have p4 := Lib.cell_of_heap hrb 4
          have p5 := Lib.cell_of_heap hrb 5
          have p6 := Lib.cell_of_heap hrb 6
          have p7 := Lib.cell_of_heap hrb 7
          have p8 := Lib.cell_of_heap hrb 8
          have p9 := Lib.cell_of_heap hrb 9
          simp only [List.getElem?_toArray, List.getElem?_cons_zero, List.getElem?_cons_succ] at p0 p1 p2 p3 p4 p5 p6 p7 p8 p9
          have fp : ∀ j, wr.frozen? ⟨w1.heap.size, j, none⟩ = false := fun j => Lib.frozen_of_heap hrb j
          have k0 := Lib.cell_of_heap hkw 0
          have k1 := Lib.cell_of_heap hkw 1
          have k2 := Lib.cell_of_heap hkw 2
          have k3 := Lib.cell_of_heap hkw 3
          have k4 := Lib.cell_of_heap hkw 4
          have k5 := Lib.cell_of_heap hkw 5
          simp only [List.getElem?_toArray, List.getElem?_cons_zero, List.getElem?_cons_succ] at k0 k1 k2 k3 k4 k5
          have f0 : ∀ j, wr.frozen? ⟨w.heap.size + 1, j, none⟩ = false := fun j => Lib.frozen_of_heap hkw j
          clear h1 hrb hkw HST
          go_wp2_with fail
          exact bodyPost_ret (v := turnV false 0 ⟨#[]⟩ x7 x8 n) (by simp [results, Tryd.results17, go_sem, turnV, k0, k1, k2, k3, k4, k5]) rfl ⟨((((((hBw).setCell (p := ⟨w.heap.size + 1, 0, none⟩) (by simp) _).setCell (p := ⟨w.heap.size + 1, 1, none⟩) (by simp) _).setCell (p := ⟨w.heap.size + 1, 2, none⟩) (by simp) _).setCell (p := ⟨w.heap.size + 1, 3, none⟩) (by simp) _).setCell (p := ⟨w.heap.size + 1, 4, none⟩) (by simp) _).setCell (p := ⟨w.heap.size + 1, 5, none⟩) (by simp) _, _, HF.out, rfl⟩

end Go.Proofs.YtmeojnaoljgieabDoor
