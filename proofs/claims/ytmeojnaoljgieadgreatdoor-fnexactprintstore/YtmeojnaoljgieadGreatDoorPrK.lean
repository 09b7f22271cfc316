/-
  impl: writeRecord, PrintStore.
-/
import Derived.Test.YtmeojnaoljgieadGreatDoorPrJ
namespace Go.Proofs.YtmeojnaoljgieadGreatDoor
open Go.RowKit
set_option linter.unusedVariables false

theorem mem_ix {is : List I3} {x : I3} (h : x ∈ is) : ∃ k, k < is.length ∧ ix is k = x := by
  obtain ⟨k, hk, e⟩ := List.getElem_of_mem h
  exact ⟨k, hk, by simp [ix, List.getD_eq_getElem?_getD, List.getElem?_eq_getElem hk, e]⟩
theorem mem_gx {gs : List G3} {x : G3} (h : x ∈ gs) : ∃ k, k < gs.length ∧ gx gs k = x := by
  obtain ⟨k, hk, e⟩ := List.getElem_of_mem h
  exact ⟨k, hk, by simp [gx, List.getD_eq_getElem?_getD, List.getElem?_eq_getElem hk, e]⟩
theorem prog_ins {is : List I3} (h : progOk is = true) : (∀ i, i < is.length → insOk (ix is i) = true) ∧ is.length ≤ 200 := by
  simp only [progOk, Bool.and_eq_true, decide_eq_true_eq] at h
  exact ⟨h.2, h.1.2⟩
theorem rec_facts {n : Nat} {r : T3} (h : RcOk n r) (h8 : n ≤ 8) : (∀ i, i < r.code.length → insOk (ix r.code i) = true) ∧ r.code.length ≤ 200 ∧ (∀ i, i < r.looks.length → (gx r.looks i).name.size ≤ 2002 ∧ (gx r.looks i).sum.size ≤ 2002) ∧ r.looks.length ≤ 200 ∧ r.out.size ≤ 8 := by
  obtain ⟨h1, h2, h3, h4⟩ := h
  refine ⟨(prog_ins h1).1, (prog_ins h1).2, fun i hi => ?_, h3, by omega⟩
  obtain ⟨k1, k2⟩ := h4 i hi
  exact ⟨by have := k1.2.1; omega, by omega⟩
theorem hd_len {r : T3} (h : r.out.size ≤ 8) : (nl (recHd r)).length ≤ 30 := by
  have e1 : r.out.data.toList.length = r.out.size := by rw [Array.length_toList]; rfl
  have e2 := hexbL_length r.out.data.toList
  rw [nl_length]
  simp only [recHd, List.length_append, List.length_cons, List.length_nil]
  omega
theorem wrec_len {n : Nat} {r : T3} (h : RcOk n r) (h8 : n ≤ 8) {c : List UInt8} (hc : c.length ≤ 200000) : (wlist (fun i => nl (doL i)) (c ++ nl (recHd r)) r.code).length ≤ 206300 ∧ (wlist (fun g => nl (lookL g)) (wlist (fun i => nl (doL i)) (c ++ nl (recHd r)) r.code) r.looks).length ≤ 206300 ∧ (wrec c r).length ≤ 210000 := by
  obtain ⟨f1, f2, f3, f4, f5⟩ := rec_facts h h8
  have h1 := wlist_length (fun i => nl (doL i)) 6200 r.code (c ++ nl (recHd r)) 206300 (by rw [List.length_append]; have := hd_len f5; omega) (by omega) (fun x hx => by
    obtain ⟨k, hk, rfl⟩ := mem_ix hx
    exact do_len (f1 k hk))
  have h2 := wlist_length (fun g => nl (lookL g)) 6200 r.looks _ 206300 h1 (by omega) (fun x hx => by
    obtain ⟨k, hk, rfl⟩ := mem_gx hx
    exact look_len (f3 k hk).1 (f3 k hk).2)
  refine ⟨h1, h2, ?_⟩
  unfold wrec
  rw [List.length_append, nl_length]
  simp only [endL, List.length_cons, List.length_nil]
  omega

set_option maxRecDepth 100000 in
set_option maxHeartbeats 4000000 in
theorem writeRecord_any (v : World) (b n : Nat) (c : List UInt8) (ca la : Option Addr) (cc lc : Nat) (r : T3) (w : World) (hI : Lib.IsBuilder 91 5 v.heap.size b (Lib.byteCells c) w) (hv : Below v.heap.size v w) (hT : Tab v) (hP : P10 v) (hrc : Row3 v ca r.code) (hrg : RowG v la r.looks) (hok : RcOk n r) (h8 : n ≤ 8) (hc : c.length ≤ 200000) :
    Calls Tryz.prog 51 #[.pointer (some ⟨b, 0, none⟩), .agg #[.slice ca r.code.length cc, .slice la r.looks.length lc, .string r.out]] w fun e w' => WrP v.heap.size b w (wrec c r) e w' ∧ (wrec c r).length ≤ 210000 := by
  obtain ⟨f1, f2, f3, f4, f5⟩ := rec_facts hok h8
  obtain ⟨l1, l2, l3⟩ := wrec_len hok h8 hc
  have hhd := hd_len f5
  obtain ⟨W, eW⟩ : ∃ y, w.alloc (.cells #[.slice ca r.code.length cc, .slice la r.looks.length lc, .string r.out] 99) = y := ⟨_, rfl⟩
  have hb0 : Below w.heap.size w W := by rw [← eW]; exact (Below.refl _ _).alloc (Nat.le_refl _) _
  have HBK : Hid (W.heap[w.heap.size]? = some (.cells #[.slice ca r.code.length cc, .slice la r.looks.length lc, .string r.out] 99 (0, 0))) := by show _ = _; rw [← eW]; exact heap_at_new _ _
  have d2 : W.cell? ⟨w.heap.size, 2, none⟩ = some (.string r.out) := by rw [← eW]; simp [go_sem]
  have hne : w.heap.size ≠ b := by have : b < w.heap.size := (by rcases hI with h | h <;> exact h.lt); omega
  have hvw : v.heap.size ≤ w.heap.size := hv.size
  have HI0 : Hid (Lib.IsBuilder 91 5 v.heap.size b (Lib.byteCells c) W) := builder_below hI hb0
  have HV : Hid (Below v.heap.size v w) := hv
  have HPS : Hid (∀ _ : Unit, Calls Tryz.prog 131 #[.string r.out] W fun e w' => e = .returned (.string (bB (hexbL r.out.data.toList))) ∧ Below W.heap.size W w') := fun _ => printSum_any r.out W (by omega)
  have HL1 : Hid (∀ V : World, Lib.IsBuilder 91 5 v.heap.size b (Lib.byteCells c) V → v.heap.size ≤ V.heap.size → Calls Tryz.prog 46 #[.pointer (some ⟨b, 0, none⟩), .slice (some ⟨V.heap.size, 0, none⟩) 2 2] (V.alloc (.cells #[.string ⟨#[114, 101, 99, 111, 114, 100]⟩, .string (bB (hexbL r.out.data.toList))] 9)) fun e w' => WrP v.heap.size b V (c ++ nl (recHd r)) e w') := fun V h1 h2 => line2_any _ b c _ _ _ V h1 h2 (by simp [recHd, bB]) (by have := nl_length (recHd r); omega)
  have HL2 : Hid (∀ V : World, Lib.IsBuilder 91 5 v.heap.size b (Lib.byteCells (c ++ nl (recHd r))) V → Below v.heap.size v V → Calls Tryz.prog 132 #[.pointer (some ⟨b, 0, none⟩), .slice ca r.code.length cc, .func (.func 133) #[] #[]] V fun e w' => WrP v.heap.size b V (wlist (fun i => nl (doL i)) (c ++ nl (recHd r)) r.code) e w') := fun V h1 h2 => (writeInss_any v b _ ca cc r.code V h1 h2 hT hP hrc (by omega) f1 (by rw [List.length_append]; omega)).mono (fun e w' h => h.1)
  have HL3 : Hid (∀ V : World, Lib.IsBuilder 91 5 v.heap.size b (Lib.byteCells (wlist (fun i => nl (doL i)) (c ++ nl (recHd r)) r.code)) V → Below v.heap.size v V → Calls Tryz.prog 134 #[.pointer (some ⟨b, 0, none⟩), .slice la r.looks.length lc, .func (.func 135) #[] #[]] V fun e w' => WrP v.heap.size b V (wlist (fun g => nl (lookL g)) (wlist (fun i => nl (doL i)) (c ++ nl (recHd r)) r.code) r.looks) e w') := fun V h1 h2 => (writeLooks_any v b _ la lc r.looks V h1 h2 hrg (by omega) f3 (by omega)).mono (fun e w' h => h.1)
  have HL4 : Hid (∀ V : World, Lib.IsBuilder 91 5 v.heap.size b (Lib.byteCells (wlist (fun g => nl (lookL g)) (wlist (fun i => nl (doL i)) (c ++ nl (recHd r)) r.code) r.looks)) V → v.heap.size ≤ V.heap.size → Calls Tryz.prog 46 #[.pointer (some ⟨b, 0, none⟩), .slice (some ⟨V.heap.size, 0, none⟩) 1 1] (V.alloc (.cells #[.string ⟨#[101, 110, 100]⟩] 9)) fun e w' => WrP v.heap.size b V (wrec c r) e w') := fun V h1 h2 => line1_any _ b _ endL _ V h1 h2 rfl (by simp only [endL, List.length_cons, List.length_nil]; omega)
  have HL : Hid ((wrec c r).length ≤ 210000) := l3
  generalize wlist (fun g => nl (lookL g)) (wlist (fun i => nl (doL i)) (c ++ nl (recHd r)) r.code) r.looks = c3 at *
  generalize wlist (fun i => nl (doL i)) (c ++ nl (recHd r)) r.code = c2 at *
  generalize c ++ nl (recHd r) = c1 at *
  generalize wrec c r = c4 at *
  generalize bB (hexbL r.out.data.toList) = q at *
  clear hI hv hT hP hrc hrg hok f1 f3 l1 l2 l3 hhd
  go_enter Tryz.func51, Tryz.ntmps51
  go_wp2_with fail
  clear eW
  refine (HPS.out ()).mono ?_
  rintro e w1 ⟨rfl, hb1⟩
  have HI1 : Hid (Lib.IsBuilder 91 5 v.heap.size b (Lib.byteCells c) w1) := builder_below HI0.out hb1
  have HB1 : Hid (Below w.heap.size w w1) := bt hb0 hb1
  have hs1 : w.heap.size ≤ w1.heap.size := HB1.out.size
  have k1 : w1.heap[w.heap.size]? = some (.cells #[.slice ca r.code.length cc, .slice la r.looks.length lc, .string r.out] 99 (0, 0)) := by rw [hb1.block _ (Array.getElem?_eq_some_iff.1 HBK.out).1]; exact HBK.out
  have HK1 : Hid (w1.heap[w.heap.size]? = some (.cells #[.slice ca r.code.length cc, .slice la r.looks.length lc, .string r.out] 99 (0, 0))) := k1
  clear d2 hb0 hb1 HBK HI0 k1
  go_wp2_with fail
  refine (HL1.out w1 HI1.out (by omega)).mono ?_
  rintro e w2 ⟨rfl, i2, b2, q2⟩
  have HI2 : Hid (Lib.IsBuilder 91 5 v.heap.size b (Lib.byteCells c1) w2) := i2
  have HV2 : Hid (Below v.heap.size v w2) := (HV.out.trans (HB1.out.mono hvw)).trans b2
  have HF2 : Hid (Below v.heap.size w w2 ∧ Keep5 b w w2) := ⟨(HB1.out.mono hvw).trans b2, (Keep5.below HB1.out).trans q2⟩
  have k2 := q2 _ _ 99 (by decide) hne HK1.out
  have HK2 : Hid (w2.heap[w.heap.size]? = some (.cells #[.slice ca r.code.length cc, .slice la r.looks.length lc, .string r.out] 99 (0, 0))) := k2
  have d0 : w2.cell? ⟨w.heap.size, 0, none⟩ = some (.slice ca r.code.length cc) := by rw [Lib.cell_of_heap k2]; rfl
  clear i2 b2 q2 k2 HI1 HK1 HL1 HPS
  go_wp2_with fail
  refine (HL2.out w2 HI2.out HV2.out).mono ?_
  rintro e w3 ⟨rfl, i3, b3, q3⟩
  have HI3 : Hid (Lib.IsBuilder 91 5 v.heap.size b (Lib.byteCells c2) w3) := i3
  have HV3 : Hid (Below v.heap.size v w3) := HV2.out.trans b3
  have HF3 : Hid (Below v.heap.size w w3 ∧ Keep5 b w w3) := ⟨HF2.out.1.trans b3, HF2.out.2.trans q3⟩
  have k3 := q3 _ _ 99 (by decide) hne HK2.out
  have d1 : w3.cell? ⟨w.heap.size, 1, none⟩ = some (.slice la r.looks.length lc) := by rw [Lib.cell_of_heap k3]; rfl
  clear i3 b3 q3 k3 HI2 HK2 HL2 HV2 HF2 d0
  go_wp2_with fail
  refine (HL3.out w3 HI3.out HV3.out).mono ?_
  rintro e w4 ⟨rfl, i4, b4, q4⟩
  have HI4 : Hid (Lib.IsBuilder 91 5 v.heap.size b (Lib.byteCells c3) w4) := i4
  have hs4 : v.heap.size ≤ w4.heap.size := (HV3.out.trans b4).size
  have HF4 : Hid (Below v.heap.size w w4 ∧ Keep5 b w w4) := ⟨HF3.out.1.trans b4, HF3.out.2.trans q4⟩
  clear i4 b4 q4 HI3 HL3 HV3 HF3 d1
  go_wp2_with fail
  refine (HL4.out w4 HI4.out hs4).mono ?_
  rintro e w5 ⟨rfl, i5, b5, q5⟩
  have HO : Hid (WrP v.heap.size b w c4 (.returned (.tuple #[])) w5) := ⟨rfl, i5, HF4.out.1.trans b5, HF4.out.2.trans q5⟩
  clear i5 b5 q5
  go_wp2
  exact bodyPost_end (v := .tuple #[]) (by simp [results, Tryz.results51, go_sem]) rfl ⟨HO.out, HL.out⟩

set_option maxRecDepth 100000 in
set_option maxHeartbeats 2000000 in
theorem writeRecs_any (v : World) (b : Nat) (c0 : List UInt8) (a : Option Addr) (cap n : Nat) (rs : List T3) (w : World) (hI : Lib.IsBuilder 91 5 v.heap.size b (Lib.byteCells c0) w) (hv : Below v.heap.size v w) (hT : Tab v) (hP : P10 v) (hc : RowQ v a rs) (hl : rs.length ≤ 5000) (h8 : n ≤ 8) (hs : ∀ i, i < rs.length → RcOk n (qx rs i)) (hc0 : c0.length ≤ 210000) :
    Calls Tryz.prog 50 #[.pointer (some ⟨b, 0, none⟩), .slice a rs.length cap, .func (.func 51) #[] #[]] w fun e w' => WrP v.heap.size b w (wrecs c0 rs) e w' ∧ (wrecs c0 rs).length ≤ 210000 := by
  have HI0 : Hid (Lib.IsBuilder 91 5 v.heap.size b (Lib.byteCells c0) w) := hI
  have HV : Hid (Below v.heap.size v w) := hv
  have HC : Hid (RowQ v a rs) := hc
  have HT : Hid (Tab v) := hT
  have HP : Hid (P10 v) := hP
  have HS : Hid (∀ i, i < rs.length → RcOk n (qx rs i)) := hs
  clear hc hs hT hP
  clear hI hv
  obtain ⟨R, eR⟩ : ∃ R, wrecs c0 rs = R := ⟨_, rfl⟩
  rw [eR]
  have HER : Hid (wrecs c0 rs = R) := eR
  clear eR
  go_enter Tryz.func50, Tryz.ntmps50
  go_wp2
  go_loopw [10] (fun i wr => ∃ (k : Nat) (c : List UInt8), k ≤ rs.length ∧ i = .int .i64 k ∧ Hid (wrecs c (rs.drop k) = R) ∧ Hid (Lib.IsBuilder 91 5 v.heap.size b (Lib.byteCells c) wr) ∧ c.length ≤ 210000 ∧ Hid (Below v.heap.size w wr) ∧ Hid (Keep5 b w wr)) (fun i _ => rs.length - (intOf i).toNat)
  case atStart => exact ⟨0, c0, Nat.zero_le _, rfl, HER.out, HI0.out, hc0, Below.refl _ _, Keep5.refl _ _⟩
  case round =>
    obtain ⟨k, c, hk, rfl, HR, HI, hcl, HB, HK⟩ := hrel
    have HBv : Hid (Below v.heap.size v wr) := HV.out.trans HB.out
    have hsr : v.heap.size ≤ wr.heap.size := HBv.out.size
    have HLEN : Hid (∀ W : World, Lib.IsBuilder 91 5 v.heap.size b (Lib.byteCells c) W → Calls Tryz.prog 52 #[.pointer (some ⟨b, 0, none⟩)] W fun e w' => e = .returned (.int .i64 (c.length : Nat)) ∧ W = w') := fun W hW => (Tryz.Builder_Len _ b _ W hW).mono (by
      rintro e w' ⟨rfl, rfl⟩
      exact ⟨by simp [Lib.byteCells], rfl⟩)
    by_cases hlt : k < rs.length
    · have hkI : (k : Int) < (rs.length : Int) := by omega
      obtain ⟨b', off, rfl, ca, cc, la, lc, c1, c2, c3, r1, r2⟩ := HC.out k hlt
      have hsx := HS.out k hlt
      replace c1 := cell_below HBv.out c1
      replace c2 := cell_below HBv.out c2
      replace c3 := cell_below HBv.out c3
      obtain ⟨x, ex⟩ : ∃ x, qx rs k = x := ⟨_, rfl⟩
      rw [ex] at c1 c2 c3 hsx r1 r2
      have EX : Hid (qx rs k = x) := ex
      have HR1 : Hid (Row3 v ca x.code) := r1
      have HR2 : Hid (RowG v la x.looks) := r2
      have HSX : Hid (RcOk n x) := hsx
      clear ex r1 r2 hsx
      obtain ⟨w1, e1⟩ : ∃ y, wr.alloc (.cells #[.slice ca x.code.length cc, .slice la x.looks.length lc, .string x.out] 99) = y := ⟨_, rfl⟩
      have hb1 : Below wr.heap.size wr w1 := by rw [← e1]; exact (Below.refl _ _).alloc (Nat.le_refl _) _
      have HBB : Hid (Below wr.heap.size wr w1) := hb1
      have HI1 : Hid (Lib.IsBuilder 91 5 v.heap.size b (Lib.byteCells c) w1) := builder_below HI.out hb1
      have x0 : w1.cell? ⟨wr.heap.size, 0, none⟩ = some (.slice ca x.code.length cc) := by rw [← e1]; simp [go_sem]
      have x1 : w1.cell? ⟨wr.heap.size, 1, none⟩ = some (.slice la x.looks.length lc) := by rw [← e1]; simp [go_sem]
      have x2 : w1.cell? ⟨wr.heap.size, 2, none⟩ = some (.string x.out) := by rw [← e1]; simp [go_sem]
      have hs1 : v.heap.size ≤ w1.heap.size := Nat.le_trans hsr hb1.size
      have HV1 : Hid (Below v.heap.size v w1) := HBv.out.trans (hb1.mono hsr)
      clear hb1
      have HDR : Hid (rs.drop k = x :: rs.drop (k + 1)) := by
        show _ = _
        rw [List.drop_eq_getElem_cons hlt]
        congr 1
        rw [← EX.out]
        exact by simp [qx, List.getD_eq_getElem?_getD, List.getElem?_eq_getElem hlt]
      by_cases h2 : 200000 < c.length
      · have HRR : Hid (R = c) := by show _ = _; rw [← HR.out]; exact (by rw [HDR.out]; exact wrecs_over c _ h2)
        have d2 : decide ((200000 : Int) < ((c.length : Nat) : Int)) = true := by simp; omega
        clear h2
        go_wp2_with fail
        refine (HLEN.out _ HI1.out).mono ?_
        rintro e w3 ⟨rfl, rfl⟩
        go_wp2
        refine bodyPost_ret (results_none rfl _ _ _) rfl ?_
        rw [HRR.out]
        exact ⟨⟨rfl, HI1.out, HB.out.trans (HBB.out.mono hsr), HK.out.trans (Keep5.below HBB.out)⟩, hcl⟩
      · have HRN : Hid (wrecs (wrec c x) (rs.drop (k + 1)) = R) := by show _ = _; rw [← HR.out, HDR.out]; exact (wrecs_under c _ _ h2).symm
        have hc2 : c.length ≤ 200000 := by omega
        have d2 : decide ((200000 : Int) < ((c.length : Nat) : Int)) = false := by simp; omega
        clear h2
        have HW : Hid (∀ _ : Unit, Calls Tryz.prog 51 #[.pointer (some ⟨b, 0, none⟩), .agg #[.slice ca x.code.length cc, .slice la x.looks.length lc, .string x.out]] w1 fun e w' => WrP v.heap.size b w1 (wrec c x) e w' ∧ (wrec c x).length ≤ 210000) := fun _ => writeRecord_any v b n c ca la cc lc x w1 HI1.out HV1.out HT.out HP.out HR1.out HR2.out HSX.out h8 hc2

        go_wp2_with fail
        refine (HLEN.out _ HI1.out).mono ?_
        rintro e w3 ⟨rfl, rfl⟩
        go_wp2_with fail
        refine (HW.out ()).mono ?_
        rintro e w4 ⟨⟨rfl, k1, k2, k3⟩, k4⟩
        have HK4 : Hid (Keep5 b w w4) := HK.out.trans ((Keep5.below HBB.out).trans k3)
        have HB4 : Hid (Below v.heap.size w w4) := HB.out.trans ((HBB.out.mono hsr).trans k2)
        have HI4 : Hid _ := k1
        clear k1 k2 k3
        go_wp2
        go_roundw
        case rel => exact ⟨k + 1, _, by omega, by go_num, HRN.out, HI4.out, k4, HB4.out, HK4.out⟩
        case measure => simp [intOf]; omega
    · have ek : k = rs.length := by omega
      have HRR : Hid (R = c) := by
        show _ = _
        rw [← HR.out, List.drop_of_length_le (by omega)]
        rfl
      clear ek
      go_wp2
      refine bodyPost_end (v := .tuple #[]) (by simp [results, Tryz.results50, go_sem]) rfl ?_
      rw [HRR.out]
      exact ⟨⟨rfl, HI.out, HB.out, HK.out⟩, hcl⟩

set_option maxRecDepth 100000 in
set_option maxHeartbeats 4000000 in
theorem implPrintStore_any (n : Int) (ta ra : Option Addr) (tc rc : Nat) (ts : List ByteArray) (rs : List T3) (w : World) (hT : Tab w) (hP : P10 w) (h : StIn w ta ts ra rs) :
    Calls Tryz.prog 11 #[.agg #[.int .i64 n, .slice ta ts.length tc, .slice ra rs.length rc]] w fun e w' => e = .returned (.string (prB n ts rs)) ∧ Below w.heap.size w w' := by
  obtain ⟨W, eW⟩ : ∃ y, w.alloc (.cells #[.int .i64 n, .slice ta ts.length tc, .slice ra rs.length rc] 30) = y := ⟨_, rfl⟩
  have hb0 : Below w.heap.size w W := by rw [← eW]; exact (Below.refl _ _).alloc (Nat.le_refl _) _
  have k0 : W.cell? ⟨w.heap.size, 0, none⟩ = some (.int .i64 n) := by rw [← eW]; simp [go_sem]
  have k1 : W.cell? ⟨w.heap.size, 1, none⟩ = some (.slice ta ts.length tc) := by rw [← eW]; simp [go_sem]
  have k2 : W.cell? ⟨w.heap.size, 2, none⟩ = some (.slice ra rs.length rc) := by rw [← eW]; simp [go_sem]
  have HI : Hid (StIn w ta ts ra rs) := h
  have HT : Hid (Tab w) := hT
  have HP : Hid (P10 w) := hP
  clear h hT hP
  go_enter Tryz.func11, Tryz.ntmps11
  go_wp2_with fail
  clear eW
  refine (implValidStore_any n ta ra tc rc ts rs W (HT.out.below hb0) (HI.out.below hb0)).mono ?_
  rintro e w1 ⟨hb1, v, rfl, hv⟩
  have hB1 := bt hb0 hb1
  have c0 := cell_below hb1 k0
  have c1 := cell_below hb1 k1
  have c2 := cell_below hb1 k2
  clear k0 k1 k2 hb0 hb1
  rcases b_iff hv with ⟨hok, rfl⟩ | ⟨hno, rfl⟩
  · obtain ⟨m, rfl⟩ := Int.eq_ofNat_of_zero_le (show 0 ≤ n by have := hok.1; omega)
    have HOK : Hid (WdOk m ts rs) := hok
    have h8 : m ≤ 8 := by have := hok.2.1; omega
    have hPB := prB_impl hok
    rw [Int.toNat_natCast] at hPB
    have HPB : Hid (prB (m : Int) ts rs = if 200000 < (wsto m ts rs).length then ⟨#[]⟩ else bB (wsto m ts rs)) := hPB
    clear hok hv hPB
    obtain ⟨w2, e2⟩ : ∃ y, w1.alloc (.cells #[.pointer none, .slice none 0 0] 91) = y := ⟨_, rfl⟩
    have hb2 : Below w1.heap.size w1 w2 := by rw [← e2]; exact (Below.refl _ _).alloc (Nat.le_refl _) _
    have HI2 : Hid (Lib.IsBuilder 91 5 w1.heap.size w1.heap.size (Lib.byteCells []) w2) := by show Lib.IsBuilder _ _ _ _ _ _; rw [← e2]; exact Lib.fresh_isBuilder 91 5 w1
    have x0 := cell_below hb2 c0
    have HB2 : Hid (Below w1.heap.size w1 w2) := hb2
    have HITO : Hid (∀ _ : Unit, Calls Tryz.prog 47 #[.int .i64 (m : Int)] w2 fun e w' => e = .returned (.string (bB (Lib.decDigits m))) ∧ Below w2.heap.size w2 w') := fun _ => (Tryz.strconv_Itoa m (by omega) (by omega) w2 ((HP.out.below hB1).below hb2)).mono (by
      rintro e w3 ⟨rfl, k', os', hw⟩
      refine ⟨?_, by rw [hw]; exact Lib.below_grow _ _ (Nat.le_refl _) k' os'⟩
      unfold Lib.itoa
      rw [if_neg (by omega)]
      rfl)
    have hdl := dec_length 3 m (by omega)
    have hsl : (nl (stoL m)).length ≤ 20 := by rw [nl_length]; simp only [stoL, List.length_append, List.length_cons, List.length_nil]; omega
    have HL1 : Hid (∀ V : World, Lib.IsBuilder 91 5 w1.heap.size w1.heap.size (Lib.byteCells []) V → w1.heap.size ≤ V.heap.size → Calls Tryz.prog 46 #[.pointer (some ⟨w1.heap.size, 0, none⟩), .slice (some ⟨V.heap.size, 0, none⟩) 2 2] (V.alloc (.cells #[.string ⟨#[115, 116, 111, 114, 101]⟩, .string (bB (Lib.decDigits m))] 9)) fun e w' => WrP w1.heap.size w1.heap.size V (nl (stoL m)) e w') := fun V h1 h2 => by
      have := line2_any w1.heap.size w1.heap.size [] (stoL m) ⟨#[115, 116, 111, 114, 101]⟩ (bB (Lib.decDigits m)) V h1 h2 (by simp [stoL, bB]) (by have := nl_length (stoL m); simp only [List.length_nil]; omega)
      rw [List.nil_append] at this
      exact this
    have hI1 := HI.out.below hB1
    have HL2 : Hid (∀ V : World, Lib.IsBuilder 91 5 w1.heap.size w1.heap.size (Lib.byteCells (nl (stoL m))) V → Below w1.heap.size w1 V → Calls Tryz.prog 48 #[.pointer (some ⟨w1.heap.size, 0, none⟩), .slice ta ts.length tc, .func (.func 49) #[] #[]] V fun e w' => WrP w1.heap.size w1.heap.size V (wlist (fun x => nl (txtL x)) (nl (stoL m)) ts) e w' ∧ (wlist (fun x => nl (txtL x)) (nl (stoL m)) ts).length ≤ 210000) := fun V h1 h2 => writeTexts_any w1 w1.heap.size _ ta tc ts V h1 h2 hI1.st HOK.out.2.2.1.1 HOK.out.2.2.1.2.1 (by omega)
    have HL3 : Hid (∀ V : World, (wlist (fun x => nl (txtL x)) (nl (stoL m)) ts).length ≤ 210000 → Lib.IsBuilder 91 5 w1.heap.size w1.heap.size (Lib.byteCells (wlist (fun x => nl (txtL x)) (nl (stoL m)) ts)) V → Below w1.heap.size w1 V → Calls Tryz.prog 50 #[.pointer (some ⟨w1.heap.size, 0, none⟩), .slice ra rs.length rc, .func (.func 51) #[] #[]] V fun e w' => WrP w1.heap.size w1.heap.size V (wsto m ts rs) e w' ∧ (wsto m ts rs).length ≤ 210000) := fun V h0 h1 h2 => writeRecs_any w1 w1.heap.size _ ra rc m rs V h1 h2 (HT.out.below hB1) (HP.out.below hB1) hI1.qs.rq (by have := HOK.out.2.2.2.1; omega) h8 HOK.out.2.2.2.2 h0
    generalize wlist (fun x => nl (txtL x)) (nl (stoL m)) ts = s2 at *
    generalize nl (stoL m) = s1 at *
    generalize wsto m ts rs = s3 at *
    generalize bB (Lib.decDigits m) = q at *
    clear hdl hsl hI1 hb2
    go_wp2_with fail
    clear e2
    refine (HITO.out ()).mono ?_
    rintro e w3 ⟨rfl, hb3⟩
    have HB3 : Hid (Below w1.heap.size w1 w3) := bt HB2.out hb3
    have HI3 : Hid (Lib.IsBuilder 91 5 w1.heap.size w1.heap.size (Lib.byteCells []) w3) := builder_below HI2.out hb3
    have hs3 : w1.heap.size ≤ w3.heap.size := HB3.out.size
    clear hb3 HI2 HITO x0 HB2
    go_wp2_with fail
    refine (HL1.out w3 HI3.out hs3).mono ?_
    rintro e w4 ⟨rfl, i4, b4, _⟩
    have HI4 : Hid (Lib.IsBuilder 91 5 w1.heap.size w1.heap.size (Lib.byteCells s1) w4) := i4
    have HB4 : Hid (Below w1.heap.size w1 w4) := HB3.out.trans b4
    have x1 := cell_below HB4.out c1
    clear i4 b4 HI3 HB3 HL1
    go_wp2_with fail
    refine (HL2.out w4 HI4.out HB4.out).mono ?_
    rintro e w5 ⟨⟨rfl, i5, b5, _⟩, n5⟩
    have HI5 : Hid (Lib.IsBuilder 91 5 w1.heap.size w1.heap.size (Lib.byteCells s2) w5) := i5
    have HB5 : Hid (Below w1.heap.size w1 w5) := HB4.out.trans b5
    have x2 := cell_below HB5.out c2
    clear i5 b5 HI4 HB4 HL2 x1
    go_wp2_with fail
    refine (HL3.out w5 n5 HI5.out HB5.out).mono ?_
    rintro e w6 ⟨⟨rfl, i6, b6, _⟩, n6⟩
    have HI6 : Hid (Lib.IsBuilder 91 5 w1.heap.size w1.heap.size (Lib.byteCells s3) w6) := i6
    have HB6 : Hid (Below w1.heap.size w1 w6) := HB5.out.trans b6
    have HLEN : Hid (Calls Tryz.prog 52 #[.pointer (some ⟨w1.heap.size, 0, none⟩)] w6 fun e w' => e = .returned (.int .i64 (s3.length : Nat)) ∧ w6 = w') := (Tryz.Builder_Len _ _ _ w6 i6).mono (by
      rintro e w' ⟨rfl, rfl⟩
      exact ⟨by simp [Lib.byteCells], rfl⟩)
    clear i6 b6 HI5 HB5 HL3 x2 n5
    by_cases h2 : 200000 < s3.length
    · have HE : Hid (prB (m : Int) ts rs = ⟨#[]⟩) := by show _ = _; rw [HPB.out, if_pos h2]
      have d2 : decide ((200000 : Int) < ((s3.length : Nat) : Int)) = true := by simp; omega
      clear h2
      go_wp2_with fail
      refine HLEN.out.mono ?_
      rintro e w7 ⟨rfl, rfl⟩
      go_wp2
      go_ret
      rw [HE.out]
      exact ⟨rfl, bt hB1 HB6.out⟩
    · have HE : Hid (prB (m : Int) ts rs = bB s3) := by show _ = _; rw [HPB.out, if_neg h2]
      have d2 : decide ((200000 : Int) < ((s3.length : Nat) : Int)) = false := by simp; omega
      clear h2
      go_wp2_with fail
      refine HLEN.out.mono ?_
      rintro e w7 ⟨rfl, rfl⟩
      go_wp2_with fail
      refine (Tryz.Builder_String_any w1.heap.size w1.heap.size _ _ HI6.out HB6.out.size).mono ?_
      rintro e w8 ⟨rfl, hb8⟩
      have HB8 : Hid (Below w1.heap.size w1 w8) := HB6.out.trans hb8
      clear hb8
      go_wp2
      go_ret
      rw [HE.out]
      exact ⟨rfl, bt hB1 HB8.out⟩
  · have HE : Hid (prB n ts rs = ⟨#[]⟩) := by show _ = _; unfold prB; rw [if_neg (fun k => hno k.1)]
    clear hno hv
    go_wp2
    go_ret
    rw [HE.out]
    exact ⟨rfl, hB1⟩

end Go.Proofs.YtmeojnaoljgieadGreatDoor
