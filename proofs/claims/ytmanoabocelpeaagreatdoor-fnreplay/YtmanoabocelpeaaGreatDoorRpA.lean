import Derived.Test.YtmanoabocelpeaaGreatDoorFtF
namespace Go.Proofs.YtmanoabocelpeaaGreatDoor
open Go.RowKit
set_option linter.unusedVariables false
set_option linter.unusedSimpArgs false
def ActP (ts : List T2) (nm : ByteArray) (w : World) (e : Ending) : Prop :=
 (∃ q a cap, q < ts.length /\ (tx ts q).name = nm /\ Row3 w a (tx ts q).code /\ e = .returned (.tuple #[.agg #[.slice a (tx ts q).code.length cap], .bool true])) \/ ((∀ q, q < ts.length -> (tx ts q).name ≠ nm) /\ e = .returned (.tuple #[.agg #[.slice none 0 0], .bool false]))
set_option maxRecDepth 100000 in
set_option maxHeartbeats 4000000 in
theorem wAction_any (sv : Value) (ta : Option Addr) (c2 : Nat) (ts : List T2) (nm : ByteArray) (w : World) (h : RowT w ta ts) (hl : ts.length <= 1048576) (hc : ∀ i, i < ts.length -> (tx ts i).code.length <= 1048576) :
  Calls Tryz.prog 6 #[.agg #[sv, .slice ta ts.length c2], .string nm] w fun e w' => Below w.heap.size w w' /\ ActP ts nm w' e := by
 obtain ⟨W, eW⟩ : ∃ W, (w.alloc (.cells #[sv, .slice ta ts.length c2] 26)).alloc (.cells #[.slice none 0 0] 37) = W := ⟨_, rfl⟩
 have hb : Below w.heap.size w W := by rw [<- eW]; exact ((Below.refl _ _).alloc (Nat.le_refl _) _).alloc (by simp) _
 have x1 : W.cell? ⟨w.heap.size, 1, none⟩ = some (.slice ta ts.length c2) := by rw [<- eW]; simp [go_sem]
 have y0 : W.cell? ⟨w.heap.size + 1, 0, none⟩ = some (.slice none 0 0) := by rw [<- eW]; simp [go_sem]
 have yf : W.frozen? ⟨w.heap.size + 1, 0, none⟩ = false := by rw [<- eW]; simp [go_sem]
 have HR := hid h
 have HB := hid hb
 clear h hb
 go_enter Tryz.func6, Tryz.ntmps6
 go_wp2
 clear eW
 go_loopw [6] (fun i wr => ∃ k : Nat, k <= ts.length /\ i = .int .i64 k /\ W = wr /\ Hid (∀ q, q < k -> (tx ts q).name ≠ nm)) (fun i _ => ts.length - (intOf i).toNat)
 case atStart => exact ⟨0, Nat.zero_le _, rfl, rfl, fun q hq => by omega⟩
 case round =>
  obtain ⟨k, hk, rfl, rfl, HN⟩ := hrel
  by_cases hlt : k < ts.length
  ·have hkI : (k : Int) < (ts.length : Int) := by omega
   obtain ⟨b, off, rfl, c1, a', cap', c3, c4⟩ := HR.out k hlt
   replace c1 := cell_below HB.out c1
   replace c3 := cell_below HB.out c3
   have HC := hid c4
   have hcl := hc k hlt
   clear c4
   by_cases he : (tx ts k).name = nm
   ·have hq := str_eq he
    have HE := hid he
    clear he
    go_wp2
    exact bodyPost_ret (v := .tuple #[.agg #[.slice a' (tx ts k).code.length cap'], .bool true]) (by simp [results, Tryz.results6, go_sem, y0, yf]) rfl ⟨HB.out.setCell (p := ⟨w.heap.size + 1, 0, none⟩) (by simp) _, Or.inl ⟨k, a', cap', hlt, HE.out, HC.out.below (HB.out.setCell (p := ⟨w.heap.size + 1, 0, none⟩) (by simp) _), rfl⟩⟩
   ·have hq := str_ne he
    have HN2 : Hid (∀ q, q < k + 1 -> (tx ts q).name ≠ nm) := fun q hq => by
     rcases Nat.lt_or_ge q k with h' | h'
     ·exact HN.out q h'
     ·obtain rfl : q = k := by omega
      exact he
    clear he
    go_wp2
    go_roundw
    case rel => exact ⟨k + 1, by omega, by go_num, trivial, HN2⟩
    case measure => simp [intOf]; omega
  ·have hkI : ¬ (k : Int) < (ts.length : Int) := by omega
   have HN2 : Hid (∀ q, q < ts.length -> (tx ts q).name ≠ nm) := fun q hq => HN.out q (by omega)
   go_wp2
   exact bodyPost_ret (v := .tuple #[.agg #[.slice none 0 0], .bool false]) (by simp [results, Tryz.results6, go_sem, y0, yf]) rfl ⟨HB.out.setCell (p := ⟨w.heap.size + 1, 0, none⟩) (by simp) _, Or.inr ⟨HN2.out, rfl⟩⟩
theorem reps_at {ys : List R3} (h : repsOk ys = true) {k : Nat} (hk : k < ys.length) : (rx ys k).text.size <= 2000 /\ 0 <= (rx ys k).code /\ (rx ys k).code <= 7 := by
 simp only [repsOk, Bool.and_eq_true, decide_eq_true_eq] at h
 have := h.2 k hk
 simp only [repOk, Bool.and_eq_true, decide_eq_true_eq] at this
 omega
set_option maxHeartbeats 800000 in
theorem validReplies_yes (a : Option Addr) (cap : Nat) (rs : List R3) (w : World) (hc : RowR w a rs) (hv : repsOk rs = true) :
  Calls Tryz.prog 20 #[.slice a rs.length cap] w fun e w' => Below w.heap.size w w' /\ e = .returned (.bool true) := by
 have hl : rs.length <= 200 := by simp only [repsOk, Bool.and_eq_true, decide_eq_true_eq] at hv; exact hv.1
 have d2 : decide (200 < (rs.length : Int)) = false := by simp; omega
 have HV : Hid (repsOk rs = true) := hv
 clear hv
 go_enter Tryz.func20, Tryz.ntmps20
 go_wp2
 go_loopw [10] (fun i wr => ∃ k : Nat, k <= rs.length /\ i = .int .i64 k /\ Below w.heap.size w wr) (fun i _ => rs.length - (intOf i).toNat)
 case atStart => exact ⟨0, Nat.zero_le _, rfl, Below.refl _ _⟩
 case round =>
  obtain ⟨k, hk, rfl, hbr⟩ := hrel
  by_cases hlt : k < rs.length
  ·obtain ⟨b, off, rfl, c1, c2, c3⟩ := (hc.below hbr) k hlt
   have hb0 : b < wr.heap.size := World.block_lt_of_cell? wr _ c1
   obtain ⟨g1, g2, g3⟩ := reps_at HV.out hlt
   have ka : ∀ x, (wr.alloc x).cell? ⟨b, off + k * 3, none⟩ = some (.bool (rx rs k).has) := fun x => by rw [World.cell?_alloc_lt _ _ _ hb0]; exact c1
   have kb : ∀ x, (wr.alloc x).cell? ⟨b, off + k * 3 + 1, none⟩ = some (.int .i64 (rx rs k).code) := fun x => by rw [World.cell?_alloc_lt _ _ _ hb0]; exact c2
   have kc : ∀ x, (wr.alloc x).cell? ⟨b, off + k * 3 + 2, none⟩ = some (.string (rx rs k).text) := fun x => by rw [World.cell?_alloc_lt _ _ _ hb0]; exact c3
   clear hc hb0
   generalize rx rs k = r at *
   have d1 : decide ((2000 : Int) < r.text.size) = false := by simp; omega
   have d3 : decide (r.code < 0) = false := by simp; omega
   have d4 : decide (7 < r.code) = false := by simp; omega
   go_wp2
   go_roundw
   case rel => exact ⟨k + 1, by omega, by go_num, hbr.alloc hbr.size _⟩
   case measure => simp [intOf]; omega
  ·go_wp2
   go_ret
   exact ⟨hbr, rfl⟩
theorem VAt.res {is : List I3} {ys : List R3} {B m : Nat} {cd : Value} {ov : Bool} {c : Int} {t : ByteArray} {ask : Bool} {nm : ByteArray} {st : Int} {w : World} (h : VAt is ys B m cd ov c t ask nm st w) : ∃ r, Full is ys s00 r /\ turnV ov c t ask nm st = resT r /\ (ov = true -> ∃ c t n, r = .over c t n) := by
 rcases h with ⟨rfl, rfl, rfl, n, rfl, hf⟩ | ⟨rfl, rfl, rfl, s1, s', rfl, h1, h2, _⟩
 ·exact ⟨_, hf, rfl, fun _ => ⟨_, _, _, rfl⟩⟩
 ·refine ⟨.wait ask nm s'.steps, ?_, rfl, fun h => by cases h⟩
  have := h2.2 [] (.wait ask nm s'.steps)
  rw [List.append_nil] at this
  exact this (.wait h1 (by rw [h2.1]; exact Nat.le_refl _))
theorem Full.more {is : List I3} {ys : List R3} (zs : List R3) {s : St} {r : Res} (h : Full is ys s r) : ∀ {c t n}, r = .over c t n -> Full is (ys ++ zs) s r := by
 have ha : ∀ i, i < ys.length -> rx (ys ++ zs) i = rx ys i := fun i hi => by unfold rx; rw [List.getD_eq_getElem?_getD, List.getElem?_append_left hi, List.getD_eq_getElem?_getD]
 induction h with
 | over h1 => intro c t n e; exact .over h1
 | go h1 _ ih => intro c t n e; exact .go h1 (ih e)
 | wait h1 h2 => intro c t n e; cases e
 | ans h1 h2 h3 _ ih => intro c t n e; exact .ans h1 (by simp; omega) (by rw [ha _ h2]; exact h3) (ih e)
 | «end» h1 h2 h3 => intro c t n e; exact .end h1 (by simp; omega) (by rw [ha _ h2]; exact h3)
theorem take_snoc {ys : List R3} {k : Nat} (h : k < ys.length) : ys.take k ++ [rx ys k] = ys.take (k + 1) := by
 unfold rx
 rw [List.getD_eq_getElem?_getD, List.getElem?_eq_getElem h, List.take_add_one, List.getElem?_eq_getElem h]
 rfl
set_option maxRecDepth 100000 in
set_option maxHeartbeats 8000000 in
theorem implNext_yes (a ra : Option Addr) (cap rcap : Nat) (is : List I3) (ys : List R3) (w : World) (hT : Tab w) (hP : P10 w) (hc : Row3 w a is) (hr : RowR w ra ys) (hs : ∀ i, (ix is i).text.size <= 9223372036854775807) (hv1 : progOk is = true) (hv2 : repsOk ys = true) :
  Calls Tryz.prog 9 #[.agg #[.slice a is.length cap], .slice ra ys.length rcap] w fun e w' => Below w.heap.size w w' /\ ∃ r, Full is ys s00 r /\ e = .returned (resT r) := by
 have hP2 := hP.two
 obtain ⟨W, eW⟩ : ∃ W, ((w.alloc (.cells #[.slice a is.length cap] 37)).alloc (.cells #[.bool false, .int .i64 0, .string ⟨#[]⟩, .bool false, .string ⟨#[]⟩, .int .i64 0] 44)) = W := ⟨_, rfl⟩
 have hb0 : Below w.heap.size w W := by rw [<- eW]; exact ((Below.refl _ _).alloc (Nat.le_refl _) _).alloc (by simp) _
 have hk : W.heap[w.heap.size + 1]? = some (.cells #[.bool false, .int .i64 0, .string ⟨#[]⟩, .bool false, .string ⟨#[]⟩, .int .i64 0] 44 (0, 0)) := by
  have h := heap_new (w.alloc (.cells #[.slice a is.length cap] 37)) (.cells #[.bool false, .int .i64 0, .string ⟨#[]⟩, .bool false, .string ⟨#[]⟩, .int .i64 0] 44)
  rw [show (w.alloc (.cells #[.slice a is.length cap] 37)).heap.size = w.heap.size + 1 from by simp, eW] at h
  exact h
 have hbx : W.cell? ⟨w.heap.size, 0, none⟩ = some (.slice a is.length cap) := by rw [<- eW]; simp [go_sem]
 have HT : Hid (Tab w) := hT
 have HP : Hid (P10 w) := hP
 have HC : Hid (Row3 w a is) := hc
 have HR : Hid (RowR w ra ys) := hr
 have HV1 : Hid (progOk is = true) := hv1
 have HV2 : Hid (repsOk ys = true) := hv2
 have hlen := prog_len hv1
 have hyl : ys.length <= 200 := by simp only [repsOk, Bool.and_eq_true, decide_eq_true_eq] at hv2; exact hv2.1
 clear hT hP hc hr
 go_enter Tryz.func9, Tryz.ntmps9
 go_wp2_with fail
 clear eW
 refine (implValid_any a cap is _ (HT.out.below hb0) (HC.out.below hb0) (by omega) hs).mono ?_
 rintro e w1 ⟨hb1, rfl⟩
 have hB1 := bN hb0 hb1
 have hk1 : w1.heap[w.heap.size + 1]? = some (.cells #[.bool false, .int .i64 0, .string ⟨#[]⟩, .bool false, .string ⟨#[]⟩, .int .i64 0] 44 (0, 0)) := by rw [hb1.block _ (blk_lt hk)]; exact hk
 have hbx1 := cell_below hb1 hbx
 rw [hv1]
 clear hb0 hb1 hk hbx
 go_wp2_with fail
 refine (validReplies_yes ra rcap ys _ (HR.out.below hB1) HV2.out).mono ?_
 rintro e w2 ⟨hb2, rfl⟩
 have HB2 : Hid (Below w.heap.size w w2) := bN hB1 hb2
 have HK2 : Hid (w2.heap[w.heap.size + 1]? = some (.cells #[.bool false, .int .i64 0, .string ⟨#[]⟩, .bool false, .string ⟨#[]⟩, .int .i64 0] 44 (0, 0))) := by show _ = _; rw [hb2.block _ (blk_lt hk1)]; exact hk1
 have hbx2 := cell_below hb2 hbx1
 clear hb2 hk1 hB1 hbx1 hv1 hv2
 have hBw : w.heap.size <= w2.heap.size := HB2.out.size
 have hR1 : w.heap.size + 1 < w2.heap.size := blk_lt HK2.out
 have HMK : Hid (MOk w2.heap.size (w2.alloc (.cells #[.slice none 0 0, .slice a is.length cap, .int .i64 0, .int .i64 0, .int .i64 0] 73)) w2.heap.size s00.stack (.slice a is.length cap) s00.pl s00.steps s00.looks) := ⟨Nat.le_refl _, .slice none 0 0, heap_new _ _, ⟨by simp [s00, strV], Or.inl ⟨rfl, rfl⟩⟩⟩
 have HCB : Hid (CodeB w2.heap.size w2 a is) := ⟨HC.out.below HB2.out, fun b off e => by
  obtain ⟨b', off', e', c1, _, _⟩ := HC.out.below HB2.out 0 (by omega)
  rw [e] at e'; cases e'
  exact World.block_lt_of_cell? _ _ c1⟩
 have HT2 : Hid (Tab w2) := HT.out.below HB2.out
 have HP2 : Hid (P10 w2) := HP.out.below HB2.out
 have HRB : Hid (RowR w2 ra ys) := HR.out.below HB2.out
 have HBM : Hid (Below w2.heap.size w2 (w2.alloc (.cells #[.slice none 0 0, .slice a is.length cap, .int .i64 0, .int .i64 0, .int .i64 0] 73))) := (Below.refl _ _).alloc (Nat.le_refl _) _
 go_wp2_with fail
 refine (run_any w2.heap.size w2.heap.size is a cap s00 _ HMK.out (by simp) (by omega) (HCB.out.belowB HBM.out) (HT2.out.below HBM.out) (HP2.out.below HBM.out) HV1.out (s00_ok is)).mono ?_
 rintro e w3 ⟨hk3, hpost⟩
 obtain ⟨ov, c, t, ask, nm, st, rfl, hat⟩ := run_vat HV1.out hpost
 have HB3 : Hid (Below w2.heap.size w2 w3) := HBM.out.trans hk3.below
 have hsz3 : w2.heap.size <= w3.heap.size := HB3.out.size
 have HSZ : Hid (w2.heap.size + 1 <= w3.heap.size) := (by have := hk3.size; simpa using this : w2.heap.size + 1 <= w3.heap.size)
 obtain ⟨T, eT⟩ : ∃ T, w3.heap.size = T := ⟨_, rfl⟩
 obtain ⟨w4, e4⟩ : ∃ y, w3.alloc (.cells #[.bool ov, .int .i64 c, .string t, .bool ask, .string nm, .int .i64 st] 44) = y := ⟨_, rfl⟩
 have HB4 : Hid (Below w2.heap.size w2 w4) := by show Below _ _ _; rw [<- e4]; exact HB3.out.alloc hsz3 _
 have HT4 : Hid (w4.heap[T]? = some (.cells #[.bool ov, .int .i64 c, .string t, .bool ask, .string nm, .int .i64 st] 44 (0, 0))) := by show _ = _; rw [<- e4, <- eT]; exact heap_new _ _
 have HAT : Hid (VAt is (ys.take 0) w2.heap.size w2.heap.size (.slice a is.length cap) ov c t ask nm st w4) := by show VAt _ _ _ _ _ _ _ _ _ _ _ _; rw [<- e4]; exact hat.mono (fun _ _ _ _ k => k.alloc _)
 rw [eT] at HSZ hsz3
 clear hat hpost hk3 hbx2
 unfold turnV
 go_wp2_with fail
 try rw [eT]
 try rw [e4]
 clear eT e4 HB3
 go_loopw [24] (fun i wr => ∃ (k : Nat) (ov : Bool) (c : Int) (t : ByteArray) (ask : Bool) (nm : ByteArray) (st : Int), k <= ys.length /\ i = .int .i64 k /\ Hid (wr.heap[T]? = some (.cells #[.bool ov, .int .i64 c, .string t, .bool ask, .string nm, .int .i64 st] 44 (0, 0))) /\ Hid (VAt is (ys.take k) w2.heap.size w2.heap.size (.slice a is.length cap) ov c t ask nm st wr) /\ Hid (Below w2.heap.size w2 wr)) (fun i _ => ys.length - (intOf i).toNat)
 case atStart => exact ⟨0, ov, c, t, ask, nm, st, Nat.zero_le _, rfl, HT4, HAT, HB4⟩
 case round =>
  clear HAT HB4 HT4
  obtain ⟨k, ov, c, t, ask, nm, st, hk, rfl, HTT, HA, HW⟩ := hrel
  have hszr : w2.heap.size <= wr.heap.size := HW.out.size
  by_cases hlt : k < ys.length
  ·have hkI : (k : Int) < (ys.length : Int) := by omega
   obtain ⟨b, off, rfl, d1, d2, d3⟩ := (HRB.out.below HW.out) k hlt
   have hyk : (rx ys k).text.size <= 2000 := (reps_at HV2.out hlt).1
   have HTK := hid (take_snoc hlt)
   generalize rx ys k = y at *
   obtain ⟨wa, ea⟩ : ∃ z, wr.alloc (.cells #[.bool y.has, .int .i64 y.code, .string y.text] 49) = z := ⟨_, rfl⟩
   have hba : Below wr.heap.size wr wa := by rw [<- ea]; exact (Below.refl _ _).alloc (Nat.le_refl _) _
   have x0 : wa.cell? ⟨wr.heap.size, 0, none⟩ = some (.bool y.has) := by rw [<- ea]; simp [go_sem]
   have x1 : wa.cell? ⟨wr.heap.size, 1, none⟩ = some (.int .i64 y.code) := by rw [<- ea]; simp [go_sem]
   have x2 : wa.cell? ⟨wr.heap.size, 2, none⟩ = some (.string y.text) := by rw [<- ea]; simp [go_sem]
   have hTa := (hba.block _ (blk_lt HTT.out)).trans HTT.out
   have HBa : Hid (Below w2.heap.size w2 wa) := bN HW.out hba
   obtain ⟨k0, k1, k2, k3, k4, k5, kf⟩ := six_cells hTa
   cases ov
   ·rcases HA.out with ⟨h0, _⟩ | ⟨_, rfl, rfl, s1, s', rfl, g1, g2, g3, g4, g5⟩
    ·cases h0
    obtain ⟨q1, q2, q3, q4, q5, q6, q7, q8⟩ := step0_look g1
    have h50 : s'.stack.length < 50 := by rw [q7, restL_length]; have := g3.len; omega
    have HAn : Hid (∀ _ : Unit, Calls Tryz.prog 22 #[.pointer (some ⟨w2.heap.size, 0, none⟩), turnV false 0 ⟨#[]⟩ ask nm s'.steps, .agg #[.bool y.has, .int .i64 y.code, .string y.text]] wa fun e w' => AnsPost is ask nm y s' w2.heap.size w2.heap.size (.slice a is.length cap) wa e w') := fun _ =>
     answer_any w2.heap.size w2.heap.size is a cap ask nm y s' wa (g5.below hba) HBa.out.size (by omega) (HCB.out.belowB HBa.out) (HT2.out.below HBa.out) (HP2.out.below HBa.out) HV1.out g4 (by omega) h50 hyk
    have HG : Hid (step0 is s1 = .look ask nm s' /\ RQ is (ys.take k) s1 /\ StOk is s1 /\ StOk is s') := ⟨g1, g2, g3, g4⟩
    have HTA := hid hTa
    clear g1 g2 g3 g4 g5 q1 q2 q3 q4 q5 q6 q7 q8 h50 hTa hba
    unfold turnV at HAn
    go_wp2_with fail
    try rw [ea]
    clear ea
    refine (HAn.out ()).mono ?_
    rintro e w5 ⟨hk5, hpost⟩
    obtain ⟨ov', c', t', ask', nm', st', rfl, hnext⟩ := ans_vat HV1.out HG.out.1 HG.out.2.1 hyk rfl HG.out.2.2.1 HG.out.2.2.2 hpost
    rw [HTK.out] at hnext
    have hTb := hk5.keep _ _ 44 (by decide) (by have := HSZ.out; omega) HTA.out
    obtain ⟨n1, n2⟩ := storeT rfl hTb (.bool ov') (.int .i64 c') (.string t') (.bool ask') (.string nm') (.int .i64 st')
    have HN := hid (hnext.mono (fun ss pl st' lk h => n2 _ _ _ _ _ _ _ h))
    have HN1 := hid n1
    have HBn := hid (below_set6 (HBa.out.trans hk5.below) (b := T) hsz3 (.bool ov') (.int .i64 c') (.string t') (.bool ask') (.string nm') (.int .i64 st'))
    clear k0 k1 k2 k3 k4 k5 kf
    obtain ⟨k0, k1, k2, k3, k4, k5, kf⟩ := six_cells hTb
    clear hTb n1 n2 hnext hk5 hpost HAn
    unfold turnV
    go_wp2_with fail
    go_roundw
    case rel => exact ⟨k + 1, ov', c', t', ask', nm', st', by omega, by go_num, HN1, HN, HBn⟩
    case measure => simp [intOf]; omega
   ·obtain ⟨r, hf, hres, ho⟩ := HA.out.res
    obtain ⟨c', t', n', hr⟩ := ho rfl
    have HF : Hid (Full is ys s00 r) := by
     have := hf.more (ys.drop k) hr
     rw [List.take_append_drop] at this
     exact this
    have HRES := hid hres
    have hRl : Hid (w.heap.size + 1 < wr.heap.size) := show w.heap.size + 1 < wr.heap.size by omega
    have hR : wa.heap[w.heap.size + 1]? = some (.cells #[.bool false, .int .i64 0, .string ⟨#[]⟩, .bool false, .string ⟨#[]⟩, .int .i64 0] 44 (0, 0)) := by rw [HBa.out.block _ hR1]; exact HK2.out
    have HBW := hid (below_set6 (HB2.out.trans (HBa.out.mono hBw)) (b := w.heap.size + 1) (by omega) (.bool true) (.int .i64 c) (.string t) (.bool ask) (.string nm) (.int .i64 st))
    obtain ⟨z0, z1, z2, z3, z4, z5, zf⟩ := six_cells hR
    clear hf hres ho hr hTa hR hba
    go_wp2_with fail
    try rw [ea]
    clear ea
    exact bodyPost_ret (v := turnV true c t ask nm st) (by simp [results, Tryz.results9, go_sem, turnV, z0, z1, z2, z3, z4, z5]) rfl ⟨HBW.out, r, HF.out, by rw [HRES.out]⟩
  ·have hkI : ¬ (k : Int) < (ys.length : Int) := by omega
   obtain ⟨r, hf, hres, _⟩ := HA.out.res
   rw [List.take_of_length_le (by omega)] at hf
   have HF := hid hf
   have HRES := hid hres
   have hR : wr.heap[w.heap.size + 1]? = some (.cells #[.bool false, .int .i64 0, .string ⟨#[]⟩, .bool false, .string ⟨#[]⟩, .int .i64 0] 44 (0, 0)) := by rw [HW.out.block _ hR1]; exact HK2.out
   have HBW := hid (below_set6 (HB2.out.trans (HW.out.mono hBw)) (b := w.heap.size + 1) (by omega) (.bool ov) (.int .i64 c) (.string t) (.bool ask) (.string nm) (.int .i64 st))
   obtain ⟨k0, k1, k2, k3, k4, k5, kf⟩ := six_cells HTT.out
   obtain ⟨z0, z1, z2, z3, z4, z5, zf⟩ := six_cells hR
   clear hf hres hR
   go_wp2_with fail
   exact bodyPost_ret (v := turnV ov c t ask nm st) (by simp [results, Tryz.results9, go_sem, turnV, z0, z1, z2, z3, z4, z5]) rfl ⟨HBW.out, r, HF.out, by rw [HRES.out]⟩
def RpEq (y z : R3) : Prop := y.has = z.has /\ (y.has = true -> y = z)
theorem ans_eq {y z : R3} (h : RpEq y z) (ask : Bool) (nm : ByteArray) (s : St) : ansP ask nm y s = ansP ask nm z s := by
 cases hy : y.has with
 | true => rw [h.2 hy]
 | false => have hz := h.1.symm.trans hy; simp [ansP, hy, hz]
theorem Full.cong {is : List I3} {ys zs : List R3} (hl : ys.length = zs.length) (he : ∀ i, i < ys.length -> RpEq (rx ys i) (rx zs i)) {s : St} {r : Res} (h : Full is ys s r) : Full is zs s r := by
 induction h with
 | over h1 => exact .over h1
 | go h1 _ ih => exact .go h1 ih
 | wait h1 h2 => exact .wait h1 (by omega)
 | ans h1 h2 h3 _ ih => exact .ans h1 (by omega) (by rw [<- ans_eq (he _ h2)]; exact h3) ih
 | «end» h1 h2 h3 => exact .end h1 (by omega) (by rw [<- ans_eq (he _ h2)]; exact h3)
theorem rx_app {ys : List R3} {z : R3} {i : Nat} (h : i < ys.length) : rx (ys ++ [z]) i = rx ys i := by
 unfold rx; rw [List.getD_eq_getElem?_getD, List.getElem?_append_left h, List.getD_eq_getElem?_getD]
theorem rx_new (ys : List R3) (z : R3) : rx (ys ++ [z]) ys.length = z := by
 unfold rx; rw [List.getD_eq_getElem?_getD, List.getElem?_append_right (Nat.le_refl _)]; simp
theorem rx_take {ys : List R3} {n i : Nat} (h : i < n) : rx (ys.take n) i = rx ys i := by
 unfold rx; rw [List.getD_eq_getElem?_getD, List.getElem?_take_of_lt h, List.getD_eq_getElem?_getD]
theorem ev_le {ss : List S2} {ts : List T2} (hv : SpV ss ts) (hS : Shal ts) {nm : ByteArray} {ms : Ms} {d : Md} (hd : Does ss ts [] [] (.make nm) ms (.ok d)) : ∃ k, k <= 61 /\ Ev ss ts k (.make nm) d := by
 obtain ⟨⟨k, hk⟩, _⟩ := hd.ev (fun nm d h => by simp [lk] at h) d rfl
 refine ⟨k, ?_, hk⟩
 obtain ⟨f1, f2⟩ := hk.few hv.ascS hv.ascT
 rcases hS with h | ⟨h, ha⟩ | ⟨l, mk, h⟩
 ·omega
 ·have := f2 ha
  have := List.length_filter_le (fun t : T2 => askB t.code) ts
  omega
 ·rcases hk.inv with h0 | ⟨i, k', e, h1, h2, h3, h4⟩
  ·omega
  ·obtain ⟨j, hj, ej⟩ := h.all i h2
   have en : nm = l j := h3.symm.trans ej
   subst en
   cases j with
   | zero => exact absurd hd (h.first hv)
   | succ j =>
    obtain ⟨d', h5, _⟩ := h.ev hv (61 - (j + 1)) (by omega)
    rw [show 61 - (61 - (j + 1)) = j + 1 by omega] at h5
    have := (h5.unique hv.ascS hv.ascT hk).1
    omega
theorem gx_cons0 (g : G3) (l : List G3) : gx (g :: l) 0 = g := rfl
theorem gx_succ (g : G3) (l : List G3) (i : Nat) : gx (g :: l) (i + 1) = gx l i := by unfold gx; rw [List.getD_cons_succ]
theorem rx_cons0 (g : R3) (l : List R3) : rx (g :: l) 0 = g := rfl
theorem rx_succ (g : R3) (l : List R3) (i : Nat) : rx (g :: l) (i + 1) = rx l i := by unfold rx; rw [List.getD_cons_succ]
theorem Ev.trace {ss : List S2} {ts : List T2} {k : Nat} {j : Job} {d : Md} (h : Ev ss ts k j d) : ∀ {is ys ls}, j = .run is ys ls -> ∃ (zs : List R3) (ms : List G3) (n : Nat), d.ls = ls ++ ms /\ zs.length = ms.length /\ Full is (ys ++ zs) s00 (.over d.c d.t n) /\ ∀ i, i < ms.length -> (∃ n, Full is (ys ++ zs.take i) s00 (.wait (gx ms i).ask (gx ms i).name n)) /\ ((gx ms i).ask = false -> ∃ b, rx zs i = ⟨b, 0, ⟨#[]⟩⟩ /\ (gx ms i).sum = flagB b) /\ ((gx ms i).ask = true -> ∃ k' d', k' <= k /\ Ev ss ts k' (.make (gx ms i).name) d' /\ rx zs i = repP ss ts (gx ms i).name d') := by
 induction h with
 | source | missing | made => intro is ys ls e; cases e
 | @over is ys ls c t n h1 => intro is' ys' ls' e; cases e; exact ⟨[], [], n, by simp, rfl, by rw [List.append_nil]; exact h1, fun i hi => by simp at hi⟩
 | has h1 h2 ih =>
  intro is ys ls e
  cases e
  obtain ⟨zs, ms, n, e1, e2, e3, e4⟩ := ih rfl
  refine ⟨_ :: zs, _ :: ms, n, by rw [e1, List.append_assoc]; rfl, by simp [e2], by rw [List.append_assoc] at e3; exact e3, fun i hi => ?_⟩
  cases i with
  | zero => exact ⟨⟨_, by rw [List.take_zero, List.append_nil]; exact h1⟩, fun _ => ⟨_, rfl, rfl⟩, fun h => by cases h⟩
  | succ i =>
   obtain ⟨⟨m, q1⟩, q2, q3⟩ := e4 i (by simpa using hi)
   rw [List.append_assoc] at q1
   simp only [gx_succ, rx_succ, List.take_succ_cons]
   exact ⟨⟨m, q1⟩, q2, q3⟩
 | @asked is ys ls nm n k k' d d' h1 h2 h3 ih1 ih2 =>
  intro is ys ls e
  cases e
  obtain ⟨zs, ms, n, e1, e2, e3, e4⟩ := ih2 rfl
  refine ⟨_ :: zs, _ :: ms, n, by rw [e1, List.append_assoc]; rfl, by simp [e2], by rw [List.append_assoc] at e3; exact e3, fun i hi => ?_⟩
  cases i with
  | zero => exact ⟨⟨_, by rw [List.take_zero, List.append_nil]; exact h1⟩, (fun h => by cases h), fun _ => ⟨k, d, by omega, h2, rfl⟩⟩
  | succ i =>
   obtain ⟨⟨m, q1⟩, q2, q3⟩ := e4 i (by simpa using hi)
   rw [List.append_assoc] at q1
   simp only [gx_succ, rx_succ, List.take_succ_cons]
   exact ⟨⟨m, q1⟩, q2, fun h => by obtain ⟨a, b, c, d⟩ := q3 h; exact ⟨a, b, by omega, d⟩⟩
open Classical in
theorem Ev.rep {ss : List S2} {ts : List T2} {k : Nat} {nm : ByteArray} {d : Md} (h : Ev ss ts k (.make nm) d) (b : Bool) (hb : b = true <-> Has (tnames ts) nm) : RpEq (repP ss ts nm d) ⟨b || decide (d.c = 0), d.c, d.t⟩ := by
 cases h with
 | source h1 h2 =>
  have : thingB ss ts nm = true := by unfold thingB; rw [decide_eq_true_iff]; exact Or.inl (h2 ▸ has_src h1)
  unfold repP; rw [if_pos this]; simp [RpEq]
 | missing h1 =>
  have hn : b = false := by cases b; rfl; exact absurd (Or.inr (hb.mp rfl)) h1
  have : ¬ thingB ss ts nm = true := by unfold thingB; rw [decide_eq_true_iff]; exact h1
  unfold repP; rw [if_neg this, hn]; simp [RpEq]
 | made h1 h2 h3 h4 =>
  have ht : Has (tnames ts) nm := h3 ▸ has_tgt h2
  rw [rep_tgt ht, hb.mpr ht]; simp [RpEq]
structure Rpl (ss : List S2) (ts : List T2) (is : List I3) (ls : List G3) (c : Int) (t : ByteArray) (zs : List R3) : Prop where
 len : zs.length = ls.length
 le : ls.length <= 200
 fin : ∃ n, Full is zs s00 (.over c t n)
 stp : ∀ i, i < ls.length -> (∃ n, Full is (zs.take i) s00 (.wait (gx ls i).ask (gx ls i).name n)) /\ NameOk (gx ls i).name
 no : ∀ i, i < ls.length -> (gx ls i).ask = false -> ∃ b, rx zs i = ⟨b, 0, ⟨#[]⟩⟩ /\ (gx ls i).sum = flagB b
 yes : ∀ i, i < ls.length -> (gx ls i).ask = true -> ∀ c' t' ch', CleanP ss ts (gx ls i).name c' t' ch' -> 0 <= c' /\ c' <= 5 /\ t'.size <= 2000 /\ ch' = [] /\ ∀ b, (b = true <-> Has (tnames ts) (gx ls i).name) -> RpEq (rx zs i) ⟨b || decide (c' = 0), c', t'⟩
theorem replay_of {w : World} {sa ta : Option Addr} {ss : List S2} {ts : List T2} (ho : SpOk w sa ss ta ts) (hS : Shal ts) {nm : ByteArray} {ls : List G3} {c : Int} {t : ByteArray} {ch : List ByteArray} (h : TrailP ss ts nm ls c t ch) (h5 : c <= 5) {q : Nat} (hq : q < ts.length) (en : (tx ts q).name = nm) : progOk (tx ts q).code = true /\ ∃ zs, Rpl ss ts (tx ts q).code ls c t zs := by
 have hle := (h.len ho).1
 rcases h with ⟨_, _, rfl, _⟩ | ⟨hc, hnb, ms, a, hd, q'⟩
 ·omega
 ·have hE := env_of ho hc
  cases a with
  | circle l => obtain ⟨_, rfl, _⟩ := q'; omega
  | deep x => obtain ⟨_, rfl, _⟩ := q'; omega
  | ok d =>
   obtain ⟨rfl, rfl, rfl, rfl⟩ := q'
   refine ⟨hE.v.pr q hq, ?_⟩
   obtain ⟨k, hk, hev⟩ := ev_le hE.v hS hd
   have ht : Has (tnames ts) nm := en ▸ has_tgt hq
   cases hev with
   | source h1 h2 => exact absurd ht (hE.v.dis _ (h2 ▸ has_src h1))
   | missing h1 => exact absurd (Or.inr ht) h1
   | made h1 h2 h3 h4 =>
    cases tgt_inj hE.v.ascT h2 hq (h3.trans en.symm)
    obtain ⟨zs, ms, n, e1, e2, e3, e4⟩ := h4.trace rfl
    rw [List.nil_append] at e1 e3
    rw [e1] at hle
    refine ⟨zs, ?_⟩
    rw [e1]
    refine ⟨e2, hle, ⟨n, e3⟩, fun i hi => ?_, fun i hi => (e4 i hi).2.1, fun i hi ha c' t' ch' hcl => ?_⟩
    ·obtain ⟨⟨m, hm⟩, _⟩ := e4 i hi
     rw [List.nil_append] at hm
     exact ⟨⟨m, hm⟩, full_name hm rfl⟩
    ·obtain ⟨⟨m, hm⟩, _, q3⟩ := e4 i hi
     obtain ⟨k', d', q4, q5, q6⟩ := q3 ha
     have hnm := full_name hm rfl
     obtain ⟨ms', hd'⟩ := q5.clean hE.v.ascS hE.v.ascT (by omega)
     obtain ⟨i1, _, i3⟩ := Does.inv hE.v hd' (Inv.nil ss ts) hnm trivial d' rfl
     have ok := i1.done _ _ i3
     have hcl' : CleanP ss ts (gx ms i).name d'.c d'.t [] := Or.inr ⟨hc, nameB_true hnm, ms', _, hd', rfl, rfl, rfl⟩
     obtain ⟨g1, g2, g3⟩ := clean_uniq ho hcl' hcl
     rw [g1, g2, g3, q6]
     exact ⟨ok.c0, ok.c5, ok.t2, rfl, fun b hb => q5.rep b hb⟩
structure RpR (zs R : List R3) : Prop where
 le : R.length <= zs.length
 eq : ∀ i, i < R.length -> RpEq (rx zs i) (rx R i)
 ok : ∀ i, i < R.length -> repOk (rx R i) = true
theorem RpR.nil (zs : List R3) : RpR zs [] := ⟨Nat.zero_le _, fun i hi => by simp at hi, fun i hi => by simp at hi⟩
theorem RpR.full {is : List I3} {zs R : List R3} (h : RpR zs R) {r : Res} (hf : Full is (zs.take R.length) s00 r) : Full is R s00 r := by
 have hl : (zs.take R.length).length = R.length := by rw [List.length_take]; have := h.le; omega
 exact hf.cong hl fun i hi => by rw [hl] at hi; rw [rx_take hi]; exact h.eq i hi
theorem RpR.snoc {zs R : List R3} (h : RpR zs R) (hl : R.length < zs.length) {y : R3} (he : RpEq (rx zs R.length) y) (ho : repOk y = true) : RpR zs (R ++ [y]) := by
 refine ⟨by simp; omega, fun i hi => ?_, rx_snoc h.ok ho⟩
 rcases Nat.lt_or_ge i R.length with hi' | hi'
 ·rw [rx_app hi']; exact h.eq i hi'
 ·obtain rfl : i = R.length := by simp at hi; omega
  rw [rx_new]; exact he
theorem RpR.reps {zs R : List R3} (h : RpR zs R) (hl : zs.length <= 200) : repsOk R = true := by
 have := h.le
 simp only [repsOk, Bool.and_eq_true, decide_eq_true_eq]
 exact ⟨by omega, h.ok⟩
end Go.Proofs.YtmanoabocelpeaaGreatDoor
