/-
  impl.Next: the walk.
-/
import Derived.Test.YtmeojnaoljgieabDoorNNextP
namespace Go.Proofs.YtmeojnaoljgieabDoor
open Go.RowKit
set_option linter.unusedVariables false

set_option maxRecDepth 100000 in
set_option maxHeartbeats 8000000 in
theorem implNext_no (a ra : Option Addr) (cap rcap : Nat) (is : List I3) (ys : List R3) (w : World) (hT : Tab w) (hc : Row3 w a is) (hr : RowR w ra ys) (hl : is.length ≤ 1048576) (hl2 : ys.length ≤ 1048576) (hs : ∀ i, (ix is i).text.size ≤ 9223372036854775807) (hs2 : ∀ i, (rx ys i).text.size ≤ 9223372036854775807) (hv : ¬ (progOk is = true ∧ repsOk ys = true)) :
    Calls Tryd.prog 19 #[.agg #[.slice a is.length cap], .slice ra ys.length rcap] w fun e w' => Below w.heap.size w w' ∧ e = .returned (turnV false 9 ⟨#[]⟩ false ⟨#[]⟩ 0) := by
  have hb0 : Below w.heap.size w ((w.alloc (.cells #[.slice a is.length cap] 29)).alloc (.cells #[.bool false, .int .i64 0, .string ⟨#[]⟩, .bool false, .string ⟨#[]⟩, .int .i64 0] 49)) := ((Below.refl _ _).alloc (Nat.le_refl _) _).alloc (by simp) _
  have hk : ((w.alloc (.cells #[.slice a is.length cap] 29)).alloc (.cells #[.bool false, .int .i64 0, .string ⟨#[]⟩, .bool false, .string ⟨#[]⟩, .int .i64 0] 49)).heap[w.heap.size + 1]? = some (.cells #[.bool false, .int .i64 0, .string ⟨#[]⟩, .bool false, .string ⟨#[]⟩, .int .i64 0] 49 (0, 0)) := by
    have h := heap_new (w.alloc (.cells #[.slice a is.length cap] 29)) (.cells #[.bool false, .int .i64 0, .string ⟨#[]⟩, .bool false, .string ⟨#[]⟩, .int .i64 0] 49)
    rw [show (w.alloc (.cells #[.slice a is.length cap] 29)).heap.size = w.heap.size + 1 from by simp] at h
    exact h
  obtain ⟨v1, hv1⟩ : ∃ v, progOk is = v := ⟨_, rfl⟩
  obtain ⟨v2, hv2⟩ : ∃ v, repsOk ys = v := ⟨_, rfl⟩
  rw [hv1, hv2] at hv
  go_enter Tryd.func19, Tryd.ntmps19
  go_wp2_with fail
  refine (implValid_any a cap is _ (hT.below hb0) (hc.below hb0) hl hs).mono ?_
  rintro e w1 ⟨hb1, rfl⟩
  have hB1 := bN hb0 hb1
  have hk1 : w1.heap[w.heap.size + 1]? = some (.cells #[.bool false, .int .i64 0, .string ⟨#[]⟩, .bool false, .string ⟨#[]⟩, .int .i64 0] 49 (0, 0)) := by rw [hb1.block _ (blk_lt hk)]; exact hk
  rw [hv1]
  clear hb0 hb1 hk
  cases v1
  · have k0 := Lib.cell_of_heap hk1 0
    have k1 := Lib.cell_of_heap hk1 1
    have k2 := Lib.cell_of_heap hk1 2
    have k3 := Lib.cell_of_heap hk1 3
    have k4 := Lib.cell_of_heap hk1 4
    have k5 := Lib.cell_of_heap hk1 5
    simp only [List.getElem?_toArray, List.getElem?_cons_zero, List.getElem?_cons_succ] at k0 k1 k2 k3 k4 k5
    have f0 : ∀ j, w1.frozen? ⟨w.heap.size + 1, j, none⟩ = false := fun j => Lib.frozen_of_heap hk1 j
    clear hk1
    go_wp2_with fail
    exact bodyPost_ret (v := turnV false 9 ⟨#[]⟩ false ⟨#[]⟩ 0) (by simp [results, Tryd.results19, go_sem, turnV, k0, k1, k2, k3, k4, k5]) rfl ⟨(((((hB1.setCell (p := ⟨w.heap.size + 1, 0, none⟩) (by simp) _).setCell (p := ⟨w.heap.size + 1, 1, none⟩) (by simp) _).setCell (p := ⟨w.heap.size + 1, 2, none⟩) (by simp) _).setCell (p := ⟨w.heap.size + 1, 3, none⟩) (by simp) _).setCell (p := ⟨w.heap.size + 1, 4, none⟩) (by simp) _).setCell (p := ⟨w.heap.size + 1, 5, none⟩) (by simp) _, rfl⟩
  · have hv2' : v2 = false := by cases v2; rfl; simp at hv
    subst hv2'
    go_wp2_with fail
    refine (validReplies_any ra rcap ys _ (hr.below hB1) hl2 hs2).mono ?_
    rintro e w2 ⟨hb2, rfl⟩
    have hB2 := bN hB1 hb2
    have hk2 : w2.heap[w.heap.size + 1]? = some (.cells #[.bool false, .int .i64 0, .string ⟨#[]⟩, .bool false, .string ⟨#[]⟩, .int .i64 0] 49 (0, 0)) := by rw [hb2.block _ (blk_lt hk1)]; exact hk1
    rw [hv2]
    clear hb2 hk1 hB1
    have k0 := Lib.cell_of_heap hk2 0
    have k1 := Lib.cell_of_heap hk2 1
    have k2 := Lib.cell_of_heap hk2 2
    have k3 := Lib.cell_of_heap hk2 3
    have k4 := Lib.cell_of_heap hk2 4
    have k5 := Lib.cell_of_heap hk2 5
    simp only [List.getElem?_toArray, List.getElem?_cons_zero, List.getElem?_cons_succ] at k0 k1 k2 k3 k4 k5
    have f0 : ∀ j, w2.frozen? ⟨w.heap.size + 1, j, none⟩ = false := fun j => Lib.frozen_of_heap hk2 j
    clear hk2
    go_wp2_with fail
    exact bodyPost_ret (v := turnV false 9 ⟨#[]⟩ false ⟨#[]⟩ 0) (by simp [results, Tryd.results19, go_sem, turnV, k0, k1, k2, k3, k4, k5]) rfl ⟨(((((hB2.setCell (p := ⟨w.heap.size + 1, 0, none⟩) (by simp) _).setCell (p := ⟨w.heap.size + 1, 1, none⟩) (by simp) _).setCell (p := ⟨w.heap.size + 1, 2, none⟩) (by simp) _).setCell (p := ⟨w.heap.size + 1, 3, none⟩) (by simp) _).setCell (p := ⟨w.heap.size + 1, 4, none⟩) (by simp) _).setCell (p := ⟨w.heap.size + 1, 5, none⟩) (by simp) _, rfl⟩

theorem reps_size {ys : List R3} (h : repsOk ys = true) {k : Nat} (hk : k < ys.length) : (rx ys k).text.size ≤ 2000 := by
  simp only [repsOk, Bool.and_eq_true, decide_eq_true_eq] at h
  have := h.2 k hk
  simp only [repOk, Bool.and_eq_true, decide_eq_true_eq] at this
  omega

set_option maxRecDepth 100000 in
set_option maxHeartbeats 8000000 in
theorem implNext_yes (a ra : Option Addr) (cap rcap : Nat) (is : List I3) (ys : List R3) (w : World) (hT : Tab w) (hP : P10 w) (hc : Row3 w a is) (hr : RowR w ra ys) (hl : is.length ≤ 1048576) (hl2 : ys.length ≤ 1048576) (hs : ∀ i, (ix is i).text.size ≤ 9223372036854775807) (hs2 : ∀ i, (rx ys i).text.size ≤ 9223372036854775807) (hv1 : progOk is = true) (hv2 : repsOk ys = true) :
    Calls Tryd.prog 19 #[.agg #[.slice a is.length cap], .slice ra ys.length rcap] w fun e w' => Below w.heap.size w w' ∧ ∃ r, Full is ys s00 r ∧ e = .returned (resT r) := by
  have hb0 : Below w.heap.size w ((w.alloc (.cells #[.slice a is.length cap] 29)).alloc (.cells #[.bool false, .int .i64 0, .string ⟨#[]⟩, .bool false, .string ⟨#[]⟩, .int .i64 0] 49)) := ((Below.refl _ _).alloc (Nat.le_refl _) _).alloc (by simp) _
  have hk : ((w.alloc (.cells #[.slice a is.length cap] 29)).alloc (.cells #[.bool false, .int .i64 0, .string ⟨#[]⟩, .bool false, .string ⟨#[]⟩, .int .i64 0] 49)).heap[w.heap.size + 1]? = some (.cells #[.bool false, .int .i64 0, .string ⟨#[]⟩, .bool false, .string ⟨#[]⟩, .int .i64 0] 49 (0, 0)) := by
    have h := heap_new (w.alloc (.cells #[.slice a is.length cap] 29)) (.cells #[.bool false, .int .i64 0, .string ⟨#[]⟩, .bool false, .string ⟨#[]⟩, .int .i64 0] 49)
    rw [show (w.alloc (.cells #[.slice a is.length cap] 29)).heap.size = w.heap.size + 1 from by simp] at h
    exact h
  have hbx : ((w.alloc (.cells #[.slice a is.length cap] 29)).alloc (.cells #[.bool false, .int .i64 0, .string ⟨#[]⟩, .bool false, .string ⟨#[]⟩, .int .i64 0] 49)).cell? ⟨w.heap.size, 0, none⟩ = some (.slice a is.length cap) := by simp [go_sem]
  have HT : Hid (Tab w) := hT
  have HP : Hid (P10 w) := hP
  have HC : Hid (Row3 w a is) := hc
  have HR : Hid (RowR w ra ys) := hr
  have HV1 : Hid (progOk is = true) := hv1
  have HV2 : Hid (repsOk ys = true) := hv2
  have hlen := prog_len hv1
  clear hT hP hc hr
  go_enter Tryd.func19, Tryd.ntmps19
  go_wp2_with fail
  refine (implValid_any a cap is _ (HT.out.below hb0) (HC.out.below hb0) hl hs).mono ?_
  rintro e w1 ⟨hb1, rfl⟩
  have hB1 := bN hb0 hb1
  have hk1 : w1.heap[w.heap.size + 1]? = some (.cells #[.bool false, .int .i64 0, .string ⟨#[]⟩, .bool false, .string ⟨#[]⟩, .int .i64 0] 49 (0, 0)) := by rw [hb1.block _ (blk_lt hk)]; exact hk
  have hbx1 := cell_below hb1 hbx
  rw [hv1]
  clear hb0 hb1 hk hbx
  go_wp2_with fail
  refine (validReplies_any ra rcap ys _ (HR.out.below hB1) hl2 hs2).mono ?_
  rintro e w2 ⟨hb2, rfl⟩
  have HB2 : Hid (Below w.heap.size w w2) := bN hB1 hb2
  have HK2 : Hid (w2.heap[w.heap.size + 1]? = some (.cells #[.bool false, .int .i64 0, .string ⟨#[]⟩, .bool false, .string ⟨#[]⟩, .int .i64 0] 49 (0, 0))) := by rw [hb2.block _ (blk_lt hk1)]; exact hk1
  have hbx2 := cell_below hb2 hbx1
  rw [hv2]
  clear hb2 hk1 hB1 hbx1 hv1 hv2
  -- the machine is laid at w2's end: B
  have hBw : w.heap.size ≤ w2.heap.size := HB2.out.size
  have hR1 : w.heap.size + 1 < w2.heap.size := blk_lt HK2.out
  have hbm : Below w2.heap.size w2 (w2.alloc (.cells #[.slice none 0 0, .slice a is.length cap, .int .i64 0, .int .i64 0, .int .i64 0] 103)) := (Below.refl _ _).alloc (Nat.le_refl _) _
  have HMK : Hid (MOk w2.heap.size (w2.alloc (.cells #[.slice none 0 0, .slice a is.length cap, .int .i64 0, .int .i64 0, .int .i64 0] 103)) w2.heap.size s00.stack (.slice a is.length cap) s00.pl s00.steps s00.looks) := ⟨Nat.le_refl _, .slice none 0 0, heap_new _ _, ⟨by simp [s00, strV], Or.inl ⟨rfl, rfl⟩⟩⟩
  have HCB : Hid (CodeB w2.heap.size w2 a is) := ⟨HC.out.below HB2.out, fun b off e => by
    rcases Nat.lt_or_ge 0 is.length with h | h
    · obtain ⟨b', off', e', c1, _, _⟩ := HC.out.below HB2.out 0 h
      rw [e] at e'; cases e'
      exact World.block_lt_of_cell? _ _ c1
    · omega⟩
  have HT2 : Hid (Tab w2) := HT.out.below HB2.out
  have HP2 : Hid (P10 w2) := HP.out.below HB2.out
  have HRB : Hid (RowR w2 ra ys) := HR.out.below HB2.out
  have HBM : Hid (Below w2.heap.size w2 (w2.alloc (.cells #[.slice none 0 0, .slice a is.length cap, .int .i64 0, .int .i64 0, .int .i64 0] 103))) := hbm
  clear hbm
  go_wp2_with fail
  refine (run_any w2.heap.size w2.heap.size is a cap s00 _ HMK.out (by simp) (by omega) (HCB.out.belowB HBM.out) (HT2.out.below HBM.out) (HP2.out.below HBM.out) HV1.out (s00_ok is)).mono ?_
  rintro e w3 ⟨hk3, hpost⟩
  obtain ⟨ov, c, t, ask, nm, st, rfl, hat⟩ := run_at ys HV1.out hpost
  have HB3 : Hid (Below w2.heap.size w2 w3) := HBM.out.trans hk3.below
  have HAT : Hid (At is ys w2.heap.size w2.heap.size w3.heap.size (.slice a is.length cap) 0 ov c t ask nm st (w3.alloc (.cells #[.bool ov, .int .i64 c, .string t, .bool ask, .string nm, .int .i64 st] 49))) := hat
  have hsz3 : w2.heap.size ≤ w3.heap.size := HB3.out.size
  have HSZ : Hid (w2.heap.size + 1 ≤ w3.heap.size) := (by have := hk3.size; simpa using this : w2.heap.size + 1 ≤ w3.heap.size)
  have HB4 : Hid (Below w2.heap.size w2 (w3.alloc (.cells #[.bool ov, .int .i64 c, .string t, .bool ask, .string nm, .int .i64 st] 49))) := HB3.out.alloc hsz3 _
  clear hat hpost hk3 hbx2
  unfold turnV
  go_wp2_with fail
  go_loopw [24] (fun i wr => ∃ (k : Nat) (ov : Bool) (c : Int) (t : ByteArray) (ask : Bool) (nm : ByteArray) (st : Int), k ≤ ys.length ∧ i = .int .i64 k ∧ Hid (At is ys w2.heap.size w2.heap.size w3.heap.size (.slice a is.length cap) k ov c t ask nm st wr) ∧ Hid (Below w2.heap.size w2 wr)) (fun i _ => ys.length - (intOf i).toNat)
  case atStart => exact ⟨0, ov, c, t, ask, nm, st, Nat.zero_le _, rfl, HAT.out, HB4.out⟩
  case round =>
    clear HAT HB4 HB3
    obtain ⟨k, ov, c, t, ask, nm, st, hk, rfl, HA, HW⟩ := hrel
    have hszr : w2.heap.size ≤ wr.heap.size := HW.out.size
    by_cases hlt : k < ys.length
    · have hkI : (k : Int) < (ys.length : Int) := by omega
      obtain ⟨b, off, rfl, d1, d2, d3⟩ := (HRB.out.below HW.out) k hlt
      have hyk : (rx ys k).text.size ≤ 2000 := reps_size HV2.out hlt
      obtain ⟨y, ey⟩ : ∃ y, rx ys k = y := ⟨_, rfl⟩
      have EY : Hid (rx ys k = y) := ey
      rw [ey] at d1 d2 d3
      clear ey
      have hTl : Hid (w3.heap.size < wr.heap.size) := blk_lt HA.out.1
      have hRl : Hid (w.heap.size + 1 < wr.heap.size) := show w.heap.size + 1 < wr.heap.size by omega
      have hT : (wr.alloc (.cells #[.bool y.has, .int .i64 y.code, .string y.text] 94)).heap[w3.heap.size]? = some (.cells #[.bool ov, .int .i64 c, .string t, .bool ask, .string nm, .int .i64 st] 49 (0, 0)) := by rw [Lib.alloc_old wr _ _ hTl.out]; exact HA.out.1
      have hR : (wr.alloc (.cells #[.bool y.has, .int .i64 y.code, .string y.text] 94)).heap[w.heap.size + 1]? = some (.cells #[.bool false, .int .i64 0, .string ⟨#[]⟩, .bool false, .string ⟨#[]⟩, .int .i64 0] 49 (0, 0)) := by rw [Lib.alloc_old wr _ _ hRl.out, HW.out.block _ hR1]; exact HK2.out
      have HBW : Hid (Below w.heap.size w (wr.alloc (.cells #[.bool y.has, .int .i64 y.code, .string y.text] 94))) := (HB2.out.trans (HW.out.mono hBw)).alloc (by omega) _
      cases ov
      · rcases HA.out.2 with ⟨h0, _⟩ | ⟨_, rfl, rfl, s1, s', rfl, g1, g2, g3, g4, g5, g6⟩
        · cases h0
        · obtain ⟨q1, q2, q3, q4, q5, q6, q7, q8⟩ := step0_look g1
          have h50 : s'.stack.length < 50 := by rw [q7, restL_length]; have := g4.len; omega
          have HBa : Hid (Below w2.heap.size w2 (wr.alloc (.cells #[.bool y.has, .int .i64 y.code, .string y.text] 94))) := HW.out.alloc (by omega) _
          have HAn : Hid (∀ _ : Unit, Calls Tryd.prog 52 #[.pointer (some ⟨w2.heap.size, 0, none⟩), turnV false 0 ⟨#[]⟩ ask nm s'.steps, .agg #[.bool y.has, .int .i64 y.code, .string y.text]] (wr.alloc (.cells #[.bool y.has, .int .i64 y.code, .string y.text] 94)) fun e w' => AnsPost is ask nm (rx ys k) s' w2.heap.size w2.heap.size (.slice a is.length cap) (wr.alloc (.cells #[.bool y.has, .int .i64 y.code, .string y.text] 94)) e w') := fun _ => by
            rw [EY.out]
            exact answer_any w2.heap.size w2.heap.size is a cap ask nm y s' _ (g6.alloc _) (by simp; omega) (by omega) (HCB.out.belowB HBa.out) (HT2.out.below HBa.out) (HP2.out.below HBa.out) HV1.out g5 (by omega) h50 (by rw [← EY.out]; exact hyk)
          have HG : Hid (step0 is s1 = .look ask nm s' ∧ s1.looks = k ∧ (∀ r, Full is ys s1 r → Full is ys s00 r) ∧ StOk is s1 ∧ StOk is s') := ⟨g1, g2, g3, g4, g5⟩
          have HTT : Hid ((wr.alloc (.cells #[.bool y.has, .int .i64 y.code, .string y.text] 94)).heap[w3.heap.size]? = some (.cells #[.bool false, .int .i64 0, .string ⟨#[]⟩, .bool ask, .string nm, .int .i64 s'.steps] 49 (0, 0))) := hT
          have k0 := Lib.cell_of_heap hT 0
          have k1 := Lib.cell_of_heap hT 1
          have k2 := Lib.cell_of_heap hT 2
          have k3 := Lib.cell_of_heap hT 3
          have k4 := Lib.cell_of_heap hT 4
          have k5 := Lib.cell_of_heap hT 5
          simp only [List.getElem?_toArray, List.getElem?_cons_zero, List.getElem?_cons_succ] at k0 k1 k2 k3 k4 k5
          clear g1 g2 g3 g4 g5 g6 hT hR q1 q2 q3 q4 q5 q6 q7 q8 h50
          unfold turnV at HAn
          go_wp2_with fail
          refine (HAn.out ()).mono ?_
          rintro e w4 ⟨hk4, hpost⟩
          obtain ⟨ov', c', t', ask', nm', st', rfl, hnext⟩ := ans_at (T := w3.heap.size) HV1.out hlen.2 HG.out.1 HG.out.2.1 hlt hyk HG.out.2.2.1 HG.out.2.2.2.1 HG.out.2.2.2.2 hpost
          have hTb : w4.heap[w3.heap.size]? = some (.cells #[.bool false, .int .i64 0, .string ⟨#[]⟩, .bool ask, .string nm, .int .i64 s'.steps] 49 (0, 0)) := hk4.keep _ _ 49 (by decide) (by have := HSZ.out; omega) HTT.out
          obtain ⟨n1, n2⟩ := storeT rfl hTb (.bool ov') (.int .i64 c') (.string t') (.bool ask') (.string nm') (.int .i64 st')
          have HN : Hid (At is ys w2.heap.size w2.heap.size w3.heap.size (.slice a is.length cap) (k + 1) ov' c' t' ask' nm' st' ((((((w4.setCell ⟨w3.heap.size, 0, none⟩ (.bool ov')).setCell ⟨w3.heap.size, 1, none⟩ (.int .i64 c')).setCell ⟨w3.heap.size, 2, none⟩ (.string t')).setCell ⟨w3.heap.size, 3, none⟩ (.bool ask')).setCell ⟨w3.heap.size, 4, none⟩ (.string nm')).setCell ⟨w3.heap.size, 5, none⟩ (.int .i64 st'))) := hnext _ n1 (fun ss pl st' lk h => n2 _ _ _ _ _ _ _ h)
          have HBn : Hid (Below w2.heap.size w2 ((((((w4.setCell ⟨w3.heap.size, 0, none⟩ (.bool ov')).setCell ⟨w3.heap.size, 1, none⟩ (.int .i64 c')).setCell ⟨w3.heap.size, 2, none⟩ (.string t')).setCell ⟨w3.heap.size, 3, none⟩ (.bool ask')).setCell ⟨w3.heap.size, 4, none⟩ (.string nm')).setCell ⟨w3.heap.size, 5, none⟩ (.int .i64 st'))) :=
            ((((((HBa.out.trans hk4.below).setCell (p := ⟨w3.heap.size, 0, none⟩) hsz3 _).setCell (p := ⟨w3.heap.size, 1, none⟩) hsz3 _).setCell (p := ⟨w3.heap.size, 2, none⟩) hsz3 _).setCell (p := ⟨w3.heap.size, 3, none⟩) hsz3 _).setCell (p := ⟨w3.heap.size, 4, none⟩) hsz3 _).setCell (p := ⟨w3.heap.size, 5, none⟩) hsz3 _
          clear k0 k1 k2 k3 k4 k5
          have k0 := Lib.cell_of_heap hTb 0
          have k1 := Lib.cell_of_heap hTb 1
          have k2 := Lib.cell_of_heap hTb 2
          have k3 := Lib.cell_of_heap hTb 3
          have k4 := Lib.cell_of_heap hTb 4
          have k5 := Lib.cell_of_heap hTb 5
          simp only [List.getElem?_toArray, List.getElem?_cons_zero, List.getElem?_cons_succ] at k0 k1 k2 k3 k4 k5
          have f0 : ∀ j, w4.frozen? ⟨w3.heap.size, j, none⟩ = false := fun j => Lib.frozen_of_heap hTb j
          clear hTb n1 n2 hnext hk4 hpost HAn
          unfold turnV
          go_wp2_with fail
          go_roundw
          case rel => exact ⟨k + 1, ov', c', t', ask', nm', st', by omega, by go_num, HN.out, HBn.out⟩
          case measure => simp [intOf]; omega
      · obtain ⟨r, hf, hres⟩ := at_end HA.out (Or.inl rfl)
        have HF : Hid (Full is ys s00 r) := hf
        have HRES : Hid (turnV true c t ask nm st = resT r) := hres
        clear hf hres
        have k0 := Lib.cell_of_heap hT 0
        have k1 := Lib.cell_of_heap hT 1
        have k2 := Lib.cell_of_heap hT 2
        have k3 := Lib.cell_of_heap hT 3
        have k4 := Lib.cell_of_heap hT 4
        have k5 := Lib.cell_of_heap hT 5
        simp only [List.getElem?_toArray, List.getElem?_cons_zero, List.getElem?_cons_succ] at k0 k1 k2 k3 k4 k5
        have z0 := Lib.cell_of_heap hR 0
        have z1 := Lib.cell_of_heap hR 1
        have z2 := Lib.cell_of_heap hR 2
        have z3 := Lib.cell_of_heap hR 3
        have z4 := Lib.cell_of_heap hR 4
        have z5 := Lib.cell_of_heap hR 5
        simp only [List.getElem?_toArray, List.getElem?_cons_zero, List.getElem?_cons_succ] at z0 z1 z2 z3 z4 z5
        have f0 : ∀ j, (wr.alloc (.cells #[.bool y.has, .int .i64 y.code, .string y.text] 94)).frozen? ⟨w.heap.size + 1, j, none⟩ = false := fun j => Lib.frozen_of_heap hR j
        clear hT hR
        go_wp2_with fail
        exact bodyPost_ret (v := turnV true c t ask nm st) (by simp [results, Tryd.results19, go_sem, turnV, z0, z1, z2, z3, z4, z5]) rfl ⟨(((((HBW.out.setCell (p := ⟨w.heap.size + 1, 0, none⟩) (by simp) _).setCell (p := ⟨w.heap.size + 1, 1, none⟩) (by simp) _).setCell (p := ⟨w.heap.size + 1, 2, none⟩) (by simp) _).setCell (p := ⟨w.heap.size + 1, 3, none⟩) (by simp) _).setCell (p := ⟨w.heap.size + 1, 4, none⟩) (by simp) _).setCell (p := ⟨w.heap.size + 1, 5, none⟩) (by simp) _, r, HF.out, by rw [HRES.out]⟩
    · have hkI : ¬ (k : Int) < (ys.length : Int) := by omega
      have hT := HA.out.1
      have hR : wr.heap[w.heap.size + 1]? = some (.cells #[.bool false, .int .i64 0, .string ⟨#[]⟩, .bool false, .string ⟨#[]⟩, .int .i64 0] 49 (0, 0)) := by rw [HW.out.block _ hR1]; exact HK2.out
      have HBW : Hid (Below w.heap.size w wr) := HB2.out.trans (HW.out.mono hBw)
      obtain ⟨r, hf, hres⟩ := at_end HA.out (Or.inr (by omega))
      have HF : Hid (Full is ys s00 r) := hf
      have HRES : Hid (turnV ov c t ask nm st = resT r) := hres
      clear hf hres
      have k0 := Lib.cell_of_heap hT 0
      have k1 := Lib.cell_of_heap hT 1
      have k2 := Lib.cell_of_heap hT 2
      have k3 := Lib.cell_of_heap hT 3
      have k4 := Lib.cell_of_heap hT 4
      have k5 := Lib.cell_of_heap hT 5
      simp only [List.getElem?_toArray, List.getElem?_cons_zero, List.getElem?_cons_succ] at k0 k1 k2 k3 k4 k5
      have z0 := Lib.cell_of_heap hR 0
      have z1 := Lib.cell_of_heap hR 1
      have z2 := Lib.cell_of_heap hR 2
      have z3 := Lib.cell_of_heap hR 3
      have z4 := Lib.cell_of_heap hR 4
      have z5 := Lib.cell_of_heap hR 5
      simp only [List.getElem?_toArray, List.getElem?_cons_zero, List.getElem?_cons_succ] at z0 z1 z2 z3 z4 z5
      have f0 : ∀ j, wr.frozen? ⟨w.heap.size + 1, j, none⟩ = false := fun j => Lib.frozen_of_heap hR j
      clear hT hR
      go_wp2_with fail
      exact bodyPost_ret (v := turnV ov c t ask nm st) (by simp [results, Tryd.results19, go_sem, turnV, z0, z1, z2, z3, z4, z5]) rfl ⟨(((((HBW.out.setCell (p := ⟨w.heap.size + 1, 0, none⟩) (by simp) _).setCell (p := ⟨w.heap.size + 1, 1, none⟩) (by simp) _).setCell (p := ⟨w.heap.size + 1, 2, none⟩) (by simp) _).setCell (p := ⟨w.heap.size + 1, 3, none⟩) (by simp) _).setCell (p := ⟨w.heap.size + 1, 4, none⟩) (by simp) _).setCell (p := ⟨w.heap.size + 1, 5, none⟩) (by simp) _, r, HF.out, by rw [HRES.out]⟩

end Go.Proofs.YtmeojnaoljgieabDoor
