import Derived.Test.YtmeojnaoljgieaeGreatDoorVVoS
namespace Go.Proofs.YtmeojnaoljgieaeGreatDoor
open Go.RowKit
set_option linter.unusedVariables false
set_option maxHeartbeats 8000000
set_option maxRecDepth 100000
theorem szRecordS_le (a : Option Addr) (cap : Nat) (is : List T3) (lft : Int) (w : World) (hf0 : 0 <= lft) (hf1 : lft <= 1048576) (hc : RowQ w a is) (hk : QsOk is) :
    Calls Tryz.prog 54 #[.slice a is.length cap, .int .i64 lft] w fun e w' => Below w.heap.size w w' /\ ∃ r : Int, e = .returned (.int .i64 r) /\ (r < 0 \/ ((0 <= r /\ r <= lft) /\ QsSmall is)) := by
  have hl' := hk.lr
  unfold maxLen at hl'
  have HK0 : Hid (QsOk is) := hk
  clear hk
  by_cases h0 : (is.length : Int) <= lft
  · go_enter Tryz.func54, Tryz.ntmps54
    go_wp2
    go_loopw [1, 5] (fun l i wr => ∃ k : Nat, ∃ q : Int, k <= is.length /\ i = .int .i64 k /\ l = .int .i64 q /\ 0 <= q /\ q <= lft /\ Below w.heap.size w wr /\ Hid (∀ i, i < k -> (qx is i).code.length <= 1048576 /\ (qx is i).looks.length <= 1048576)) (fun _ i _ => is.length - (intOf i).toNat)
    case atStart => exact ⟨0, _, Nat.zero_le _, rfl, rfl, by omega, by omega, Below.refl _ _, (fun i hi => by omega : ∀ i, i < 0 -> (qx is i).code.length <= 1048576 /\ (qx is i).looks.length <= 1048576)⟩
    case round =>
      obtain ⟨k, q, hk, rfl, rfl, hq0, hq1, hbr, HK⟩ := hrel
      by_cases hlt : k < is.length
      · obtain ⟨b, off, rfl, ca, cc, la, lc, c1, c2, c3, c4, c5⟩ := (hc.below hbr) k hlt
        have hok : RecOk wr ca (qx is k).code la (qx is k).looks (qx is k).out := ⟨c4, c5, HK0.out.lc k, HK0.out.lg k, HK0.out.xc k, HK0.out.ng k, HK0.out.sg k, HK0.out.so k⟩
        clear hc c4 c5
        obtain ⟨i, ei⟩ : ∃ i, qx is k = i := ⟨_, rfl⟩
        rw [ei] at c1 c2 c3 hok
        have EI : Hid (qx is k = i) := ei
        clear ei
        go_wp2_with fail
        refine (szRecord_left ca la cc lc i.code i.looks i.out q (by omega) (by omega) _ hok).mono ?_
        rintro e w1 ⟨hb1, r, rfl, hr⟩
        rcases hr with hr | hr
        · go_wp2
          go_ret
          exact ⟨hbr.trans (hb1.mono hbr.size), -1, rfl, Or.inl (by omega)⟩
        · have hr0 : 0 <= r := by omega
          have hr1 : r <= q := by omega
          go_wp2
          go_roundw
          case rel => exact ⟨k + 1, _, by omega, by go_num, rfl, by omega, by omega, hbr.trans (hb1.mono hbr.size), ext_succ HK.out (by rw [EI.out]; omega)⟩
          case measure => simp [intOf]; omega
      · go_wp2
        go_ret
        exact ⟨hbr, _, rfl, by refine Or.inr ⟨⟨by omega, by omega⟩, by omega, fun i hi => HK.out i (by omega)⟩⟩
  · go_enter Tryz.func54, Tryz.ntmps54
    go_wp2
    go_ret
    exact ⟨Below.refl _ _, -1, rfl, Or.inl (by omega)⟩
theorem szStore_le (n : Int) (ta ra : Option Addr) (tc rc : Nat) (ts : List ByteArray) (rs : List T3) (w : World) (h : SoOk w ta ts ra rs) :
    Calls Tryz.prog 16 #[.agg #[.int .i64 n, .slice ta ts.length tc, .slice ra rs.length rc], .int .i64 1048576] w fun e w' => Below w.heap.size w w' /\ ∃ r : Int, e = .returned (.int .i64 r) /\ (r < 0 \/ ((0 <= r /\ r <= 1048576) /\ ts.length <= 1048576 /\ QsSmall rs)) := by
  have hb0 : Below w.heap.size w (w.alloc (.cells #[.int .i64 n, .slice ta ts.length tc, .slice ra rs.length rc] 44)) := (Below.refl _ _).alloc (Nat.le_refl _) _
  have k2 : (w.alloc (.cells #[.int .i64 n, .slice ta ts.length tc, .slice ra rs.length rc] 44)).cell? ⟨w.heap.size, 2, none⟩ = some (.slice ra rs.length rc) := by simp [go_sem]
  have HO : Hid (SoOk w ta ts ra rs) := h
  clear h
  go_enter Tryz.func16, Tryz.ntmps16
  go_wp2_with fail
  refine (szStringS_any ta tc ts _ (HO.out.st.below hb0) HO.out.lt HO.out.xt 1048576 (by omega) (by omega)).mono ?_
  rintro e w1 ⟨rfl, r, rfl, hr⟩
  rcases hr with hr | ⟨h1, hr0, hr1⟩
  · go_wp2
    go_ret
    exact ⟨hb0, -1, rfl, Or.inl (by omega)⟩
  · have hlt : ts.length <= 1048576 := by omega
    go_wp2_with fail
    refine (szRecordS_le ra rc rs r _ hr0 hr1 (HO.out.rq.below hb0) HO.out.ok).mono ?_
    rintro e w2 ⟨hb2, r2, rfl, hr2⟩
    have hB2 := bt hb0 hb2
    clear hb0 hb2 k2
    rcases hr2 with hr2 | ⟨hr2, hq⟩
    · go_wp2
      go_ret
      exact ⟨hB2, -1, rfl, Or.inl (by omega)⟩
    · have HQ : Hid (QsSmall rs) := hq
      clear hq
      go_wp2
      go_ret
      exact ⟨hB2, r2, rfl, Or.inr ⟨⟨by omega, by omega⟩, hlt, HQ.out⟩⟩
/-- What Vouch says at any store and record. -/
def VouO (n : Int) (ts : List ByteArray) (rs : List T3) (is : List I3) (gs : List G3) (out : ByteArray) (r : Int) : Prop :=
  ((WdOk n ts rs /\ RcOk n.toNat ⟨is, gs, out⟩) /\ VouR n.toNat ts is gs out r) \/ (¬ (WdOk n ts rs /\ RcOk n.toNat ⟨is, gs, out⟩) /\ r = 1)
theorem VouO.unique {n : Int} {ts : List ByteArray} {rs : List T3} {is : List I3} {gs : List G3} {out : ByteArray} {r r' : Int} (h : VouO n ts rs is gs out r) (h' : VouO n ts rs is gs out r') : r' = r := by
  rcases h with ⟨h1, h2⟩ | ⟨h1, rfl⟩ <;> rcases h' with ⟨k1, k2⟩ | ⟨k1, rfl⟩
  · exact VouP.unique h2 k2
  · exact absurd h1 k1
  · exact absurd k1 h1
  · rfl
theorem RcIn.below {w w' : World} {a la : Option Addr} {is : List I3} {gs : List G3} (h : RcIn w a is la gs) (hb : Below w.heap.size w w') : RcIn w' a is la gs := ⟨h.rc.below hb, h.rg.below hb, h.lc, h.lg, h.xc, h.ng, h.sg⟩
theorem specVouch_any (n : Int) (ta ra a la : Option Addr) (tc rc cap lc : Nat) (ts : List ByteArray) (rs : List T3) (is : List I3) (gs : List G3) (out : ByteArray) (w : World) (h : StIn w ta ts ra rs) (hr : RcIn w a is la gs) (ho : out.size <= maxLen) :
    Calls Tryz.prog 18 #[.agg #[.int .i64 n, .slice ta ts.length tc, .slice ra rs.length rc], .agg #[.slice a is.length cap, .slice la gs.length lc, .string out]] w fun e w' => Below w.heap.size w w' /\ ∃ r, e = .returned (.int .i64 r) /\ VouO n ts rs is gs out r := by
  obtain ⟨W, eW⟩ : ∃ W, ((w.alloc (.cells #[.int .i64 n, .slice ta ts.length tc, .slice ra rs.length rc] 56)).alloc (.cells #[.slice a is.length cap, .slice la gs.length lc, .string out] 63)) = W := ⟨_, rfl⟩
  have hb0 : Below w.heap.size w W := by rw [<- eW]; exact ((Below.refl _ _).alloc (Nat.le_refl _) _).alloc (by simp) _
  have HS0 : Hid (W.heap[w.heap.size]? = some (.cells #[.int .i64 n, .slice ta ts.length tc, .slice ra rs.length rc] 56 (0, 0))) := by
    show W.heap[w.heap.size]? = _
    rw [<- eW, Lib.alloc_old _ _ _ (by simp)]
    exact heap_new _ _
  have HR0 : Hid (W.heap[w.heap.size + 1]? = some (.cells #[.slice a is.length cap, .slice la gs.length lc, .string out] 63 (0, 0))) := by
    show W.heap[w.heap.size + 1]? = _
    rw [<- eW]
    have h := heap_new (w.alloc (.cells #[.int .i64 n, .slice ta ts.length tc, .slice ra rs.length rc] 56)) (.cells #[.slice a is.length cap, .slice la gs.length lc, .string out] 63)
    rw [show (w.alloc (.cells #[.int .i64 n, .slice ta ts.length tc, .slice ra rs.length rc] 56)).heap.size = w.heap.size + 1 from by simp] at h
    exact h
  obtain ⟨s0, s1, s2, _⟩ := bk3 HS0.out
  obtain ⟨p0, p1, p2, _⟩ := bk3 HR0.out
  have HI : Hid (StIn w ta ts ra rs) := h
  have HR : Hid (RcIn w a is la gs) := hr
  clear h hr
  go_enter Tryz.func18, Tryz.ntmps18
  go_wp2_with fail
  clear eW
  refine (specValidStore_any n ta ra tc rc ts rs _ (HI.out.below hb0)).mono ?_
  rintro e w1 ⟨hb1, b, rfl, hb⟩
  have hB1 := bt hb0 hb1
  have s10 := cell_below hb1 s0
  have s11 := cell_below hb1 s1
  have s12 := cell_below hb1 s2
  have p10 := cell_below hb1 p0
  have p11 := cell_below hb1 p1
  have p12 := cell_below hb1 p2
  clear hb0 hb1 s0 s1 s2 p0 p1 p2
  rcases b_iff hb with ⟨hg, rfl⟩ | ⟨hg, rfl⟩
  · obtain ⟨m, rfl⟩ := Int.eq_ofNat_of_zero_le (show 0 <= n by have := hg.1; omega)
    have HG : Hid (WdOk m ts rs) := hg
    have h1 : 1 <= m := by have := hg.1; omega
    have h8 : m <= 8 := by have := hg.2.1; omega
    clear hb hg
    go_wp2_with fail
    refine (l4RecordOk_any a la cap lc is gs out m _ h8 (HR.out.below hB1) ho).mono ?_
    rintro e w2 ⟨hb2, b, rfl, hb⟩
    have hB2 := bt hB1 hb2
    have s20 := cell_below hb2 s10
    have s21 := cell_below hb2 s11
    have s22 := cell_below hb2 s12
    have p20 := cell_below hb2 p10
    have p21 := cell_below hb2 p11
    have p22 := cell_below hb2 p12
    clear hb2 s10 s11 s12 p10 p11 p12
    rcases b_iff hb with ⟨hq, rfl⟩ | ⟨hq, rfl⟩
    · have HQ : Hid (RcOk m ⟨is, gs, out⟩) := hq
      clear hb hq
      go_wp2_with fail
      refine (l4Vouch_any m ta ra a la tc rs.length rc cap lc ts is gs out _ h1 h8 (HI.out.st.below hB2) HI.out.lt HG.out.2.2.1.2.1 HG.out.2.2.1.2.2 HQ.out.1 (HR.out.rc.below hB2) (HR.out.rg.below hB2) HQ.out.2.2.1 HR.out.xc).mono ?_
      rintro e w3 ⟨hb3, r, rfl, hr⟩
      have HO : Hid (VouO m ts rs is gs out r) := Or.inl ⟨⟨HG.out, HQ.out⟩, hr⟩
      clear hr
      go_wp2
      go_ret
      exact ⟨bt hB2 hb3, r, rfl, HO.out⟩
    · have HO : Hid (VouO m ts rs is gs out 1) := Or.inr ⟨fun k => hq k.2, rfl⟩
      clear hb hq
      go_wp2_with fail
      go_ret
      exact ⟨hB2, 1, rfl, HO.out⟩
  · have HO : Hid (VouO n ts rs is gs out 1) := Or.inr ⟨fun k => hg k.1, rfl⟩
    clear hb hg
    go_wp2_with fail
    go_ret
    exact ⟨hB1, 1, rfl, HO.out⟩
theorem implVouch_any (n : Int) (ta ra a la : Option Addr) (tc rc cap lc : Nat) (ts : List ByteArray) (rs : List T3) (is : List I3) (gs : List G3) (out : ByteArray) (w : World) (hT : Tab w) (hP : P10 w) (h : StIn w ta ts ra rs) (hr : RcIn w a is la gs) (ho : out.size <= maxLen) :
    Calls Tryz.prog 21 #[.agg #[.int .i64 n, .slice ta ts.length tc, .slice ra rs.length rc], .agg #[.slice a is.length cap, .slice la gs.length lc, .string out]] w fun e w' => Below w.heap.size w w' /\ ∃ r, e = .returned (.int .i64 r) /\ VouO n ts rs is gs out r := by
  obtain ⟨W, eW⟩ : ∃ W, ((w.alloc (.cells #[.int .i64 n, .slice ta ts.length tc, .slice ra rs.length rc] 56)).alloc (.cells #[.slice a is.length cap, .slice la gs.length lc, .string out] 63)) = W := ⟨_, rfl⟩
  have hb0 : Below w.heap.size w W := by rw [<- eW]; exact ((Below.refl _ _).alloc (Nat.le_refl _) _).alloc (by simp) _
  have HS0 : Hid (W.heap[w.heap.size]? = some (.cells #[.int .i64 n, .slice ta ts.length tc, .slice ra rs.length rc] 56 (0, 0))) := by
    show W.heap[w.heap.size]? = _
    rw [<- eW, Lib.alloc_old _ _ _ (by simp)]
    exact heap_new _ _
  have HR0 : Hid (W.heap[w.heap.size + 1]? = some (.cells #[.slice a is.length cap, .slice la gs.length lc, .string out] 63 (0, 0))) := by
    show W.heap[w.heap.size + 1]? = _
    rw [<- eW]
    have h := heap_new (w.alloc (.cells #[.int .i64 n, .slice ta ts.length tc, .slice ra rs.length rc] 56)) (.cells #[.slice a is.length cap, .slice la gs.length lc, .string out] 63)
    rw [show (w.alloc (.cells #[.int .i64 n, .slice ta ts.length tc, .slice ra rs.length rc] 56)).heap.size = w.heap.size + 1 from by simp] at h
    exact h
  obtain ⟨s0, s1, s2, _⟩ := bk3 HS0.out
  obtain ⟨p0, p1, p2, _⟩ := bk3 HR0.out
  have HI : Hid (StIn w ta ts ra rs) := h
  have HR : Hid (RcIn w a is la gs) := hr
  have HT : Hid (Tab w) := hT
  have HP : Hid (P10 w) := hP
  clear h hr hT hP
  go_enter Tryz.func21, Tryz.ntmps21
  go_wp2_with fail
  clear eW
  refine (shelfWith_any n ta ra tc rc ts rs _ (HT.out.below hb0) (HI.out.below hb0)).mono ?_
  rintro e w1 ⟨hb1, hcs⟩
  have hB1 := bt hb0 hb1
  have s10 := cell_below hb1 s0
  have s11 := cell_below hb1 s1
  have s12 := cell_below hb1 s2
  have p10 := cell_below hb1 p0
  have p11 := cell_below hb1 p1
  have p12 := cell_below hb1 p2
  clear hb0 hb1 s0 s1 s2 p0 p1 p2
  rcases hcs with ⟨hg, v, rfl⟩ | ⟨hg, g, sg, rfl, hsh, hsm, _⟩
  rotate_left
  · obtain ⟨m, rfl⟩ := Int.eq_ofNat_of_zero_le (show 0 <= n by have := hg.1; omega)
    have HG : Hid (WdOk m ts rs) := hg
    have HSH : Hid (ShelfAt w1 g m ta ra ts.length tc rs.length rc (.slice (some ⟨sg, 0, none⟩) ts.length ts.length)) := hsh
    have HSM : Hid (Strs w1 (some ⟨sg, 0, none⟩) (ts.map (sumB m))) := hsm
    have h1 : 1 <= m := by have := hg.1; omega
    have h8 : m <= 8 := by have := hg.2.1; omega
    clear hg hsh hsm
    go_wp2_with fail
    refine (validRecord_any a la cap lc is gs out m _ (HT.out.below hB1) h8 (HR.out.below hB1) ho).mono ?_
    rintro e w2 ⟨hb2, b, rfl, hb⟩
    have hB2 := bt hB1 hb2
    have s20 := cell_below hb2 s10
    have s21 := cell_below hb2 s11
    have s22 := cell_below hb2 s12
    have p20 := cell_below hb2 p10
    have p21 := cell_below hb2 p11
    have p22 := cell_below hb2 p12
    replace HSH : Hid (ShelfAt w2 g m ta ra ts.length tc rs.length rc (.slice (some ⟨sg, 0, none⟩) ts.length ts.length)) := HSH.out.below hb2
    replace HSM : Hid (Strs w2 (some ⟨sg, 0, none⟩) (ts.map (sumB m))) := HSM.out.below hb2
    clear hb2 s10 s11 s12 p10 p11 p12
    rcases b_iff hb with ⟨hq, rfl⟩ | ⟨hq, rfl⟩
    · have HQ : Hid (RcOk m ⟨is, gs, out⟩) := hq
      clear hb hq
      go_wp2_with fail
      refine (vouch_any m g ta ra (some ⟨sg, 0, none⟩) a la tc rs.length rc ts.length cap lc ts is gs out _ h1 h8 HSH.out HSM.out (HT.out.below hB2) (HP.out.below hB2) (HI.out.st.below hB2) HI.out.lt HG.out.2.2.1.2.1 HG.out.2.2.1.2.2 HQ.out.1 (HR.out.rc.below hB2) (HR.out.rg.below hB2) HQ.out.2.2.1).mono ?_
      rintro e w3 ⟨hb3, r, rfl, hr⟩
      have HO : Hid (VouO m ts rs is gs out r) := Or.inl ⟨⟨HG.out, HQ.out⟩, hr⟩
      clear hr
      go_wp2
      go_ret
      exact ⟨bt hB2 hb3, r, rfl, HO.out⟩
    · have HO : Hid (VouO m ts rs is gs out 1) := Or.inr ⟨fun k => hq k.2, rfl⟩
      clear hb hq
      go_wp2_with fail
      go_ret
      exact ⟨hB2, 1, rfl, HO.out⟩
  · have HO : Hid (VouO n ts rs is gs out 1) := Or.inr ⟨fun k => hg k.1, rfl⟩
    clear hg
    go_wp2_with fail
    go_ret
    exact ⟨hB1, 1, rfl, HO.out⟩
end Go.Proofs.YtmeojnaoljgieaeGreatDoor
