import Derived.Test.YtmeojnaoljgieaeGreatDoorTMkE
import Derived.Test.YtmeojnaoljgieaeGreatDoorTClR
namespace Go.Proofs.YtmeojnaoljgieaeGreatDoor
open Go.RowKit
set_option linter.unusedVariables false
set_option maxHeartbeats 8000000
set_option maxRecDepth 100000
section
open Go.Deep
theorem markResult_own (lo hi K : Nat) (c : Int) (t : ByteArray) (v : Value) (ch : List ByteArray) (w : World) (hr : RowO w lo hi 9 1 v ch.length (strV ch)) (hB : lo <= w.heap.size) (hn : ch.length <= 60) (h1 : 1 <= K) (h2 : K <= 900000000000000) :
    Calls Tryz.prog 30 #[.agg #[.int .i64 c, .string t, v], .int .i64 (K : Int)] w fun e w' => e = .returned (.int .i64 ((K + ch.length : Nat) : Int)) /\ Below lo w w' /\ KeepO v.ownBlock w w' /\ ∃ ys, RowO w' lo hi 9 1 v ch.length ys /\ qMkX K ch.length ys := by
  obtain ⟨a, cap, rfl, _⟩ := row_strs hr
  have hb0 : Below w.heap.size w (w.alloc (.cells #[.int .i64 c, .string t, .slice a ch.length cap] 32)) := alloc_below _ _
  have HM : Hid (Calls Tryz.prog 79 #[.slice a ch.length cap, .int .i64 (K : Int)] (w.alloc (.cells #[.int .i64 c, .string t, .slice a ch.length cap] 32)) _) := markStringS_row lo hi ch.length K (.slice a ch.length cap) (strV ch) _ (hr.below hb0) (by simp; omega) (by omega) h1 h2
  have HB : Hid (Below w.heap.size w (w.alloc (.cells #[.int .i64 c, .string t, .slice a ch.length cap] 32))) := hb0
  clear hr hb0
  go_enter Tryz.func30, Tryz.ntmps30
  go_wp2_with fail
  refine HM.out.mono ?_
  rintro e w2 ⟨rfl, hb2, hk2, hy⟩
  have HY : Hid (Below lo w w2 /\ KeepO (Value.slice a ch.length cap).ownBlock w w2 /\ ∃ ys, RowO w2 lo hi 9 1 (.slice a ch.length cap) ch.length ys /\ qMkX K ch.length ys) := ⟨(HB.out.mono hB).trans hb2, hk2.after HB.out, hy⟩
  obtain ⟨M, eM⟩ : ∃ M, K + ch.length = M := ⟨_, rfl⟩
  have EM : Hid (K + ch.length = M) := eM
  rw [eM]
  clear hb2 hk2 hy HM eM
  go_wp2
  go_ret
  exact ⟨by rw [EM.out]; rfl, HY.out⟩
theorem heldResult_own (lo hi n K : Nat) (c : Int) (t : ByteArray) (v : Value) (ys : List Value) (w : World) (hr : RowO w lo hi 9 1 v n ys) (hm : qMkX K n ys) (hn : n <= 60) (h1 : 1 <= K) (h2 : K <= 900000000000000) :
    Calls Tryz.prog 31 #[.agg #[.int .i64 c, .string t, v], .int .i64 (K : Int)] w fun e w' => e = .returned (.int .i64 ((K + n : Nat) : Int)) /\ Below w.heap.size w w' := by
  obtain ⟨a, cap, rfl⟩ : ∃ a cap, v = .slice a n cap := by
    rcases hr.own.2 with ⟨e, h0⟩ | ⟨g, cap, cur, e, _⟩
    · exact ⟨none, 0, by rw [e, h0]⟩
    · exact ⟨_, _, e⟩
  have hb0 : Below w.heap.size w (w.alloc (.cells #[.int .i64 c, .string t, .slice a n cap] 32)) := alloc_below _ _
  have HM : Hid (Calls Tryz.prog 80 #[.slice a n cap, .int .i64 (K : Int)] (w.alloc (.cells #[.int .i64 c, .string t, .slice a n cap] 32)) _) := heldStringS_row lo hi n K (.slice a n cap) ys _ (hr.below hb0) hm (by omega) h1 h2
  have HB : Hid (Below w.heap.size w (w.alloc (.cells #[.int .i64 c, .string t, .slice a n cap] 32))) := hb0
  have hd : decide (((K + n : Nat) : Int) < 0) = false := by simp; omega
  clear hr hb0
  go_enter Tryz.func31, Tryz.ntmps31
  go_wp2_with fail
  refine HM.out.mono ?_
  rintro e w2 ⟨rfl, hb2⟩
  have HY : Hid (Below w.heap.size w w2) := bt HB.out hb2
  obtain ⟨M, eK⟩ : ∃ M, K + n = M := ⟨_, rfl⟩
  have EK : Hid (K + n = M) := eK
  rw [eK] at hd ⊢
  clear hb2 HM eK
  go_wp2_with fail
  exact bodyPost_ret (v := .int .i64 (M : Int)) (by simp [results, Tryz.results31, go_sem]) rfl ⟨by rw [EK.out], HY.out⟩
def OwnG (w : World) (lo hi : Nat) (v : Value) (ls : List G3) : Prop := ∃ xs, RowO w lo hi 39 3 v ls.length xs /\ FilledG ls ls.length xs
theorem OwnG.below {w w' : World} {lo hi : Nat} {v : Value} {ls : List G3} (h : OwnG w lo hi v ls) (hb : Below w.heap.size w w') : OwnG w' lo hi v ls := by
  obtain ⟨xs, h1, h2⟩ := h; exact ⟨xs, h1.below hb, h2⟩
theorem OwnG.keep {w w' : World} {lo hi lo' hi' : Nat} {v : Value} {ls : List G3} (h : OwnG w lo hi v ls) (hk : KeepR lo' hi' w w') (hd : hi <= lo' \/ hi' <= lo) : OwnG w' lo hi v ls := by
  obtain ⟨xs, h1, h2⟩ := h; exact ⟨xs, h1.keep hk hd, h2⟩
theorem OwnG.sl {w : World} {lo hi : Nat} {v : Value} {ls : List G3} (h : OwnG w lo hi v ls) : ∃ a cap, v = .slice a ls.length cap /\ RowG w a ls := by
  obtain ⟨xs, h1, h2⟩ := h
  rcases qown_cases h1.own with ⟨rfl, h0⟩ | ⟨g, cap, rfl⟩
  · exact ⟨none, 0, by rw [h0], fun i hi => by omega⟩
  · exact ⟨_, cap, rfl, (looks_rowG ⟨xs, h1.own, h2⟩).2⟩
theorem TrailP.len {w : World} {sa ta : Option Addr} {ss : List S2} {ts : List T2} (ho : SpOk w sa ss ta ts) {nm : ByteArray} {ls : List G3} {c : Int} {t : ByteArray} {ch : List ByteArray} (h : TrailP ss ts nm ls c t ch) : ls.length <= 200 /\ ch.length <= 60 := by
  refine ⟨?_, h.clean.len⟩
  rcases h with ⟨_, rfl, _⟩ | ⟨hc, hnb, ms, a, hd, k⟩
  · simp
  · have hE := env_of ho hc
    have hnk : NameOk nm := by unfold nameB at hnb; simpa using hnb
    cases a with
    | ok d =>
      obtain ⟨rfl, _⟩ := k
      obtain ⟨i1, _, i3⟩ := Does.inv hE.v hd (Inv.nil ss ts) hnk trivial d rfl
      exact (i1.done nm d i3).ls
    | circle l => obtain ⟨rfl, _⟩ := k; simp
    | deep x => obtain ⟨rfl, _⟩ := k; simp
theorem TrailP.uniq {w : World} {sa ta : Option Addr} {ss : List S2} {ts : List T2} (ho : SpOk w sa ss ta ts) {nm : ByteArray} {ls ls' : List G3} {c c' : Int} {t t' : ByteArray} {ch ch' : List ByteArray} (h : TrailP ss ts nm ls c t ch) (h' : TrailP ss ts nm ls' c' t' ch') : ls' = ls /\ c' = c /\ t' = t /\ ch' = ch := by
  by_cases hc : chk ss ts = 0
  · have hv := (env_of ho hc).v
    exact TrailP.unique hv.ascS hv.ascT h h'
  · rcases h with ⟨_, rfl, rfl, rfl, rfl⟩ | ⟨q, _⟩
    · rcases h' with ⟨_, rfl, rfl, rfl, rfl⟩ | ⟨q, _⟩
      · exact ⟨rfl, rfl, rfl, rfl⟩
      · exact absurd q hc
    · exact absurd q hc
theorem implTrail_own {w w0 : World} {sa ta : Option Addr} {lo hi : Nat} {v1 v2 : Value} {ss : List S2} {ts : List T2} (nm : ByteArray) (hT : Tab w) (hP : P10 w) (h : SpOk w0 sa ss ta ts) (h1 : OwnS w lo hi v1 ss) (h2 : OwnT w lo hi v2 ts) (hs : SpSmall ss ts) (ht : nm.size <= 9223372036854775807) :
    Calls Tryz.prog 10 #[.agg #[v1, v2], .string nm] w fun e w' => Below w.heap.size w w' /\ ∃ ls c t ch lv cv, e = .returned (.tuple #[lv, .agg #[.int .i64 c, .string t, cv]]) /\ TrailP ss ts nm ls c t ch /\ RowO w' w.heap.size w'.heap.size 9 1 cv ch.length (strV ch) /\ OwnG w' w.heap.size w'.heap.size lv ls := by
  obtain ⟨a1, p1, rfl, r1⟩ := h1.sl
  obtain ⟨a2, p2, rfl, r2⟩ := h2.sl
  refine (implTrail_any a1 a2 p1 p2 ss ts nm w hT hP (h.move r1 r2) hs ht).mono ?_
  rintro e w' ⟨hb, ls, c, t, ch, ca, cn, cc, la, ln, lc, rfl, hp, ho, xs, hl, hf⟩
  exact ⟨hb, ls, c, t, ch, _, _, rfl, hp, RowO.new ho, xs, RowO.new hl, hf⟩
theorem specTrail_own {w w0 : World} {sa ta : Option Addr} {lo hi : Nat} {v1 v2 : Value} {ss : List S2} {ts : List T2} (nm : ByteArray) (h : SpOk w0 sa ss ta ts) (h1 : OwnS w lo hi v1 ss) (h2 : OwnT w lo hi v2 ts) (hs : SpSmall ss ts) (ht : nm.size <= 9223372036854775807) :
    Calls Tryz.prog 11 #[.agg #[v1, v2], .string nm] w fun e w' => Below w.heap.size w w' /\ ∃ ls c t ch ca cc la lc, e = .returned (.tuple #[.slice la ls.length lc, .agg #[.int .i64 c, .string t, .slice ca ch.length cc]]) /\ TrailP ss ts nm ls c t ch /\ Strs w' ca ch /\ RowG w' la ls := by
  obtain ⟨a1, p1, rfl, r1⟩ := h1.sl
  obtain ⟨a2, p2, rfl, r2⟩ := h2.sl
  exact specTrail_any a1 a2 p1 p2 ss ts nm w (h.move r1 r2) hs ht
end
section
open Go.Deep
theorem trailLaw (sa ta : Option Addr) (c1 c2 : Nat) (ss : List S2) (ts : List T2) (nm : ByteArray) (w : World) (hT : Tab w) (hP : P10 w) (h : SpOk w sa ss ta ts) (ht : nm.size <= maxLen) :
    Calls Tryz.prog 7 #[.agg #[.slice sa ss.length c1, .slice ta ts.length c2], .string nm] w fun e w' => e = .returned (.bool true) /\ Below w.heap.size w w' := by
  have hb0 : Below w.heap.size w (w.alloc (.cells #[.slice sa ss.length c1, .slice ta ts.length c2] 71)) := alloc_below _ _
  have HZ0 : Hid ((w.alloc (.cells #[.slice sa ss.length c1, .slice ta ts.length c2] 71)).heap[w.heap.size]? = some (.cells #[.slice sa ss.length c1, .slice ta ts.length c2] 71 (0, 0))) := heapW_new _ _
  have HO : Hid (SpOk w sa ss ta ts) := h
  have HT : Hid (Tab w /\ P10 w) := ⟨hT, hP⟩
  clear h hT hP
  unfold maxLen at ht
  have ht2 : nm.size <= 9223372036854775807 := by omega
  by_cases h20 : 1048576 < nm.size
  · have d20 : decide ((1048576 : Int) < (nm.size : Int)) = true := by simp; omega
    go_enter Tryz.func7, Tryz.ntmps7
    go_wp2
    go_ret
    exact ⟨rfl, hb0⟩
  have d20 : decide ((1048576 : Int) < (nm.size : Int)) = false := by simp; omega
  go_enter Tryz.func7, Tryz.ntmps7
  go_wp2_with fail
  clear d20
  refine (szSpace_any sa ta c1 c2 ss ts _ (HO.out.below hb0)).mono ?_
  rintro e w1 ⟨hb1, r, rfl, hr⟩
  have hB1 := bt hb0 hb1
  have HZ1 : Hid (w1.heap[w.heap.size]? = _) := blk_below HZ0.out hb1
  clear hb0 hb1 HZ0
  rcases hr with hr | ⟨hsm, hr0⟩
  · go_wp2
    go_ret
    exact ⟨rfl, hB1⟩
  have hr0d : decide (r < 0) = false := by simp; omega
  obtain ⟨z0, z1⟩ := blk_c HZ1.out
  go_wp2_with fail
  clear hr0d
  refine (toSpace_own sa ta c1 c2 ss ts _ (HO.out.rs.below hB1) (HO.out.rt.below hB1) hsm).mono ?_
  rintro e w2 ⟨hb2, x1, x2, rfl, o1, o2⟩
  have hB2 := bt hB1 hb2
  have HZ2 : Hid (w2.heap[w.heap.size]? = _) := blk_below HZ1.out hb2
  clear z0 z1 hB1 hb2 HZ1
  go_wp2_with fail
  refine (specTrail_own nm HO.out o1 o2 hsm ht2).mono ?_
  rintro e w3 ⟨hb3, dl, dC, dt, dch, va, vc, vl, vk, rfl, hcp, hst, hrg⟩
  have hB3 := bt hB2 hb3
  obtain ⟨w4, e4⟩ : ∃ x, w3.alloc (.cells #[.int .i64 dC, .string dt, .slice va dch.length vc] 32) = x := ⟨_, rfl⟩
  have hb4 : Below w3.heap.size w3 w4 := by rw [<- e4]; exact alloc_below _ _
  have HV4 : Hid (w4.heap[w3.heap.size]? = some (.cells #[.int .i64 dC, .string dt, .slice va dch.length vc] 32 (0, 0))) := by show _ = _; rw [<- e4]; exact heapW_new _ _
  have HST : Hid (∀ W : World, Below w4.heap.size w4 W -> Strs W va dch) := fun W hW => (hst.below hb4).below hW
  have HRG : Hid (∀ W : World, Below w4.heap.size w4 W -> RowG W vl dl) := fun W hW => (hrg.below hb4).below hW
  have hB4 := bt hB3 hb4
  have HZ4 : Hid (w4.heap[w.heap.size]? = _) := blk_below (blk_below HZ2.out hb3) hb4
  have hsz3 : w2.heap.size <= w3.heap.size := hb3.size
  have hsz4 : w3.heap.size < w4.heap.size := blkW_lt HV4.out
  have hszw : w.heap.size < w2.heap.size := blkW_lt HZ2.out
  have HLN : Hid (dl.length <= 200 /\ dch.length <= 60) := hcp.len HO.out
  have HDR : Hid (∀ (W : World) (lo hi : Nat) (y1 y2 : Value), Below w.heap.size w W -> OwnS W lo hi y1 ss -> OwnT W lo hi y2 ts -> Calls Tryz.prog 10 #[.agg #[y1, y2], .string nm] W fun e w' => Below W.heap.size W w' /\ ∃ lv cv, e = .returned (.tuple #[lv, .agg #[.int .i64 dC, .string dt, cv]]) /\ RowO w' W.heap.size w'.heap.size 9 1 cv dch.length (strV dch) /\ OwnG w' W.heap.size w'.heap.size lv dl) := fun W lo hi y1 y2 k0 k1 k2 => by
    refine (implTrail_own nm (HT.out.1.below k0) (HT.out.2.below k0) HO.out k1 k2 hsm ht2).mono ?_
    rintro e w' ⟨hb, ls, c, t, ch, lv, cv, rfl, hp, ho, hg⟩
    obtain ⟨rfl, rfl, rfl, rfl⟩ := hcp.uniq HO.out hp
    exact ⟨hb, lv, cv, rfl, ho, hg⟩
  have HTS : Hid (∀ W : World, Below w.heap.size w W -> Calls Tryz.prog 26 #[.agg #[.slice sa ss.length c1, .slice ta ts.length c2]] W fun e w' => Below W.heap.size W w' /\ ∃ v1 v2 : Value, e = .returned (.agg #[v1, v2]) /\ OwnS w' W.heap.size w'.heap.size v1 ss /\ OwnT w' W.heap.size w'.heap.size v2 ts) := fun W hW => toSpace_own sa ta c1 c2 ss ts W (HO.out.rs.below hW) (HO.out.rt.below hW) hsm
  have HSS : Hid (SpSmall ss ts) := hsm
  have HEQ : Hid (∀ (W : World) (a : Option Addr) (cap : Nat), Below w4.heap.size w4 W -> Strs W a dch -> Calls Tryz.prog 27 #[.agg #[.int .i64 dC, .string dt, .slice a dch.length cap], .agg #[.int .i64 dC, .string dt, .slice va dch.length vc]] W fun e w' => Below W.heap.size W w' /\ e = .returned (.bool true)) := fun W a cap hW hr => eqResult_same dC dt a va cap vc dch W hr (HST.out W hW) (by have := HLN.out.2; omega)
  have HEG : Hid (∀ (W : World) (a : Option Addr) (cap : Nat), Below w4.heap.size w4 W -> RowG W a dl -> Calls Tryz.prog 38 #[.slice a dl.length cap, .slice vl dl.length vk] W fun e w' => Below W.heap.size W w' /\ e = .returned (.bool true)) := fun W a cap hW hr => eqSeenS_same a vl cap vk dl W hr (HRG.out W hW) (by have := HLN.out.1; omega)
  obtain ⟨z0, z1⟩ := blk_c HZ4.out
  clear hb3 hb4 o1 o2 hB2 hB3 HZ2 hcp hst hrg
  go_wp2_with fail
  clear e4
  refine (HTS.out w4 hB4).mono ?_
  rintro e w5 ⟨hb5, x1, x2, rfl, o1, o2⟩
  obtain ⟨xa, xc, rfl, _⟩ := o1.sl
  obtain ⟨xb, xd, rfl, _⟩ := o2.sl
  have hB5 := bt hB4 hb5
  obtain ⟨w6, e6⟩ : ∃ x, w5.alloc (.cells #[.slice xa ss.length xc, .slice xb ts.length xd] 26) = x := ⟨_, rfl⟩
  have hb6 : Below w5.heap.size w5 w6 := by rw [<- e6]; exact alloc_below _ _
  have HX6 : Hid (Sp w6 w5.heap.size w4.heap.size w5.heap.size (.slice xa ss.length xc) (.slice xb ts.length xd) ss ts) := by show Sp _ _ _ _ _ _ _ _; rw [<- e6]; exact Sp.new o1 o2
  have HB46 : Hid (Below w4.heap.size w4 w6) := bt hb5 hb6
  have hB6 := bt hB5 hb6
  have hsz5 : w4.heap.size <= w5.heap.size := hb5.size
  have hsz6 : w5.heap.size < w6.heap.size := blkW_lt HX6.out.blk
  clear hb5 hb6 o1 o2 hB4 hB5 z0 z1
  obtain ⟨z0, z1⟩ := HX6.out.c
  go_wp2_with fail
  clear e6
  refine (HDR.out w6 _ _ _ _ hB6 HX6.out.s HX6.out.t).mono ?_
  rintro e w7 ⟨hb7, lv, gv, rfl, og, ol⟩
  obtain ⟨ga, gc, rfl, gs⟩ := row_strs og
  obtain ⟨la, lc, rfl, ls7⟩ := ol.sl
  have hB7 := bt hB6 hb7
  obtain ⟨w8, e8⟩ : ∃ x, w7.alloc (.cells #[.int .i64 dC, .string dt, .slice ga dch.length gc] 32) = x := ⟨_, rfl⟩
  have hb8 : Below w7.heap.size w7 w8 := by rw [<- e8]; exact alloc_below _ _
  have HG8 : Hid (Rs w8 w7.heap.size w6.heap.size w7.heap.size dC dt (.slice ga dch.length gc) dch /\ OwnG w8 w6.heap.size w7.heap.size (.slice la dl.length lc) dl) := ⟨⟨by rw [<- e8]; exact heapW_new _ _, og.below hb8⟩, ol.below hb8⟩
  have HX8 : Hid (Sp w8 w5.heap.size w4.heap.size w5.heap.size _ _ ss ts) := (HX6.out.below hb7).below hb8
  have HB48 : Hid (Below w4.heap.size w4 w8) := bt (bt HB46.out hb7) hb8
  have HLS8 : Hid (RowG w8 la dl) := ls7.below hb8
  have hB8 := bt hB7 hb8
  have hsz7 : w6.heap.size <= w7.heap.size := hb7.size
  have hsz8 : w7.heap.size < w8.heap.size := blkW_lt HG8.out.1.blk
  clear hb7 hb8 og ol gs ls7 hB6 hB7 HX6 z0 z1
  go_wp2_with fail
  clear e8
  refine (HEG.out w8 la lc HB48.out HLS8.out).mono ?_
  rintro e w8b ⟨hb8b, rfl⟩
  have hB8b := bt hB8 hb8b
  have HG8b : Hid (Rs w8b w7.heap.size w6.heap.size w7.heap.size dC dt (.slice ga dch.length gc) dch /\ OwnG w8b w6.heap.size w7.heap.size (.slice la dl.length lc) dl) := ⟨HG8.out.1.below hb8b, HG8.out.2.below hb8b⟩
  have HX8b : Hid (Sp w8b w5.heap.size w4.heap.size w5.heap.size _ _ ss ts) := HX8.out.below hb8b
  have HB48b : Hid (Below w4.heap.size w4 w8b) := bt HB48.out hb8b
  have hsz8b : w8.heap.size <= w8b.heap.size := hb8b.size
  clear hb8b hB8 HG8 HX8 HLS8 HB48
  obtain ⟨z0, z1, z2, _⟩ := bk3 HG8b.out.1.blk
  obtain ⟨y0, y1, y2, _⟩ := bk3 (blk_below HV4.out HB48b.out)
  go_wp2_with fail
  obtain ⟨ga', gc', eg, gs8⟩ := row_strs HG8b.out.1.row
  simp only [Value.slice.injEq, true_and] at eg
  obtain ⟨rfl, rfl⟩ := eg
  refine (HEQ.out w8b ga gc HB48b.out gs8).mono ?_
  rintro e w9 ⟨hb9, rfl⟩
  have hB9 := bt hB8b hb9
  have HG9 : Hid (Rs w9 w7.heap.size w6.heap.size w7.heap.size dC dt (.slice ga dch.length gc) dch /\ OwnG w9 w6.heap.size w7.heap.size (.slice la dl.length lc) dl) := ⟨HG8b.out.1.below hb9, HG8b.out.2.below hb9⟩
  have HX9 : Hid (Sp w9 w5.heap.size w4.heap.size w5.heap.size _ _ ss ts) := HX8b.out.below hb9
  have HB49 : Hid (Below w4.heap.size w4 w9) := bt HB48b.out hb9
  have hsz9 : w8b.heap.size <= w9.heap.size := hb9.size
  clear hb9 hB8b HG8b HX8b HB48b z0 z1 z2 y0 y1 y2 gs8
  obtain ⟨z0, z1⟩ := HX9.out.c
  obtain ⟨y0, y1⟩ := blk_c (blk_below HZ4.out HB49.out)
  have hbd9 : Below w9.heap.size w9 w9.drew := (Below.refl _ _).drew
  go_wp2_with fail
  go_region_held3 (fun w' => w'.cell? ⟨w5.heap.size, 0, none⟩ = some (.slice xa ss.length xc) /\ w'.cell? ⟨w5.heap.size, 1, none⟩ = some (.slice xb ts.length xd) /\ w'.cell? ⟨w.heap.size, 0, none⟩ = some (.slice sa ss.length c1) /\ w'.cell? ⟨w.heap.size, 1, none⟩ = some (.slice ta ts.length c2))
    (first | exact ⟨z0, z1, y0, y1⟩ | (with_reducible exact ⟨cell_below hb11 s0, cell_below hb11 s1, cell_below hb11 s2, cell_below hb11 s3⟩) | (with_reducible exact ⟨s0, s1, s2, s3⟩))
    (first | (go_at_call 26; refine (HTS.out _ hB9.drew).mono ?_; rintro e w10 ⟨hb10, f1, f2, rfl, of1, of2⟩; have s0 := cell_below (bt hbd9 hb10) z0; have s1 := cell_below (bt hbd9 hb10) z1; have s2 := cell_below (bt hbd9 hb10) y0; have s3 := cell_below (bt hbd9 hb10) y1; have HX10 : Hid (Sp w10 w5.heap.size w4.heap.size w5.heap.size _ _ ss ts) := HX9.out.below (bt hbd9 hb10)) | (go_at_call 28; refine (eqSpace_own HX10.out.s HX10.out.t of1 of2 HSS.out).mono ?_; rintro e w11 ⟨hb11, rfl⟩))
  have hb911 : Below w9.heap.size w9 w11 := bt (bt hbd9 hb10) hb11
  have hB11 := bt hB9 hb911
  have HG11 : Hid (Rs w11 w7.heap.size w6.heap.size w7.heap.size dC dt (.slice ga dch.length gc) dch /\ OwnG w11 w6.heap.size w7.heap.size (.slice la dl.length lc) dl) := ⟨HG9.out.1.below hb911, HG9.out.2.below hb911⟩
  have HX11 : Hid (Sp w11 w5.heap.size w4.heap.size w5.heap.size _ _ ss ts) := HX9.out.below hb911
  have HB411 : Hid (Below w4.heap.size w4 w11) := bt HB49.out hb911
  have hsz11 : w9.heap.size <= w11.heap.size := hb911.size
  clear hb911 hb10 hb11 hbd9 hB9 HG9 HX9 HX10 of1 of2 z0 z1 y0 y1 s0 s1 s2 s3
  obtain ⟨z0, z1⟩ := HX11.out.c
  go_wp2_with fail
  refine (markSpace_sp HX11.out.s HX11.out.t (by omega) HSS.out).mono ?_
  rintro e w12 ⟨rfl, hb12, hk12, _⟩
  have hB12 : Below w.heap.size w w12 := hB11.trans (hb12.mono (by omega))
  have HG12 : Hid (Rs w12 w7.heap.size w6.heap.size w7.heap.size dC dt (.slice ga dch.length gc) dch /\ OwnG w12 w6.heap.size w7.heap.size (.slice la dl.length lc) dl) := ⟨HG11.out.1.keep hk12 (Or.inr (by omega)) (Or.inr (by omega)), HG11.out.2.keep hk12 (Or.inr (by omega))⟩
  have HB412 : Hid (Below w4.heap.size w4 w12) := HB411.out.trans hb12
  have hsz12 : w11.heap.size <= w12.heap.size := hb12.size
  clear hb12 hk12 hB11 HG11 HX11 z0 z1
  have hk0 : decide (((kQ ss ts : Nat) : Int) < 0) = false := by simp
  generalize kQ ss ts = K1 at *
  go_wp2_with fail
  clear hk0
  obtain ⟨la', lc', el, ls12⟩ := HG12.out.2.sl
  simp only [Value.slice.injEq, true_and] at el
  obtain ⟨rfl, rfl⟩ := el
  refine (HEG.out w12 la lc HB412.out ls12).mono ?_
  rintro e w12b ⟨hb12b, rfl⟩
  have hB12b := bt hB12 hb12b
  have HG12b : Hid (Rs w12b w7.heap.size w6.heap.size w7.heap.size dC dt (.slice ga dch.length gc) dch /\ OwnG w12b w6.heap.size w7.heap.size (.slice la dl.length lc) dl) := ⟨HG12.out.1.below hb12b, HG12.out.2.below hb12b⟩
  have HB412b : Hid (Below w4.heap.size w4 w12b) := bt HB412.out hb12b
  have hsz12b : w12.heap.size <= w12b.heap.size := hb12b.size
  clear hb12b hB12 HG12 HB412 ls12
  obtain ⟨z0, z1, z2, _⟩ := bk3 HG12b.out.1.blk
  obtain ⟨y0, y1, y2, _⟩ := bk3 (blk_below HV4.out HB412b.out)
  go_wp2_with fail
  obtain ⟨ga', gc', eg, gs12⟩ := row_strs HG12b.out.1.row
  simp only [Value.slice.injEq, true_and] at eg
  obtain ⟨rfl, rfl⟩ := eg
  refine (HEQ.out w12b ga gc HB412b.out gs12).mono ?_
  rintro e w13 ⟨hb13, rfl⟩
  have hB13 := bt hB12b hb13
  have HG13 : Hid (Rs w13 w7.heap.size w6.heap.size w7.heap.size dC dt (.slice ga dch.length gc) dch /\ OwnG w13 w6.heap.size w7.heap.size (.slice la dl.length lc) dl) := ⟨HG12b.out.1.below hb13, HG12b.out.2.below hb13⟩
  have HB413 : Hid (Below w4.heap.size w4 w13) := bt HB412b.out hb13
  have hsz13 : w12b.heap.size <= w13.heap.size := hb13.size
  clear hb13 hB12b HG12b HB412b z0 z1 z2 y0 y1 y2 gs12
  go_wp2_with fail
  obtain ⟨gxs, hr13, _⟩ := HG13.out.2
  refine (markSeM_own w6.heap.size dl.length 1 (.slice la dl.length lc) gxs w13 hr13.own (by omega) (by have := HLN.out.1; omega) (Nat.le_refl _) (by omega)).mono ?_
  rintro e w14 ⟨rfl, hb14, hk14, ys, ho14, hm14⟩
  have hB14 : Below w.heap.size w w14 := hB13.trans (hb14.mono (by omega))
  have GB14 : Hid (w14.heap[w7.heap.size]? = some (.cells #[.int .i64 dC, .string dt, .slice ga dch.length gc] 32 (0, 0))) := by
    show _ = _
    rw [hk14 _ (blkW_lt HG13.out.1.blk) (fun e => by have := hr13.top _ e.symm; omega)]
    exact HG13.out.1.blk
  have HC14 : Hid (RowO w14 w6.heap.size w7.heap.size 9 1 (.slice ga dch.length gc) dch.length (strV dch)) := ⟨own_keep HG13.out.1.row.own hk14 (fun b e1 e2 => neT HG13.out.1.row.own hr13.own (by decide) b e1 e2.symm), HG13.out.1.row.top⟩
  have HY14 : Hid (RowO w14 w6.heap.size w7.heap.size 39 3 (.slice la dl.length lc) dl.length ys) := ⟨ho14, hr13.top⟩
  have HB414 : Hid (Below w4.heap.size w4 w14) := HB413.out.trans (hb14.mono (by omega))
  have hsz14 : w13.heap.size <= w14.heap.size := hb14.size
  have HHG : Hid (∀ W : World, RowO W w6.heap.size w7.heap.size 39 3 (.slice la dl.length lc) dl.length ys -> Calls Tryz.prog 40 #[.slice la dl.length lc, .int .i64 1] W fun e w' => e = .returned (.int .i64 ((1 + 3 * dl.length : Nat) : Int)) /\ Below W.heap.size W w') := fun W hW => heldSeM_own w6.heap.size dl.length 1 _ ys W hW.own hm14 (by have := HLN.out.1; omega) (Nat.le_refl _) (by omega)
  have hM1 : Hid (1 <= 1 + 3 * dl.length /\ 1 + 3 * dl.length <= 900000000000000) := ⟨by omega, by have := HLN.out.1; omega⟩
  obtain ⟨M1, eM1⟩ : ∃ M1, 1 + 3 * dl.length = M1 := ⟨_, rfl⟩
  rw [eM1] at HHG hM1 ⊢
  clear eM1 hb14 hk14 ho14 hm14 hr13 hB13 HG13 HB413
  obtain ⟨z0, z1, z2, _⟩ := bk3 GB14.out
  go_wp2_with fail
  refine (markResult_own w6.heap.size w7.heap.size M1 dC dt _ dch w14 HC14.out (by omega) HLN.out.2 hM1.out.1 hM1.out.2).mono ?_
  rintro e w15 ⟨rfl, hb15, hk15, cs, hr15, hm15⟩
  have hB15 : Below w.heap.size w w15 := hB14.trans (hb15.mono (by omega))
  have GB15 : Hid (w15.heap[w7.heap.size]? = some (.cells #[.int .i64 dC, .string dt, .slice ga dch.length gc] 32 (0, 0))) := by
    show _ = _
    rw [hk15 _ (blkW_lt GB14.out) (fun e => by have := HC14.out.top _ e.symm; omega)]
    exact GB14.out
  have HR15 : Hid (RowO w15 w6.heap.size w7.heap.size 9 1 (.slice ga dch.length gc) dch.length cs /\ RowO w15 w6.heap.size w7.heap.size 39 3 (.slice la dl.length lc) dl.length ys) := ⟨hr15, own_keep HY14.out.own hk15 (fun b e1 e2 => neT HY14.out.own HC14.out.own (by decide) b e1 e2.symm), HY14.out.top⟩
  have HB415 : Hid (Below w4.heap.size w4 w15) := HB414.out.trans (hb15.mono (by omega))
  have hsz15 : w14.heap.size <= w15.heap.size := hb15.size
  have HHC : Hid (∀ W : World, RowO W w6.heap.size w7.heap.size 9 1 (.slice ga dch.length gc) dch.length cs -> Calls Tryz.prog 31 #[.agg #[.int .i64 dC, .string dt, .slice ga dch.length gc], .int .i64 (M1 : Int)] W fun e w' => e = .returned (.int .i64 ((M1 + dch.length : Nat) : Int)) /\ Below W.heap.size W w') := fun W hW => heldResult_own w6.heap.size w7.heap.size dch.length M1 dC dt _ cs W hW hm15 HLN.out.2 hM1.out.1 hM1.out.2
  obtain ⟨M2, eM2⟩ : ∃ M2, M1 + dch.length = M2 := ⟨_, rfl⟩
  rw [eM2] at HHC ⊢
  have hk1 : decide ((M1 : Int) < 0) = false := by simp
  have hk2 : decide ((M2 : Int) < 0) = false := by simp
  have hkk : ((M2 : Int) != (M2 : Int)) = false := by simp
  clear eM2 hb15 hk15 hr15 hm15 hB14 GB14 HC14 HY14 HB414 z0 z1 z2 hM1
  go_wp2_with fail
  refine (HHG.out w15 HR15.out.2).mono ?_
  rintro e w16 ⟨rfl, hb16⟩
  have hB16 := bt hB15 hb16
  have GB16 : Hid (w16.heap[w7.heap.size]? = some (.cells #[.int .i64 dC, .string dt, .slice ga dch.length gc] 32 (0, 0))) := blk_below GB15.out hb16
  have HR16 : Hid (RowO w16 w6.heap.size w7.heap.size 9 1 (.slice ga dch.length gc) dch.length cs /\ RowO w16 w6.heap.size w7.heap.size 39 3 (.slice la dl.length lc) dl.length ys) := ⟨HR15.out.1.below hb16, HR15.out.2.below hb16⟩
  have HB416 : Hid (Below w4.heap.size w4 w16) := bt HB415.out hb16
  clear hb16 hB15 GB15 HR15 HB415
  obtain ⟨z0, z1, z2, _⟩ := bk3 GB16.out
  go_wp2_with fail
  refine (HHC.out w16 HR16.out.1).mono ?_
  rintro e w17 ⟨rfl, hb17⟩
  have hB17 := bt hB16 hb17
  have GB17 : Hid (w17.heap[w7.heap.size]? = some (.cells #[.int .i64 dC, .string dt, .slice ga dch.length gc] 32 (0, 0))) := blk_below GB16.out hb17
  have HR17 : Hid (RowO w17 w6.heap.size w7.heap.size 9 1 (.slice ga dch.length gc) dch.length cs /\ RowO w17 w6.heap.size w7.heap.size 39 3 (.slice la dl.length lc) dl.length ys) := ⟨HR16.out.1.below hb17, HR16.out.2.below hb17⟩
  have HB417 : Hid (Below w4.heap.size w4 w17) := bt HB416.out hb17
  clear hb17 hB16 GB16 HR16 HB416 z0 z1 z2
  obtain ⟨z0, z1⟩ := blk_c (blk_below HZ4.out HB417.out)
  go_wp2_with fail
  refine (HTS.out w17 hB17).mono ?_
  rintro e w18 ⟨hb18, x1, x2, rfl, o1, o2⟩
  have hB18 := bt hB17 hb18
  have HB18 : Hid (Below w17.heap.size w17 w18) := hb18
  clear hb18 z0 z1
  go_wp2_with fail
  refine (HDR.out w18 _ _ _ _ hB18 o1 o2).mono ?_
  rintro e w19 ⟨hb19, hl, hv, rfl, oh, og⟩
  obtain ⟨ha, hc, rfl, hs19⟩ := row_strs oh
  obtain ⟨ka, kc, rfl, ks19⟩ := og.sl
  have hB19 := bt hB18 hb19
  obtain ⟨w20, e20⟩ : ∃ x, w19.alloc (.cells #[.int .i64 dC, .string dt, .slice ha dch.length hc] 32) = x := ⟨_, rfl⟩
  have hb20 : Below w19.heap.size w19 w20 := by rw [<- e20]; exact alloc_below _ _
  have hb1720 : Below w17.heap.size w17 w20 := bt (bt HB18.out hb19) hb20
  have HH20 : Hid (w20.heap[w19.heap.size]? = some (.cells #[.int .i64 dC, .string dt, .slice ha dch.length hc] 32 (0, 0))) := by show _ = _; rw [<- e20]; exact heapW_new _ _
  have HS20 : Hid (Strs w20 ha dch) := hs19.below hb20
  have HK20 : Hid (RowG w20 ka dl) := ks19.below hb20
  have GB20 : Hid (w20.heap[w7.heap.size]? = some (.cells #[.int .i64 dC, .string dt, .slice ga dch.length gc] 32 (0, 0))) := blk_below GB17.out hb1720
  have HR20 : Hid (RowO w20 w6.heap.size w7.heap.size 9 1 (.slice ga dch.length gc) dch.length cs /\ RowO w20 w6.heap.size w7.heap.size 39 3 (.slice la dl.length lc) dl.length ys) := ⟨HR17.out.1.below hb1720, HR17.out.2.below hb1720⟩
  have HB420 : Hid (Below w4.heap.size w4 w20) := bt HB417.out hb1720
  have hB20 := bt hB19 hb20
  clear hb1720 hb19 hb20 HB18 oh og o1 o2 hs19 ks19 hB17 hB18 hB19 GB17 HR17 HB417
  go_wp2_with fail
  clear e20
  refine (HEG.out w20 ka kc HB420.out HK20.out).mono ?_
  rintro e w21 ⟨hb21, rfl⟩
  have hB21 := bt hB20 hb21
  have HH21 : Hid (w21.heap[w19.heap.size]? = some (.cells #[.int .i64 dC, .string dt, .slice ha dch.length hc] 32 (0, 0))) := blk_below HH20.out hb21
  have HS21 : Hid (Strs w21 ha dch) := HS20.out.below hb21
  have GB21 : Hid (w21.heap[w7.heap.size]? = some (.cells #[.int .i64 dC, .string dt, .slice ga dch.length gc] 32 (0, 0))) := blk_below GB20.out hb21
  have HR21 : Hid (RowO w21 w6.heap.size w7.heap.size 9 1 (.slice ga dch.length gc) dch.length cs /\ RowO w21 w6.heap.size w7.heap.size 39 3 (.slice la dl.length lc) dl.length ys) := ⟨HR20.out.1.below hb21, HR20.out.2.below hb21⟩
  have HB421 : Hid (Below w4.heap.size w4 w21) := bt HB420.out hb21
  clear hb21 hB20 HH20 HS20 HK20 GB20 HR20 HB420
  obtain ⟨z0, z1, z2, _⟩ := bk3 HH21.out
  obtain ⟨y0, y1, y2, _⟩ := bk3 (blk_below HV4.out HB421.out)
  go_wp2_with fail
  refine (HEQ.out w21 ha hc HB421.out HS21.out).mono ?_
  rintro e w22 ⟨hb22, rfl⟩
  have hB22 := bt hB21 hb22
  have GB22 : Hid (w22.heap[w7.heap.size]? = some (.cells #[.int .i64 dC, .string dt, .slice ga dch.length gc] 32 (0, 0))) := blk_below GB21.out hb22
  have HR22 : Hid (RowO w22 w6.heap.size w7.heap.size 9 1 (.slice ga dch.length gc) dch.length cs /\ RowO w22 w6.heap.size w7.heap.size 39 3 (.slice la dl.length lc) dl.length ys) := ⟨HR21.out.1.below hb22, HR21.out.2.below hb22⟩
  clear hb22 hB21 HH21 HS21 GB21 HR21 HB421 z0 z1 z2 y0 y1 y2
  go_wp2_with fail
  refine (HHG.out w22 HR22.out.2).mono ?_
  rintro e w23 ⟨rfl, hb23⟩
  have hB23 := bt hB22 hb23
  have GB23 : Hid (w23.heap[w7.heap.size]? = some (.cells #[.int .i64 dC, .string dt, .slice ga dch.length gc] 32 (0, 0))) := blk_below GB22.out hb23
  have HR23 : Hid (RowO w23 w6.heap.size w7.heap.size 9 1 (.slice ga dch.length gc) dch.length cs) := HR22.out.1.below hb23
  clear hb23 hB22 GB22 HR22
  obtain ⟨z0, z1, z2, _⟩ := bk3 GB23.out
  go_wp2_with fail
  refine (HHC.out w23 HR23.out).mono ?_
  rintro e w24 ⟨rfl, hb24⟩
  have hB24 := bt hB23 hb24
  clear hb24 hB23 GB23 HR23 z0 z1 z2
  go_wp2
  go_ret
  exact ⟨rfl, hB24⟩
end
end Go.Proofs.YtmeojnaoljgieaeGreatDoor
