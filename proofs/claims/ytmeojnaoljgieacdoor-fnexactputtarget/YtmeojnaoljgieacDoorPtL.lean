/-
  FnExactPutTarget: the law.
-/
import Derived.Test.YtmeojnaoljgieacDoorPtB
namespace Go.Proofs.YtmeojnaoljgieacDoor
open Go.RowKit Go.Deep
set_option linter.unusedVariables false

set_option maxHeartbeats 400000 in
theorem szSpace_top (sa ta : Option Addr) (c1 c2 : Nat) (ss : List S2) (ts : List T2) (w : World) (h : SpOk w sa ss ta ts) :
    Calls Tryd.prog 14 #[.agg #[.slice sa ss.length c1, .slice ta ts.length c2], .int .i64 1048576] w fun e w' => Below w.heap.size w w' ∧ ∃ r : Int, e = .returned (.int .i64 r) ∧ (r < 0 ∨ (SpSmall ss ts ∧ 0 ≤ r ∧ r ≤ 1048576)) := by
  have hb0 : Below w.heap.size w (w.alloc (.cells #[.slice sa ss.length c1, .slice ta ts.length c2] 37)) := (Below.refl _ _).alloc (Nat.le_refl _) _
  have k0 : (w.alloc (.cells #[.slice sa ss.length c1, .slice ta ts.length c2] 37)).cell? ⟨w.heap.size, 1, none⟩ = some (.slice ta ts.length c2) := by simp [go_sem]
  obtain ⟨rs, rt, ls, lt, ns, xs, nt, lc, xt⟩ := h
  go_enter Tryd.func14, Tryd.ntmps14
  go_wp2_with fail
  refine (szSS_any sa c1 ss 1048576 _ (by omega) (by omega) (rs.below hb0) ls ns xs).mono ?_
  rintro e w1 ⟨hb1, r, rfl, hr⟩
  have hB1 := bt hb0 hb1
  have k1 := cell_below hb1 k0
  rcases hr with hr | ⟨h1, hr0, hr1⟩
  · clear hb0 hb1 k0
    go_wp2
    go_ret
    exact ⟨hB1, -1, rfl, Or.inl (by omega)⟩
  · clear hb0 hb1 k0
    go_wp2_with fail
    refine (szTS_any ta c2 ts r _ (by omega) (by omega) (rt.below hB1) lt nt lc xt).mono ?_
    rintro e w2 ⟨hb2, r2, rfl, hr2⟩
    have hB2 := bt hB1 hb2
    clear hb2 hB1 k1
    rcases hr2 with hr2 | ⟨h2, hr2, hr3, h3⟩
    · go_wp2
      go_ret
      exact ⟨hB2, -1, rfl, Or.inl (by omega)⟩
    · go_wp2
      go_ret
      exact ⟨hB2, r2, rfl, Or.inr ⟨⟨by omega, by omega, h3⟩, by omega, by omega⟩⟩

set_option maxHeartbeats 400000 in
theorem markProgram_row (lo hi n K : Nat) (v : Value) (xs : List Value) (w : World) (hr : RowO w lo hi 171 3 v n xs) (hB : lo ≤ w.heap.size) (hn : n ≤ 1048576) (h1 : 1 ≤ K) (h2 : K ≤ 900000000000000) :
    Calls Tryd.prog 28 #[.agg #[v], .int .i64 K] w fun e w' => e = .returned (.int .i64 ((K + 3 * n : Nat) : Int)) ∧ Below lo w w' ∧ KeepR lo hi w w' := by
  obtain ⟨va, vc, rfl⟩ := row_slice hr
  have hb0 : Below w.heap.size w (w.alloc (.cells #[.slice va n vc] 59)) := (Below.refl _ _).alloc (Nat.le_refl _) _
  have HK0 : Hid (∀ b, (Value.slice va n vc).ownBlock = some b → lo ≤ b ∧ b < hi) := fun b e => ⟨(hr.own.lt b e).1, hr.top b e⟩
  go_enter Tryd.func28, Tryd.ntmps28
  go_wp2_with fail
  refine (markInsS_own lo n K _ xs _ (hr.own.alloc _) (by simp; omega) hn h1 h2).mono ?_
  rintro e w1 ⟨rfl, hb, hk, _⟩
  have hB1 : Below lo w w1 := (hb0.mono hB).trans hb
  have HK : Hid (KeepR lo hi w w1) := (hk.after hb0).keepR HK0.out
  clear hb0 hb hk
  go_wp2
  go_ret
  exact ⟨rfl, hB1, HK.out⟩
theorem implPt_own {w w0 : World} {sa ta : Option Addr} {lo hi : Nat} {v1 v2 : Value} {ss : List S2} {ts : List T2} (t : ByteArray) (a : Option Addr) (cap : Nat) (is : List I3) (hT : Tab w) (h : SpOk w0 sa ss ta ts) (h1 : OwnS w lo hi v1 ss) (h2 : OwnT w lo hi v2 ts) (hs : SpSmall ss ts) (ht : t.size ≤ 9223372036854775807) (hr : Row3 w a is) (hl : is.length ≤ 1048576) (hx : ∀ i, (ix is i).text.size ≤ 9223372036854775807) :
    Calls Tryd.prog 26 #[.agg #[v1, v2], .string t, .agg #[.slice a is.length cap]] w fun e w' => Below w.heap.size w w' ∧ PtOut w.heap.size w' e ss ts t is (progOk is) := by
  obtain ⟨a1, p1, rfl, r1⟩ := h1.sl
  obtain ⟨a2, p2, rfl, r2⟩ := h2.sl
  exact implPt_any a1 a2 p1 p2 ss ts t a cap is w hT (h.move r1 r2) hs ht hr hl hx
theorem specPt_own {w w0 : World} {sa ta : Option Addr} {lo hi : Nat} {v1 v2 : Value} {ss : List S2} {ts : List T2} (t : ByteArray) (a : Option Addr) (cap : Nat) (is : List I3) (h : SpOk w0 sa ss ta ts) (h1 : OwnS w lo hi v1 ss) (h2 : OwnT w lo hi v2 ts) (hs : SpSmall ss ts) (ht : t.size ≤ 9223372036854775807) (hr : Row3 w a is) (hl : is.length ≤ 1048576) (hx : ∀ i, (ix is i).text.size ≤ 9223372036854775807) :
    Calls Tryd.prog 24 #[.agg #[v1, v2], .string t, .agg #[.slice a is.length cap]] w fun e w' => Below w.heap.size w w' ∧ PtOut w.heap.size w' e ss ts t is (progOk is) := by
  obtain ⟨a1, p1, rfl, r1⟩ := h1.sl
  obtain ⟨a2, p2, rfl, r2⟩ := h2.sl
  exact specPt_any a1 a2 p1 p2 ss ts t a cap is w (h.move r1 r2) hs ht hr hl hx

set_option maxRecDepth 100000 in
set_option maxHeartbeats 16000000 in
theorem putTargetLaw (sa ta : Option Addr) (c1 c2 : Nat) (ss : List S2) (ts : List T2) (t : ByteArray) (a : Option Addr) (ac : Nat) (is : List I3) (w : World) (hT : Tab w) (h : SpOk w sa ss ta ts) (ht : t.size ≤ maxLen) (hr : Row3 w a is) (hil : is.length ≤ maxLen) (hix : ∀ i, (ix is i).text.size ≤ maxLen) :
    Calls Tryd.prog 6 #[.agg #[.slice sa ss.length c1, .slice ta ts.length c2], .string t, .agg #[.slice a is.length ac]] w fun e w' => e = .returned (.bool true) ∧ Below w.heap.size w w' := by
  have hb0 : Below w.heap.size w ((w.alloc (.cells #[.slice sa ss.length c1, .slice ta ts.length c2] 37)).alloc (.cells #[.slice a is.length ac] 54)) := ((Below.refl _ _).alloc (Nat.le_refl _) _).alloc (by simp) _
  have HZ0 : Hid (((w.alloc (.cells #[.slice sa ss.length c1, .slice ta ts.length c2] 37)).alloc (.cells #[.slice a is.length ac] 54)).heap[w.heap.size]? = some (.cells #[.slice sa ss.length c1, .slice ta ts.length c2] 37 (0, 0))) := by show _ = _; rw [Lib.alloc_old _ _ _ (by simp)]; exact heapW_new _ _
  have HY0 : Hid (((w.alloc (.cells #[.slice sa ss.length c1, .slice ta ts.length c2] 37)).alloc (.cells #[.slice a is.length ac] 54)).heap[w.heap.size + 1]? = some (.cells #[.slice a is.length ac] 54 (0, 0))) := by
    have h := heapW_new (w.alloc (.cells #[.slice sa ss.length c1, .slice ta ts.length c2] 37)) (.cells #[.slice a is.length ac] 54)
    rw [show (w.alloc (.cells #[.slice sa ss.length c1, .slice ta ts.length c2] 37)).heap.size = w.heap.size + 1 from by simp] at h
    exact h
  have HO : Hid (SpOk w sa ss ta ts) := h
  have HT : Hid (Tab w) := hT
  have HR : Hid (Row3 w a is) := hr
  clear h hT hr
  have hix2 : ∀ i, (ix is i).text.size ≤ 9223372036854775807 := fun i => by have := hix i; unfold maxLen at this; omega
  unfold maxLen at ht
  have ht2 : t.size ≤ 9223372036854775807 := by omega
  by_cases h20 : 1048576 < t.size
  · have d20 : decide ((1048576 : Int) < (t.size : Int)) = true := by simp; omega
    go_enter Tryd.func6, Tryd.ntmps6
    go_wp2
    go_ret
    exact ⟨rfl, hb0⟩
  have d20 : decide ((1048576 : Int) < (t.size : Int)) = false := by simp; omega
  go_enter Tryd.func6, Tryd.ntmps6
  go_wp2_with fail
  clear d20
  refine (szSpace_top sa ta c1 c2 ss ts _ (HO.out.below hb0)).mono ?_
  rintro e w1 ⟨hb1, r, rfl, hr⟩
  have hB1 := bt hb0 hb1
  have HZ1 : Hid (w1.heap[w.heap.size]? = _) := blk_below HZ0.out hb1
  have HY1 : Hid (w1.heap[w.heap.size + 1]? = _) := blk_below HY0.out hb1
  clear hb0 hb1 HZ0 HY0
  rcases hr with hr | ⟨hsm, hr0, hr1⟩
  · go_wp2
    go_ret
    exact ⟨rfl, hB1⟩
  have hr0d : decide (r < 0) = false := by simp; omega
  have p2 : w1.cell? ⟨w.heap.size + 1, 0, none⟩ = some (.slice a is.length ac) := by rw [Lib.cell_of_heap HY1.out]; rfl
  go_wp2_with fail
  clear hr0d p2
  refine (szProgram_left a ac is r _ hr0 hr1 (HR.out.below hB1) hil hix).mono ?_
  rintro e w2 ⟨hb2, r2, rfl, hr2⟩
  have hB2 := bt hB1 hb2
  have HZ2 : Hid (w2.heap[w.heap.size]? = _) := blk_below HZ1.out hb2
  have HY2 : Hid (w2.heap[w.heap.size + 1]? = _) := blk_below HY1.out hb2
  clear hb2 HZ1 HY1 hB1
  rcases hr2 with hr2 | ⟨hil2, hr20, hr21⟩
  · go_wp2
    go_ret
    exact ⟨rfl, hB2⟩
  have hr0d : decide (r2 < 0) = false := by simp; omega
  have hisn : is.length ≤ 1048576 := by omega
  go_wp2_with fail
  clear hr0d
  have hsm2 := pt_small ss ts t is (progOk is) hisn
  have HSM : Hid (SpSmall (ptS ss ts t (progOk is)) (ptT ss ts t is (progOk is))) := hsm2
  have HPT26 : Hid (∀ (W : World) (lo hi : Nat) (y1 y2 : Value) (g : Nat), Tab W → OwnS W lo hi y1 ss → OwnT W lo hi y2 ts → Row3 W (some ⟨g, 0, none⟩) is → Calls Tryd.prog 26 #[.agg #[y1, y2], .string t, .agg #[.slice (some ⟨g, 0, none⟩) is.length is.length]] W fun e w' => Below W.heap.size W w' ∧ ∃ v1 v2, e = .returned (.tuple #[.agg #[v1, v2], .int .i64 (roomC ss ts t (progOk is))]) ∧ OwnS w' W.heap.size w'.heap.size v1 (ptS ss ts t (progOk is)) ∧ OwnT w' W.heap.size w'.heap.size v2 (ptT ss ts t is (progOk is))) := fun W lo hi y1 y2 g k0 k1 k2 k3 => implPt_own t _ _ is k0 HO.out k1 k2 hsm ht2 k3 hisn hix2
  have HPT24 : Hid (∀ (W : World) (lo hi : Nat) (y1 y2 : Value) (g : Nat), OwnS W lo hi y1 ss → OwnT W lo hi y2 ts → Row3 W (some ⟨g, 0, none⟩) is → Calls Tryd.prog 24 #[.agg #[y1, y2], .string t, .agg #[.slice (some ⟨g, 0, none⟩) is.length is.length]] W fun e w' => Below W.heap.size W w' ∧ ∃ v1 v2, e = .returned (.tuple #[.agg #[v1, v2], .int .i64 (roomC ss ts t (progOk is))]) ∧ OwnS w' W.heap.size w'.heap.size v1 (ptS ss ts t (progOk is)) ∧ OwnT w' W.heap.size w'.heap.size v2 (ptT ss ts t is (progOk is))) := fun W lo hi y1 y2 g k1 k2 k3 => specPt_own t _ _ is HO.out k1 k2 hsm ht2 k3 hisn hix2
  have HTS : Hid (∀ W : World, Below w.heap.size w W → Calls Tryd.prog 16 #[.agg #[.slice sa ss.length c1, .slice ta ts.length c2]] W fun e w' => Below W.heap.size W w' ∧ ∃ v1 v2 : Value, e = .returned (.agg #[v1, v2]) ∧ OwnS w' W.heap.size w'.heap.size v1 ss ∧ OwnT w' W.heap.size w'.heap.size v2 ts) := fun W hW => toSpace_own sa ta c1 c2 ss ts W (HO.out.rs.below hW) (HO.out.rt.below hW) hsm
  have HPG : Hid (∀ W : World, Below w.heap.size w W → Calls Tryd.prog 25 #[.agg #[.slice a is.length ac]] W fun e w' => Below W.heap.size W w' ∧ ∃ g : Nat, e = .returned (.agg #[.slice (some ⟨g, 0, none⟩) is.length is.length]) ∧ Row3 w' (some ⟨g, 0, none⟩) is) := fun W hW => toProgram_any a ac is W (HR.out.below hW) hisn
  have HSS : Hid (SpSmall ss ts) := hsm
  clear hsm2
  generalize ptS ss ts t (progOk is) = dS at *
  generalize ptT ss ts t is (progOk is) = dT at *
  generalize roomC ss ts t (progOk is) = dC at *
  have hcc : (dC != dC) = false := by simp
  have hz2 : w.heap.size + 1 < w2.heap.size := blkW_lt HY2.out
  obtain ⟨p0, p1⟩ := blk_c HZ2.out
  have p2 : w2.cell? ⟨w.heap.size + 1, 0, none⟩ = some (.slice a is.length ac) := by rw [Lib.cell_of_heap HY2.out]; rfl
  have hbd : Below w2.heap.size w2 w2.drew := (Below.refl _ _).drew
  go_cut [8, 9] (fun p q wx => ∃ (P : Nat) (v1 v2 : Value), p = .pointer (some ⟨P, 0, none⟩) ∧ q = .int .i64 dC ∧ Hid (Sp wx P w2.heap.size wx.heap.size v1 v2 dS dT) ∧ w2.heap.size ≤ P ∧ Below w2.heap.size w2 wx)
  case first =>
    go_region_held3 (fun w' => w'.cell? ⟨w.heap.size, 0, none⟩ = some (.slice sa ss.length c1) ∧ w'.cell? ⟨w.heap.size, 1, none⟩ = some (.slice ta ts.length c2) ∧ w'.cell? ⟨w.heap.size + 1, 0, none⟩ = some (.slice a is.length ac))
      (first | exact ⟨p0, p1, p2⟩ | (refine ⟨?_, ?_, ?_⟩ <;> (rw [World.cell?_setCell_far _ _ _ _ (by simp; omega), World.cell?_setCell_far _ _ _ _ (by simp; omega)]; assumption)) | (go_split_ands; with_reducible (refine ⟨cellW ?_, cellW ?_, cellW ?_⟩ <;> assumption)) | (go_split_ands; with_reducible (refine ⟨cell_below hbC ?_, cell_below hbC ?_, cell_below hbC ?_⟩ <;> assumption)) | (go_split_ands; with_reducible (refine ⟨cell_below hbB ?_, cell_below hbB ?_, cell_below hbB ?_⟩ <;> assumption)) | (go_split_ands; with_reducible (refine ⟨cell_below hbA ?_, cell_below hbA ?_, cell_below hbA ?_⟩ <;> assumption)) | exact ⟨cellW p0, cellW p1, cellW p2⟩)
      (first | (go_at_call 16; refine (HTS.out _ (bt hB2 (by first | with_reducible exact hbd | exact hbd.alloc (by simp) _))).mono ?_; rintro e wA ⟨hbA, y1, y2, rfl, oy1, oy2⟩; have hbAw : Below w2.heap.size w2 wA := (by first | with_reducible exact bt hbd hbA | exact bt (hbd.alloc (by simp) _) hbA); have hzA := hbA.size; (try simp at hzA); first | have zA : wA.heap[w2.heap.size]? = _ := new_belowW hbA | have zA := new_belowX hbA | skip) | (go_at_call 25; refine (HPG.out _ (bt hB2 (by first | with_reducible exact hbAw | exact hbAw.alloc hbAw.size _))).mono ?_; rintro e wB ⟨hbB, g5, rfl, hr5⟩; have hbBw : Below wA.heap.size wA wB := (by first | with_reducible exact hbB | exact bt ((Below.refl _ _).alloc (Nat.le_refl _) _) hbB); have hB5 : Below w2.heap.size w2 wB := bt hbAw hbBw; have hzB := hbB.size; (try simp at hzB); first | have zB := new_belowW hbB | have zB := blk_below zA hbB | skip) | (go_at_call 24; refine (HPT24.out _ _ _ _ _ g5 (by first | with_reducible exact oy1.below hbBw | exact (oy1.below hbBw).below ((Below.refl _ _).alloc (Nat.le_refl _) _)) (by first | with_reducible exact oy2.below hbBw | exact (oy2.below hbBw).below ((Below.refl _ _).alloc (Nat.le_refl _) _)) (by first | with_reducible exact hr5 | exact hr5.below ((Below.refl _ _).alloc (Nat.le_refl _) _))).mono ?_; rintro e wC ⟨hbC, v1, v2, rfl, o1, o2⟩; have hbCw : Below wB.heap.size wB wC := (by first | with_reducible exact hbC | exact bt ((Below.refl _ _).alloc (Nat.le_refl _) _) hbC); have hB6 : Below w2.heap.size w2 wC := bt hB5 hbCw; have s0 := cell_below hB6 p0; have s1 := cell_below hB6 p1; have s2 := cell_below hB6 p2; have hzC := hbC.size; (try simp at hzC); obtain ⟨a1, q1, rfl, _⟩ := o1.sl; obtain ⟨a2, q2, rfl, _⟩ := o2.sl; have HO1 : Hid (OwnS wC w2.heap.size wC.heap.size _ dS) := (o1.wide (by first | omega | (simp; omega)) (Nat.le_refl _)); have HO2 : Hid (OwnT wC w2.heap.size wC.heap.size _ dT) := (o2.wide (by first | omega | (simp; omega)) (Nat.le_refl _)); first | (have zC := new_belowW hbC; obtain ⟨k0, k1⟩ := blk_c zC; have kf := (fun j => Lib.frozen_of_heap zC j)) | (have zC := blk_below zB hbC; obtain ⟨k0, k1⟩ := blk_c zC; have kf := (fun j => Lib.frozen_of_heap zC j)) | skip))
    all_goals
      go_wp2_with fail
      go_meet
      first
        | exact ⟨_, _, _, rfl, rfl, (Sp.old zC HO1.out HO2.out).wide (Nat.le_refl _) (by simp), by omega, below_set2 hB6 (by omega) _ _⟩
        | exact ⟨_, _, _, rfl, rfl, (Sp.new HO1.out HO2.out).wide (Nat.le_refl _) (by simp), by omega, hB6.alloc hB6.size _⟩
  case rest =>
    obtain ⟨P, v1, v2, rfl, rfl, HV, hPl, hbx⟩ := hcut
    obtain ⟨wk, rfl⟩ : ∃ wk, wk = wc := ⟨wc, rfl⟩
    clear p0 p1 p2 hbd
    have hBx := bt hB2 hbx
    have HZ4 : Hid (wk.heap[w.heap.size]? = _) := blk_below HZ2.out hbx
    have HY4 : Hid (wk.heap[w.heap.size + 1]? = _) := blk_below HY2.out hbx
    have hPc : P < wk.heap.size := blkW_lt HV.out.blk
    have hsx : w2.heap.size ≤ wk.heap.size := hbx.size
    clear hbx HZ2 HY2 hB2
    obtain ⟨z0, z1⟩ := blk_c HZ4.out
    go_wp2_with fail
    refine (HTS.out wk hBx).mono ?_
    rintro e w5 ⟨hb5, x1, x2, rfl, o1, o2⟩
    obtain ⟨xa, xc, rfl, _⟩ := o1.sl
    obtain ⟨xb, xd, rfl, _⟩ := o2.sl
    have hB5 := bt hBx hb5
    obtain ⟨w6, e6⟩ : ∃ yy, w5.alloc (.cells #[.slice xa ss.length xc, .slice xb ts.length xd] 42) = yy := ⟨_, rfl⟩
    have hb6 : Below w5.heap.size w5 w6 := by rw [← e6]; exact (Below.refl _ _).alloc (Nat.le_refl _) _
    have HX6 : Hid (Sp w6 w5.heap.size wk.heap.size w5.heap.size (.slice xa ss.length xc) (.slice xb ts.length xd) ss ts) := by show Sp _ _ _ _ _ _ _ _; rw [← e6]; exact Sp.new o1 o2
    have HV6 : Hid (Sp w6 P w2.heap.size wk.heap.size v1 v2 dS dT) := (HV.out.below hb5).below hb6
    have HZ6 : Hid (w6.heap[w.heap.size]? = _) := blk_below (blk_below HZ4.out hb5) hb6
    have HY6 : Hid (w6.heap[w.heap.size + 1]? = _) := blk_below (blk_below HY4.out hb5) hb6
    have hB6 := bt hB5 hb6
    have hsz5 : wk.heap.size ≤ w5.heap.size := hb5.size
    have hsz6 : w5.heap.size < w6.heap.size := blkW_lt HX6.out.blk
    clear hb5 hb6 o1 o2 hBx hB5 HZ4 HY4 HV z0 z1
    have p2 : w6.cell? ⟨w.heap.size + 1, 0, none⟩ = some (.slice a is.length ac) := by rw [Lib.cell_of_heap HY6.out]; rfl
    go_wp2_with fail
    clear e6 p2
    refine (toProgram_own a ac is w6 (HR.out.below hB6) hisn).mono ?_
    rintro e w7 ⟨hb7, gp, rfl, xs, hop, hfp⟩
    have hB7 := bt hB6 hb7
    obtain ⟨w8, e8⟩ : ∃ yy, w7.alloc (.cells #[.slice (some ⟨gp, 0, none⟩) is.length is.length] 59) = yy := ⟨_, rfl⟩
    have hb8 : Below w7.heap.size w7 w8 := by rw [← e8]; exact (Below.refl _ _).alloc (Nat.le_refl _) _
    have HQ8 : Hid (RowO w8 w6.heap.size w7.heap.size 171 3 (.slice (some ⟨gp, 0, none⟩) is.length is.length) is.length xs) := (RowO.new hop).below hb8
    have HFP : Hid (Filled3 is is.length xs) := hfp
    have HU8 : Hid (w8.heap[w7.heap.size]? = some (.cells #[.slice (some ⟨gp, 0, none⟩) is.length is.length] 59 (0, 0))) := by show _ = _; rw [← e8]; exact heapW_new _ _
    have hb68 : Below w6.heap.size w6 w8 := bt hb7 hb8
    have HX8 : Hid (Sp w8 w5.heap.size wk.heap.size w5.heap.size _ _ ss ts) := HX6.out.below hb68
    have HV8 : Hid (Sp w8 P w2.heap.size wk.heap.size v1 v2 dS dT) := HV6.out.below hb68
    have HZ8 : Hid (w8.heap[w.heap.size]? = _) := blk_below HZ6.out hb68
    have HY8 : Hid (w8.heap[w.heap.size + 1]? = _) := blk_below HY6.out hb68
    have hB8 := bt hB6 hb68
    have hsz7 : w6.heap.size ≤ w7.heap.size := hb7.size
    have hsz8 : w7.heap.size < w8.heap.size := blkW_lt HU8.out
    clear hb7 hb8 hb68 hop hfp hB6 hB7 HX6 HV6 HZ6 HY6
    obtain ⟨z0, z1⟩ := HX8.out.c
    have y0 : w8.cell? ⟨w7.heap.size, 0, none⟩ = some (.slice (some ⟨gp, 0, none⟩) is.length is.length) := by rw [Lib.cell_of_heap HU8.out]; rfl
    go_wp2_with fail
    clear e8
    have hrp : Row3 w8 (some ⟨gp, 0, none⟩) is := by
      obtain ⟨ga, gc, eg, hrr⟩ := row3_RowO HQ8.out HFP.out
      cases eg; exact hrr
    refine (HPT26.out w8 _ _ _ _ gp (HT.out.below hB8) HX8.out.s HX8.out.t hrp).mono ?_
    rintro e w9 ⟨hb9, g1, g2, rfl, o1, o2⟩
    obtain ⟨ga, gc, rfl, _⟩ := o1.sl
    obtain ⟨gb, gd, rfl, _⟩ := o2.sl
    have hB9 := bt hB8 hb9
    obtain ⟨w10, e10⟩ : ∃ yy, w9.alloc (.cells #[.slice ga dS.length gc, .slice gb dT.length gd] 42) = yy := ⟨_, rfl⟩
    have hb10 : Below w9.heap.size w9 w10 := by rw [← e10]; exact (Below.refl _ _).alloc (Nat.le_refl _) _
    have HG10 : Hid (Sp w10 w9.heap.size w8.heap.size w9.heap.size (.slice ga dS.length gc) (.slice gb dT.length gd) dS dT) := by show Sp _ _ _ _ _ _ _ _; rw [← e10]; exact Sp.new o1 o2
    have hb810 : Below w8.heap.size w8 w10 := bt hb9 hb10
    have HX10 : Hid (Sp w10 w5.heap.size wk.heap.size w5.heap.size _ _ ss ts) := HX8.out.below hb810
    have HV10 : Hid (Sp w10 P w2.heap.size wk.heap.size v1 v2 dS dT) := HV8.out.below hb810
    have HQ10 : Hid (RowO w10 w6.heap.size w7.heap.size 171 3 _ is.length xs) := HQ8.out.below hb810
    have HU10 : Hid (w10.heap[w7.heap.size]? = _) := blk_below HU8.out hb810
    have HZ10 : Hid (w10.heap[w.heap.size]? = _) := blk_below HZ8.out hb810
    have HY10 : Hid (w10.heap[w.heap.size + 1]? = _) := blk_below HY8.out hb810
    have hB10 := bt hB8 hb810
    have hsz9 : w8.heap.size ≤ w9.heap.size := hb9.size
    have hsz10 : w9.heap.size < w10.heap.size := blkW_lt HG10.out.blk
    clear hb9 hb10 hb810 o1 o2 hB8 hB9 HX8 HV8 HQ8 HU8 HZ8 HY8 z0 z1 y0 hrp
    obtain ⟨va, vc, ev1, _⟩ := HV10.out.s.sl
    obtain ⟨vb, vd, ev2, _⟩ := HV10.out.t.sl
    subst ev1
    subst ev2
    obtain ⟨z0, z1⟩ := HG10.out.c
    obtain ⟨y0, y1⟩ := HV10.out.c
    go_wp2_with fail
    clear e10
    refine (eqSpace_own HG10.out.s HG10.out.t HV10.out.s HV10.out.t HSM.out).mono ?_
    rintro e w11 ⟨hb11, rfl⟩
    have hB11 := bt hB10 hb11
    have HG11 : Hid (Sp w11 w9.heap.size w8.heap.size w9.heap.size _ _ dS dT) := HG10.out.below hb11
    have HX11 : Hid (Sp w11 w5.heap.size wk.heap.size w5.heap.size _ _ ss ts) := HX10.out.below hb11
    have HV11 : Hid (Sp w11 P w2.heap.size wk.heap.size _ _ dS dT) := HV10.out.below hb11
    have HQ11 : Hid (RowO w11 w6.heap.size w7.heap.size 171 3 _ is.length xs) := HQ10.out.below hb11
    have HU11 : Hid (w11.heap[w7.heap.size]? = _) := blk_below HU10.out hb11
    have HZ11 : Hid (w11.heap[w.heap.size]? = _) := blk_below HZ10.out hb11
    have HY11 : Hid (w11.heap[w.heap.size + 1]? = _) := blk_below HY10.out hb11
    have hsz11 : w10.heap.size ≤ w11.heap.size := hb11.size
    clear hb11 hB10 HG10 HX10 HV10 HQ10 HU10 HZ10 HY10 z0 z1 y0 y1
    obtain ⟨z0, z1⟩ := HX11.out.c
    obtain ⟨y0, y1⟩ := blk_c HZ11.out
    have hbd : Below w11.heap.size w11 w11.drew := (Below.refl _ _).drew
    go_wp2_with fail
    go_region_held3 (fun w' => w'.cell? ⟨w5.heap.size, 0, none⟩ = some (.slice xa ss.length xc) ∧ w'.cell? ⟨w5.heap.size, 1, none⟩ = some (.slice xb ts.length xd) ∧ w'.cell? ⟨w.heap.size, 0, none⟩ = some (.slice sa ss.length c1) ∧ w'.cell? ⟨w.heap.size, 1, none⟩ = some (.slice ta ts.length c2))
      (first | exact ⟨z0, z1, y0, y1⟩ | (with_reducible exact ⟨cell_below hb13 s0, cell_below hb13 s1, cell_below hb13 s2, cell_below hb13 s3⟩) | (with_reducible exact ⟨s0, s1, s2, s3⟩))
      (first | (go_at_call 16; refine (HTS.out _ hB11.drew).mono ?_; rintro e w12 ⟨hb12, f1, f2, rfl, of1, of2⟩; have s0 := cell_below (bt hbd hb12) z0; have s1 := cell_below (bt hbd hb12) z1; have s2 := cell_below (bt hbd hb12) y0; have s3 := cell_below (bt hbd hb12) y1; have HX12 : Hid (Sp w12 w5.heap.size wk.heap.size w5.heap.size _ _ ss ts) := HX11.out.below (bt hbd hb12)) | (go_at_call 18; refine (eqSpace_own HX12.out.s HX12.out.t of1 of2 HSS.out).mono ?_; rintro e w13 ⟨hb13, rfl⟩))
    have hb1113 : Below w11.heap.size w11 w13 := bt (bt hbd hb12) hb13
    have hB13 := bt hB11 hb1113
    have HG13 : Hid (Sp w13 w9.heap.size w8.heap.size w9.heap.size _ _ dS dT) := HG11.out.below hb1113
    have HX13 : Hid (Sp w13 w5.heap.size wk.heap.size w5.heap.size _ _ ss ts) := HX11.out.below hb1113
    have HV13 : Hid (Sp w13 P w2.heap.size wk.heap.size _ _ dS dT) := HV11.out.below hb1113
    have HQ13 : Hid (RowO w13 w6.heap.size w7.heap.size 171 3 _ is.length xs) := HQ11.out.below hb1113
    have HU13 : Hid (w13.heap[w7.heap.size]? = _) := blk_below HU11.out hb1113
    have HZ13 : Hid (w13.heap[w.heap.size]? = _) := blk_below HZ11.out hb1113
    have HY13 : Hid (w13.heap[w.heap.size + 1]? = _) := blk_below HY11.out hb1113
    have hsz13 : w11.heap.size ≤ w13.heap.size := hb1113.size
    clear hb1113 hb12 hb13 hbd hB11 HG11 HX11 HV11 HQ11 HU11 HZ11 HY11 HX12 of1 of2 z0 z1 y0 y1 s0 s1 s2 s3
    have z0 : w13.cell? ⟨w7.heap.size, 0, none⟩ = some (.slice (some ⟨gp, 0, none⟩) is.length is.length) := by rw [Lib.cell_of_heap HU13.out]; rfl
    have y0 : w13.cell? ⟨w.heap.size + 1, 0, none⟩ = some (.slice a is.length ac) := by rw [Lib.cell_of_heap HY13.out]; rfl
    have hbd : Below w13.heap.size w13 w13.drew := (Below.refl _ _).drew
    have hrp : Row3 w13 (some ⟨gp, 0, none⟩) is := by
      obtain ⟨ha, hc, eg, hrr⟩ := row3_RowO HQ13.out HFP.out
      cases eg; exact hrr
    go_wp2_with fail
    go_region_held3 (fun w' => w'.cell? ⟨w7.heap.size, 0, none⟩ = some (.slice (some ⟨gp, 0, none⟩) is.length is.length) ∧ w'.cell? ⟨w.heap.size + 1, 0, none⟩ = some (.slice a is.length ac))
      (first | exact ⟨z0, y0⟩ | (with_reducible exact ⟨cell_below hb15 s0, cell_below hb15 s1⟩) | (with_reducible exact ⟨s0, s1⟩))
      (first | (go_at_call 25; refine (HPG.out _ hB13.drew).mono ?_; rintro e w14 ⟨hb14, g14, rfl, hr14⟩; have s0 := cell_below (bt hbd hb14) z0; have s1 := cell_below (bt hbd hb14) y0; have HR14 : Hid (Row3 w14 (some ⟨gp, 0, none⟩) is) := hrp.below (bt hbd hb14)) | (go_at_call 27; refine (eqProgram_same _ _ _ _ is _ HR14.out hr14 hisn).mono ?_; rintro e w15 ⟨hb15, rfl⟩))
    have hb1315 : Below w13.heap.size w13 w15 := bt (bt hbd hb14) hb15
    have hB15 := bt hB13 hb1315
    have HG15 : Hid (Sp w15 w9.heap.size w8.heap.size w9.heap.size _ _ dS dT) := HG13.out.below hb1315
    have HX15 : Hid (Sp w15 w5.heap.size wk.heap.size w5.heap.size _ _ ss ts) := HX13.out.below hb1315
    have HV15 : Hid (Sp w15 P w2.heap.size wk.heap.size _ _ dS dT) := HV13.out.below hb1315
    have HQ15 : Hid (RowO w15 w6.heap.size w7.heap.size 171 3 _ is.length xs) := HQ13.out.below hb1315
    have HU15 : Hid (w15.heap[w7.heap.size]? = _) := blk_below HU13.out hb1315
    have HZ15 : Hid (w15.heap[w.heap.size]? = _) := blk_below HZ13.out hb1315
    have HY15 : Hid (w15.heap[w.heap.size + 1]? = _) := blk_below HY13.out hb1315
    have hsz15 : w13.heap.size ≤ w15.heap.size := hb1315.size
    clear hb1315 hb14 hb15 hbd hB13 HG13 HX13 HV13 HQ13 HU13 HZ13 HY13 HR14 hr14 z0 y0 s0 s1 hrp
    obtain ⟨z0, z1⟩ := HX15.out.c
    go_wp2_with fail
    refine (markSpace_sp HX15.out.s HX15.out.t (by omega) HSS.out).mono ?_
    rintro e w16 ⟨rfl, hb16, hk16, _⟩
    have hB16 : Below w.heap.size w w16 := hB15.trans (hb16.mono (by omega))
    have HG16 : Hid (Sp w16 w9.heap.size w8.heap.size w9.heap.size _ _ dS dT) := HG15.out.keep hk16 (Or.inr (by omega)) (Or.inr (by omega))
    have HV16 : Hid (Sp w16 P w2.heap.size wk.heap.size _ _ dS dT) := HV15.out.keep hk16 (Or.inl (by omega)) (Or.inl (by omega))
    have HQ16 : Hid (RowO w16 w6.heap.size w7.heap.size 171 3 _ is.length xs) := HQ15.out.keep hk16 (Or.inr (by omega))
    have HU16 : Hid (w16.heap[w7.heap.size]? = _) := blk_keep HU15.out hk16 (Or.inr (by omega))
    have HZ16 : Hid (w16.heap[w.heap.size]? = _) := blk_keep HZ15.out hk16 (Or.inl (by omega))
    have HY16 : Hid (w16.heap[w.heap.size + 1]? = _) := blk_keep HY15.out hk16 (Or.inl (by omega))
    have hsz16 : w15.heap.size ≤ w16.heap.size := hb16.size
    clear hb16 hk16 hB15 HG15 HX15 HV15 HQ15 HU15 HZ15 HY15 z0 z1
    have HKQ : Hid (1 ≤ kQ ss ts ∧ kQ ss ts ≤ 800000000000000) := ⟨Nat.le_trans (show 1 ≤ kT (fun i => (tx ts i).code.length) (1 + 2 * ss.length) 0 by simp only [kT]; omega) (kT_le _ (1 + 2 * ss.length) 0 ts.length (Nat.zero_le _)), kQ_le HSS.out⟩
    generalize kQ ss ts = K1 at *
    have z0 : w16.cell? ⟨w7.heap.size, 0, none⟩ = some (.slice (some ⟨gp, 0, none⟩) is.length is.length) := by rw [Lib.cell_of_heap HU16.out]; rfl
    go_wp2_with fail
    refine (markProgram_row _ _ is.length K1 _ xs w16 HQ16.out (by omega) hisn HKQ.out.1 (by have := HKQ.out.2; omega)).mono ?_
    rintro e w17 ⟨rfl, hb17, hk17⟩
    have hB17 : Below w.heap.size w w17 := hB16.trans (hb17.mono (by omega))
    have HG17 : Hid (Sp w17 w9.heap.size w8.heap.size w9.heap.size _ _ dS dT) := HG16.out.keep hk17 (Or.inr (by omega)) (Or.inr (by omega))
    have HV17 : Hid (Sp w17 P w2.heap.size wk.heap.size _ _ dS dT) := HV16.out.keep hk17 (Or.inl (by omega)) (Or.inl (by omega))
    have HZ17 : Hid (w17.heap[w.heap.size]? = _) := blk_keep HZ16.out hk17 (Or.inl (by omega))
    have HY17 : Hid (w17.heap[w.heap.size + 1]? = _) := blk_keep HY16.out hk17 (Or.inl (by omega))
    have hsz17 : w16.heap.size ≤ w17.heap.size := hb17.size
    clear hb17 hk17 hB16 HG16 HV16 HQ16 HU16 HZ16 HY16 z0
    have hk0 : decide (((K1 + 3 * is.length : Nat) : Int) < 0) = false := by simp; omega
    obtain ⟨K3, eK⟩ : ∃ K3, K1 + 3 * is.length = K3 := ⟨_, rfl⟩
    rw [eK] at hk0 ⊢
    clear eK HKQ
    obtain ⟨z0, z1⟩ := HG17.out.c
    obtain ⟨y0, y1⟩ := HV17.out.c
    go_wp2_with fail
    clear hk0
    refine (eqSpace_own HG17.out.s HG17.out.t HV17.out.s HV17.out.t HSM.out).mono ?_
    rintro e w18 ⟨hb18, rfl⟩
    have hB18 := bt hB17 hb18
    have HG18 : Hid (Sp w18 w9.heap.size w8.heap.size w9.heap.size _ _ dS dT) := HG17.out.below hb18
    have HV18 : Hid (Sp w18 P w2.heap.size wk.heap.size _ _ dS dT) := HV17.out.below hb18
    have HZ18 : Hid (w18.heap[w.heap.size]? = _) := blk_below HZ17.out hb18
    have HY18 : Hid (w18.heap[w.heap.size + 1]? = _) := blk_below HY17.out hb18
    have hsz18 : w17.heap.size ≤ w18.heap.size := hb18.size
    clear hb18 hB17 HG17 HV17 HZ17 HY17 z0 z1 y0 y1
    obtain ⟨z0, z1⟩ := HG18.out.c
    go_wp2_with fail
    refine (markSpace_sp HG18.out.s HG18.out.t (by omega) HSM.out).mono ?_
    rintro e w19 ⟨rfl, hb19, hk19, hm19⟩
    have hB19 : Below w.heap.size w w19 := hB18.trans (hb19.mono (by omega))
    have GB19 : Hid (w19.heap[w9.heap.size]? = _) := blk_keep HG18.out.blk hk19 (Or.inr (Nat.le_refl _))
    have HV19 : Hid (Sp w19 P w2.heap.size wk.heap.size _ _ dS dT) := HV18.out.keep hk19 (Or.inl (by omega)) (Or.inl (by omega))
    have HZ19 : Hid (w19.heap[w.heap.size]? = _) := blk_keep HZ18.out hk19 (Or.inl (by omega))
    have HY19 : Hid (w19.heap[w.heap.size + 1]? = _) := blk_keep HY18.out hk19 (Or.inl (by omega))
    have HM19 : Hid (MkL w19 w8.heap.size w9.heap.size (.slice ga dS.length gc) (.slice gb dT.length gd) dS dT) := hm19
    have hsz19 : w18.heap.size ≤ w19.heap.size := hb19.size
    clear hb19 hk19 hm19 hB18 HG18 HV18 HZ18 HY18 z0 z1
    have hk0 : decide (((kQ dS dT : Nat) : Int) < 0) = false := by simp
    have hkk : (((kQ dS dT : Nat) : Int) != ((kQ dS dT : Nat) : Int)) = false := by simp
    have HH : Hid (∀ W : World, MkL W w8.heap.size w9.heap.size (.slice ga dS.length gc) (.slice gb dT.length gd) dS dT → Calls Tryd.prog 20 #[.agg #[.slice ga dS.length gc, .slice gb dT.length gd], .int .i64 1] W fun e w' => e = .returned (.int .i64 ((kQ dS dT : Nat) : Int)) ∧ Below W.heap.size W w') := fun W hW => heldSpace_sp hW HSM.out
    generalize kQ dS dT = K2 at *
    obtain ⟨z0, z1⟩ := blk_c GB19.out
    go_wp2_with fail
    refine (HH.out w19 HM19.out).mono ?_
    rintro e w20 ⟨rfl, hb20⟩
    have hB20 := bt hB19 hb20
    have GB20 : Hid (w20.heap[w9.heap.size]? = _) := blk_below GB19.out hb20
    have HV20 : Hid (Sp w20 P w2.heap.size wk.heap.size _ _ dS dT) := HV19.out.below hb20
    have HZ20 : Hid (w20.heap[w.heap.size]? = _) := blk_below HZ19.out hb20
    have HY20 : Hid (w20.heap[w.heap.size + 1]? = _) := blk_below HY19.out hb20
    have HM20 : Hid (MkL w20 w8.heap.size w9.heap.size (.slice ga dS.length gc) (.slice gb dT.length gd) dS dT) := HM19.out.below hb20
    have hsz20 : w19.heap.size ≤ w20.heap.size := hb20.size
    clear hb20 hB19 GB19 HV19 HZ19 HY19 HM19 z0 z1
    obtain ⟨p0, p1⟩ := blk_c HZ20.out
    have p2 : w20.cell? ⟨w.heap.size + 1, 0, none⟩ = some (.slice a is.length ac) := by rw [Lib.cell_of_heap HY20.out]; rfl
    have hbd : Below w20.heap.size w20 w20.drew := (Below.refl _ _).drew
    have hz20 : w.heap.size + 1 < w20.heap.size := blkW_lt HY20.out
    go_wp2_with fail
    go_cut [17, 18] (fun p q wx => ∃ (P : Nat) (v1 v2 : Value), p = .pointer (some ⟨P, 0, none⟩) ∧ q = .int .i64 dC ∧ Hid (Sp wx P w20.heap.size wx.heap.size v1 v2 dS dT) ∧ w20.heap.size ≤ P ∧ Below w20.heap.size w20 wx)
    case first =>
      go_region_held3 (fun w' => w'.cell? ⟨w.heap.size, 0, none⟩ = some (.slice sa ss.length c1) ∧ w'.cell? ⟨w.heap.size, 1, none⟩ = some (.slice ta ts.length c2) ∧ w'.cell? ⟨w.heap.size + 1, 0, none⟩ = some (.slice a is.length ac))
        (first | exact ⟨p0, p1, p2⟩ | (refine ⟨?_, ?_, ?_⟩ <;> (rw [World.cell?_setCell_far _ _ _ _ (by simp; omega), World.cell?_setCell_far _ _ _ _ (by simp; omega)]; assumption)) | (go_split_ands; with_reducible (refine ⟨cellW ?_, cellW ?_, cellW ?_⟩ <;> assumption)) | (go_split_ands; with_reducible (refine ⟨cell_below hbC ?_, cell_below hbC ?_, cell_below hbC ?_⟩ <;> assumption)) | (go_split_ands; with_reducible (refine ⟨cell_below hbB ?_, cell_below hbB ?_, cell_below hbB ?_⟩ <;> assumption)) | (go_split_ands; with_reducible (refine ⟨cell_below hbA ?_, cell_below hbA ?_, cell_below hbA ?_⟩ <;> assumption)) | exact ⟨cellW p0, cellW p1, cellW p2⟩)
        (first | (go_at_call 16; refine (HTS.out _ (bt hB20 (by first | with_reducible exact hbd | exact hbd.alloc (by simp) _))).mono ?_; rintro e wA ⟨hbA, y1, y2, rfl, oy1, oy2⟩; have hbAw : Below w20.heap.size w20 wA := (by first | with_reducible exact bt hbd hbA | exact bt (hbd.alloc (by simp) _) hbA); have hzA := hbA.size; (try simp at hzA); first | have zA : wA.heap[w20.heap.size]? = _ := new_belowW hbA | have zA := new_belowX hbA | skip) | (go_at_call 25; refine (HPG.out _ (bt hB20 (by first | with_reducible exact hbAw | exact hbAw.alloc hbAw.size _))).mono ?_; rintro e wB ⟨hbB, g5, rfl, hr5⟩; have hbBw : Below wA.heap.size wA wB := (by first | with_reducible exact hbB | exact bt ((Below.refl _ _).alloc (Nat.le_refl _) _) hbB); have hB5 : Below w20.heap.size w20 wB := bt hbAw hbBw; have hzB := hbB.size; (try simp at hzB); first | have zB := new_belowW hbB | have zB := blk_below zA hbB | skip) | (go_at_call 26; refine (HPT26.out _ _ _ _ _ g5 (HT.out.below (bt hB20 (by first | with_reducible exact hB5 | exact hB5.alloc hB5.size _))) (by first | with_reducible exact oy1.below hbBw | exact (oy1.below hbBw).below ((Below.refl _ _).alloc (Nat.le_refl _) _)) (by first | with_reducible exact oy2.below hbBw | exact (oy2.below hbBw).below ((Below.refl _ _).alloc (Nat.le_refl _) _)) (by first | with_reducible exact hr5 | exact hr5.below ((Below.refl _ _).alloc (Nat.le_refl _) _))).mono ?_; rintro e wC ⟨hbC, v1, v2, rfl, o1, o2⟩; have hbCw : Below wB.heap.size wB wC := (by first | with_reducible exact hbC | exact bt ((Below.refl _ _).alloc (Nat.le_refl _) _) hbC); have hB6 : Below w20.heap.size w20 wC := bt hB5 hbCw; have s0 := cell_below hB6 p0; have s1 := cell_below hB6 p1; have s2 := cell_below hB6 p2; have hzC := hbC.size; (try simp at hzC); obtain ⟨a1, q1, rfl, _⟩ := o1.sl; obtain ⟨a2, q2, rfl, _⟩ := o2.sl; have HO1 : Hid (OwnS wC w20.heap.size wC.heap.size _ dS) := (o1.wide (by first | omega | (simp; omega)) (Nat.le_refl _)); have HO2 : Hid (OwnT wC w20.heap.size wC.heap.size _ dT) := (o2.wide (by first | omega | (simp; omega)) (Nat.le_refl _)); first | (have zC := new_belowW hbC; obtain ⟨k0, k1⟩ := blk_c zC; have kf := (fun j => Lib.frozen_of_heap zC j)) | (have zC := blk_below zB hbC; obtain ⟨k0, k1⟩ := blk_c zC; have kf := (fun j => Lib.frozen_of_heap zC j)) | skip))
      all_goals
        go_wp2_with fail
        go_meet
        first
          | exact ⟨_, _, _, rfl, rfl, (Sp.old zC HO1.out HO2.out).wide (Nat.le_refl _) (by simp), by omega, below_set2 hB6 (by omega) _ _⟩
          | exact ⟨_, _, _, rfl, rfl, (Sp.new HO1.out HO2.out).wide (Nat.le_refl _) (by simp), by omega, hB6.alloc hB6.size _⟩
    case rest =>
      obtain ⟨P2, u1, u2, rfl, rfl, HH21, hPl2, hbx⟩ := hcut
      clear p0 p1 p2 hbd
      have hB21 := bt hB20 hbx
      have HGB : Hid (wc.heap[w9.heap.size]? = some (.cells #[.slice ga dS.length gc, .slice gb dT.length gd] 42 (0, 0))) := blk_below GB20.out hbx
      have HVV : Hid (Sp wc P w2.heap.size wk.heap.size _ _ dS dT) := HV20.out.below hbx
      have HM21 : Hid (MkL wc w8.heap.size w9.heap.size (.slice ga dS.length gc) (.slice gb dT.length gd) dS dT) := HM20.out.below hbx
      clear hbx GB20 HV20 HZ20 HY20 HM20 hB20
      obtain ⟨ua, uc, ev1, _⟩ := HH21.out.s.sl
      obtain ⟨ub, ud, ev2, _⟩ := HH21.out.t.sl
      subst ev1
      subst ev2
      obtain ⟨z0, z1⟩ := HH21.out.c
      obtain ⟨y0, y1⟩ := HVV.out.c
      go_wp2_with fail
      refine (eqSpace_own HH21.out.s HH21.out.t HVV.out.s HVV.out.t HSM.out).mono ?_
      rintro e w22 ⟨hb22, rfl⟩
      have hB22 := bt hB21 hb22
      have GB22 : Hid (w22.heap[w9.heap.size]? = _) := blk_below HGB.out hb22
      have HM22 : Hid (MkL w22 w8.heap.size w9.heap.size (.slice ga dS.length gc) (.slice gb dT.length gd) dS dT) := HM21.out.below hb22
      clear hb22 hB21 HH21 HVV HGB HM21 z0 z1 y0 y1
      obtain ⟨z0, z1⟩ := blk_c GB22.out
      go_wp2_with fail
      refine (HH.out w22 HM22.out).mono ?_
      rintro e w23 ⟨rfl, hb23⟩
      have hB23 := bt hB22 hb23
      clear hb23 hB22 GB22 HM22 z0 z1
      go_wp2
      go_ret
      exact ⟨rfl, hB23⟩

end Go.Proofs.YtmeojnaoljgieacDoor
