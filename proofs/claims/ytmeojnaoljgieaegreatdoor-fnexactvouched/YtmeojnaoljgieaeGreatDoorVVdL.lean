import Derived.Test.YtmeojnaoljgieaeGreatDoorVCpS
import Derived.Test.YtmeojnaoljgieaeGreatDoorVVdS
import Derived.Test.YtmeojnaoljgieaeGreatDoorVSoB
import Derived.Test.YtmeojnaoljgieaeGreatDoorVPxA
namespace Go.Proofs.YtmeojnaoljgieaeGreatDoor
open Go.RowKit
set_option linter.unusedVariables false
set_option maxHeartbeats 8000000
set_option maxRecDepth 100000
section
open Go.Deep
/-- A store's block and its owned rows. -/
structure So (w : World) (b lo hi : Nat) (n : Int) (v1 v2 : Value) (ts : List ByteArray) (rs : List T3) : Prop where
  blk : w.heap[b]? = some (.cells #[.int .i64 n, v1, v2] 56 (0, 0))
  s : OwnX w lo hi v1 ts
  t : OwnQ w lo hi v2 rs
theorem So.below {w w' : World} {b lo hi : Nat} {n : Int} {v1 v2 : Value} {ts : List ByteArray} {rs : List T3} (h : So w b lo hi n v1 v2 ts rs) (hb : Below w.heap.size w w') : So w' b lo hi n v1 v2 ts rs :=
  ⟨blk_below h.blk hb, h.s.below hb, h.t.below hb⟩
theorem So.c {w : World} {b lo hi : Nat} {n : Int} {v1 v2 : Value} {ts : List ByteArray} {rs : List T3} (h : So w b lo hi n v1 v2 ts rs) : w.cell? ⟨b, 0, none⟩ = some (.int .i64 n) /\ w.cell? ⟨b, 1, none⟩ = some v1 /\ w.cell? ⟨b, 2, none⟩ = some v2 := blk_c3 h.blk
theorem So.new {w : World} {lo hi : Nat} {n : Int} {v1 v2 : Value} {ts : List ByteArray} {rs : List T3} (h1 : OwnX w lo hi v1 ts) (h2 : OwnQ w lo hi v2 rs) : So (w.alloc (.cells #[.int .i64 n, v1, v2] 56)) w.heap.size lo hi n v1 v2 ts rs :=
  ⟨heapW_new _ _, h1.below ((Below.refl _ _).alloc (Nat.le_refl _) _), h2.below ((Below.refl _ _).alloc (Nat.le_refl _) _)⟩
/-- A Kept's block and the owned rows of its store. -/
theorem So.keep {w w' : World} {b lo hi lo' hi' : Nat} {n : Int} {v1 v2 : Value} {ts : List ByteArray} {rs : List T3} (h : So w b lo hi n v1 v2 ts rs) (hk : KeepR lo' hi' w w') (hb : b < lo' \/ hi' <= b) (hd : hi <= lo' \/ hi' <= lo) : So w' b lo hi n v1 v2 ts rs :=
  ⟨blk_keepR h.blk hk hb, h.s.keep hk hd, h.t.keep hk hd⟩
theorem VdP.small {n : Int} {ts : List ByteArray} {rs : List T3} {wd : Int} {t1 : List ByteArray} {r1 : List T3} (h : VdP n ts rs wd t1 r1) (hs : SoSm ts rs) : SoSm t1 r1 := by
  rcases h with ⟨_, rfl, rfl, rfl⟩ | ⟨_, rfl, rfl, rfl⟩
  · refine ⟨hs.1, Nat.le_trans (kept_length _ _ _ _) hs.2.1, fun i hi => ?_⟩
    obtain ⟨j, hj, e⟩ := qx_kept hi
    rw [e]
    exact hs.2.2 j hj
  · exact ⟨by simp, by simp, fun i hi => by simp at hi⟩
theorem specVd_own {w w0 : World} {ta ra : Option Addr} {n : Int} {g lo hi : Nat} {v2 : Value} {ts : List ByteArray} {rs : List T3} (h : SoOk w0 ta ts ra rs) (h1 : OwnX w lo hi (.slice (some ⟨g, 0, none⟩) ts.length ts.length) ts) (h2 : OwnQ w lo hi v2 rs) (hs : SoSm ts rs) :
    Calls Tryz.prog 41 #[.agg #[.int .i64 n, .slice (some ⟨g, 0, none⟩) ts.length ts.length, v2]] w fun e w' => Below w.heap.size w w' /\ VdOut w.heap.size w' e n ts rs := by
  obtain ⟨a1, p1, e1, r1⟩ := h1.sl
  cases e1
  obtain ⟨a2, p2, rfl, r2⟩ := h2.slP
  exact specVouched_any n g 0 _ a2 p2 ts rs w ⟨r1, hs.1, fun i => h.xn i, r2.row, h.ok, hs.2⟩ r2
theorem implVd_own {w w0 : World} {ta ra : Option Addr} {n : Int} {g lo hi : Nat} {v2 : Value} {ts ts' : List ByteArray} {rs rs' : List T3} {wd : Int} (hT : Tab w) (hP : P10 w) (h : SoOk w0 ta ts ra rs) (h1 : OwnX w lo hi (.slice (some ⟨g, 0, none⟩) ts.length ts.length) ts) (h2 : OwnQ w lo hi v2 rs) (hs : SoSm ts rs) (hk : VdP n ts rs wd ts' rs') :
    Calls Tryz.prog 42 #[.agg #[.int .i64 n, .slice (some ⟨g, 0, none⟩) ts.length ts.length, v2]] w fun e w' => Below w.heap.size w w' /\ ∃ v1 v2, e = .returned (.agg #[.int .i64 wd, v1, v2]) /\ OwnX w' w.heap.size w'.heap.size v1 ts' /\ OwnQ w' w.heap.size w'.heap.size v2 rs' := by
  obtain ⟨a1, p1, e1, r1⟩ := h1.sl
  cases e1
  obtain ⟨a2, p2, rfl, r2⟩ := h2.slP
  refine (implVouched_any n g 0 _ a2 p2 ts rs w hT hP ⟨r1, hs.1, fun i => h.xn i, r2.row, h.ok, hs.2⟩ r2).mono ?_
  rintro e w' ⟨hb, wd', t1, r1, v1, v2, rfl, hk', o1, o2⟩
  obtain ⟨rfl, rfl, rfl⟩ := hk.unique hk'
  exact ⟨hb, v1, v2, rfl, o1, o2⟩
theorem vouchedLaw (n : Int) (ta ra : Option Addr) (tc rc : Nat) (ts : List ByteArray) (rs : List T3) (w : World) (hT : Tab w) (hP : P10 w) (h : SoOk w ta ts ra rs) :
    Calls Tryz.prog 8 #[.agg #[.int .i64 n, .slice ta ts.length tc, .slice ra rs.length rc]] w fun e w' => e = .returned (.bool true) /\ Below w.heap.size w w' := by
  have hb0 : Below w.heap.size w (w.alloc (.cells #[.int .i64 n, .slice ta ts.length tc, .slice ra rs.length rc] 44)) := (Below.refl _ _).alloc (Nat.le_refl _) _
  have HZ0 : Hid ((w.alloc (.cells #[.int .i64 n, .slice ta ts.length tc, .slice ra rs.length rc] 44)).heap[w.heap.size]? = some (.cells #[.int .i64 n, .slice ta ts.length tc, .slice ra rs.length rc] 44 (0, 0))) := heapW_new _ _
  have HO : Hid (SoOk w ta ts ra rs) := h
  have HT : Hid (Tab w) := hT
  have HP : Hid (P10 w) := hP
  clear h hT hP
  go_enter Tryz.func8, Tryz.ntmps8
  go_wp2_with fail
  refine (szStore_any n ta ra tc rc ts rs _ (HO.out.below hb0)).mono ?_
  rintro e w1 ⟨hb1, r, rfl, hr⟩
  have hB1 := bt hb0 hb1
  have HZ1 : Hid (w1.heap[w.heap.size]? = _) := blk_below HZ0.out hb1
  clear hb0 hb1 HZ0
  rcases hr with hr | ⟨hr0, hl, hq⟩
  · go_wp2
    go_ret
    exact ⟨rfl, hB1⟩
  have hr0d : decide (r < 0) = false := by simp; omega
  have hsm : SoSm ts rs := ⟨hl, hq⟩
  have HSS : Hid (SoSm ts rs) := hsm
  have HTS : Hid (∀ W : World, Below w.heap.size w W -> Calls Tryz.prog 19 #[.agg #[.int .i64 n, .slice ta ts.length tc, .slice ra rs.length rc]] W fun e w' => Below W.heap.size W w' /\ ∃ (g1 : Nat) (v2 : Value), e = .returned (.agg #[.int .i64 n, .slice (some ⟨g1, 0, none⟩) ts.length ts.length, v2]) /\ OwnX w' W.heap.size w'.heap.size (.slice (some ⟨g1, 0, none⟩) ts.length ts.length) ts /\ OwnQ w' W.heap.size w'.heap.size v2 rs) := fun W hW => toStore_own n ta ra tc rc ts rs W (HO.out.st.below hW) (HO.out.rq.below hW) hl hq
  have HSPEC : Hid (∀ (W : World) (lo hi g : Nat) (v2 : Value), OwnX W lo hi (.slice (some ⟨g, 0, none⟩) ts.length ts.length) ts -> OwnQ W lo hi v2 rs -> Calls Tryz.prog 41 #[.agg #[.int .i64 n, .slice (some ⟨g, 0, none⟩) ts.length ts.length, v2]] W fun e w' => Below W.heap.size W w' /\ VdOut W.heap.size w' e n ts rs) := fun W lo hi g v2 k1 k2 => specVd_own HO.out k1 k2 hsm
  have HIMP : Hid (∀ (wd : Int) (ts' : List ByteArray) (rs' : List T3), VdP n ts rs wd ts' rs' -> ∀ (W : World) (lo hi g : Nat) (v2 : Value), Tab W -> P10 W -> OwnX W lo hi (.slice (some ⟨g, 0, none⟩) ts.length ts.length) ts -> OwnQ W lo hi v2 rs -> Calls Tryz.prog 42 #[.agg #[.int .i64 n, .slice (some ⟨g, 0, none⟩) ts.length ts.length, v2]] W fun e w' => Below W.heap.size W w' /\ ∃ v1 v2, e = .returned (.agg #[.int .i64 wd, v1, v2]) /\ OwnX w' W.heap.size w'.heap.size v1 ts' /\ OwnQ w' W.heap.size w'.heap.size v2 rs') := fun wd ts' rs' hk W lo hi g v2 k0 kp k1 k2 => implVd_own k0 kp HO.out k1 k2 hsm hk
  obtain ⟨z0, z1, z2⟩ := blk_c3 HZ1.out
  clear hl hq hsm
  go_wp2_with fail
  clear hr0d
  refine (HTS.out w1 hB1).mono ?_
  rintro e w2 ⟨hb2, x1, x2, rfl, o1, o2⟩
  obtain ⟨xb, xd, rfl, _⟩ := o2.sl
  have hB2 := bt hB1 hb2
  have HZ2 : Hid (w2.heap[w.heap.size]? = _) := blk_below HZ1.out hb2
  clear z0 z1 z2 hB1 hb2 HZ1
  go_wp2_with fail
  refine (HSPEC.out w2 _ _ _ _ o1 o2).mono ?_
  rintro e w3 ⟨hb3, wd, dT, dR, v1, v2, rfl, hkp, q1, q2⟩
  obtain ⟨va, vc, rfl, _⟩ := q1.sl
  obtain ⟨vb, vd, rfl, _⟩ := q2.sl
  have hB3 := bt hB2 hb3
  obtain ⟨w4, e4⟩ : ∃ y, w3.alloc (.cells #[.int .i64 wd, .slice va dT.length vc, .slice vb dR.length vd] 56) = y := ⟨_, rfl⟩
  have hb4 : Below w3.heap.size w3 w4 := by rw [<- e4]; exact (Below.refl _ _).alloc (Nat.le_refl _) _
  have HV4 : Hid (So w4 w3.heap.size w2.heap.size w3.heap.size wd (.slice va dT.length vc) (.slice vb dR.length vd) dT dR) := by show So _ _ _ _ _ _ _ _ _; rw [<- e4]; exact So.new q1 q2
  have hB4 := bt hB3 hb4
  have HZ4 : Hid (w4.heap[w.heap.size]? = _) := blk_below (blk_below HZ2.out hb3) hb4
  have hsz3 : w2.heap.size <= w3.heap.size := hb3.size
  have hsz4 : w3.heap.size < w4.heap.size := blkW_lt HV4.out.blk
  have hszw : w.heap.size < w2.heap.size := blkW_lt HZ2.out
  have HSM : Hid (SoSm dT dR) := hkp.small HSS.out
  have HDR : Hid (∀ (W : World) (lo hi g : Nat) (v2 : Value), Tab W -> P10 W -> OwnX W lo hi (.slice (some ⟨g, 0, none⟩) ts.length ts.length) ts -> OwnQ W lo hi v2 rs -> Calls Tryz.prog 42 #[.agg #[.int .i64 n, .slice (some ⟨g, 0, none⟩) ts.length ts.length, v2]] W fun e w' => Below W.heap.size W w' /\ ∃ v1 v2, e = .returned (.agg #[.int .i64 wd, v1, v2]) /\ OwnX w' W.heap.size w'.heap.size v1 dT /\ OwnQ w' W.heap.size w'.heap.size v2 dR) := HIMP.out wd dT dR hkp
  obtain ⟨z0, z1, z2⟩ := blk_c3 HZ4.out
  clear hb3 hb4 q1 q2 o1 o2 hB2 hB3 HZ2 hkp HIMP HSPEC
  go_wp2_with fail
  clear e4
  refine (HTS.out w4 hB4).mono ?_
  rintro e w5 ⟨hb5, xa, x2, rfl, o1, o2⟩
  obtain ⟨xb, xd, rfl, _⟩ := o2.sl
  have hB5 := bt hB4 hb5
  obtain ⟨w6, e6⟩ : ∃ y, w5.alloc (.cells #[.int .i64 n, .slice (some ⟨xa, 0, none⟩) ts.length ts.length, .slice xb rs.length xd] 56) = y := ⟨_, rfl⟩
  have hb6 : Below w5.heap.size w5 w6 := by rw [<- e6]; exact (Below.refl _ _).alloc (Nat.le_refl _) _
  have HX6 : Hid (So w6 w5.heap.size w4.heap.size w5.heap.size n (.slice (some ⟨xa, 0, none⟩) ts.length ts.length) (.slice xb rs.length xd) ts rs) := by show So _ _ _ _ _ _ _ _ _; rw [<- e6]; exact So.new o1 o2
  have HV6 : Hid (So w6 w3.heap.size w2.heap.size w3.heap.size wd (.slice va dT.length vc) (.slice vb dR.length vd) dT dR) := (HV4.out.below hb5).below hb6
  have HZ6 : Hid (w6.heap[w.heap.size]? = _) := blk_below (blk_below HZ4.out hb5) hb6
  have hB6 := bt hB5 hb6
  have hsz5 : w4.heap.size <= w5.heap.size := hb5.size
  have hsz6 : w5.heap.size < w6.heap.size := blkW_lt HX6.out.blk
  clear hb5 hb6 o1 o2 hB4 hB5 HZ4 HV4 z0 z1 z2
  obtain ⟨z0, z1, z2⟩ := HX6.out.c
  go_wp2_with fail
  clear e6
  refine (HDR.out w6 _ _ _ _ (HT.out.below hB6) (HP.out.below hB6) HX6.out.s HX6.out.t).mono ?_
  rintro e w7 ⟨hb7, g1, g2, rfl, o1, o2⟩
  obtain ⟨ga, gc, rfl, _⟩ := o1.sl
  obtain ⟨gb, gd, rfl, _⟩ := o2.sl
  have hB7 := bt hB6 hb7
  obtain ⟨w8, e8⟩ : ∃ y, w7.alloc (.cells #[.int .i64 wd, .slice ga dT.length gc, .slice gb dR.length gd] 56) = y := ⟨_, rfl⟩
  have hb8 : Below w7.heap.size w7 w8 := by rw [<- e8]; exact (Below.refl _ _).alloc (Nat.le_refl _) _
  have HG8 : Hid (So w8 w7.heap.size w6.heap.size w7.heap.size wd (.slice ga dT.length gc) (.slice gb dR.length gd) dT dR) := by show So _ _ _ _ _ _ _ _ _; rw [<- e8]; exact So.new o1 o2
  have HX8 : Hid (So w8 w5.heap.size w4.heap.size w5.heap.size n (.slice (some ⟨xa, 0, none⟩) ts.length ts.length) (.slice xb rs.length xd) ts rs) := (HX6.out.below hb7).below hb8
  have HV8 : Hid (So w8 w3.heap.size w2.heap.size w3.heap.size wd (.slice va dT.length vc) (.slice vb dR.length vd) dT dR) := (HV6.out.below hb7).below hb8
  have HZ8 : Hid (w8.heap[w.heap.size]? = _) := blk_below (blk_below HZ6.out hb7) hb8
  have hB8 := bt hB7 hb8
  have hsz7 : w6.heap.size <= w7.heap.size := hb7.size
  have hsz8 : w7.heap.size < w8.heap.size := blkW_lt HG8.out.blk
  clear hb7 hb8 o1 o2 hB6 hB7 HZ6 HV6 HX6 z0 z1 z2
  obtain ⟨z0, z1, z2⟩ := HG8.out.c
  obtain ⟨y0, y1, y2⟩ := HV8.out.c
  go_wp2_with fail
  clear e8
  refine (eqStore_own wd HG8.out.s HG8.out.t HV8.out.s HV8.out.t HSM.out).mono ?_
  rintro e w9 ⟨hb9, rfl⟩
  have hB9 := bt hB8 hb9
  have HG9 : Hid (So w9 w7.heap.size w6.heap.size w7.heap.size wd (.slice ga dT.length gc) (.slice gb dR.length gd) dT dR) := HG8.out.below hb9
  have HX9 : Hid (So w9 w5.heap.size w4.heap.size w5.heap.size n (.slice (some ⟨xa, 0, none⟩) ts.length ts.length) (.slice xb rs.length xd) ts rs) := HX8.out.below hb9
  have HV9 : Hid (So w9 w3.heap.size w2.heap.size w3.heap.size wd (.slice va dT.length vc) (.slice vb dR.length vd) dT dR) := HV8.out.below hb9
  have HZ9 : Hid (w9.heap[w.heap.size]? = some (.cells #[.int .i64 n, .slice ta ts.length tc, .slice ra rs.length rc] 44 (0, 0))) := blk_below HZ8.out hb9
  have hsz9 : w8.heap.size <= w9.heap.size := hb9.size
  clear hb9 hB8 HG8 HX8 HV8 HZ8 z0 z1 z2 y0 y1 y2
  obtain ⟨z0, z1, z2⟩ := HX9.out.c
  obtain ⟨y0, y1, y2⟩ := blk_c3 HZ9.out
  have hbd9 : Below w9.heap.size w9 w9.drew := (Below.refl _ _).drew
  go_wp2_with fail
  go_region_held3 (fun w' => w'.cell? ⟨w5.heap.size, 0, none⟩ = some (.int .i64 n) /\ w'.cell? ⟨w5.heap.size, 1, none⟩ = some (.slice (some ⟨xa, 0, none⟩) ts.length ts.length) /\ w'.cell? ⟨w5.heap.size, 2, none⟩ = some (.slice xb rs.length xd) /\ w'.cell? ⟨w.heap.size, 0, none⟩ = some (.int .i64 n) /\ w'.cell? ⟨w.heap.size, 1, none⟩ = some (.slice ta ts.length tc) /\ w'.cell? ⟨w.heap.size, 2, none⟩ = some (.slice ra rs.length rc))
    (first | (with_reducible exact ⟨cell_below hb11 s0, cell_below hb11 s1, cell_below hb11 s2, cell_below hb11 s3, cell_below hb11 s4, cell_below hb11 s5⟩) | (with_reducible exact ⟨s0, s1, s2, s3, s4, s5⟩) | exact ⟨z0, z1, z2, y0, y1, y2⟩)
    (first | (go_at_call 19; refine (HTS.out _ hB9.drew).mono ?_; rintro e w10 ⟨hb10, f1, f2, rfl, of1, of2⟩; obtain ⟨fb, fd, rfl, _⟩ := of2.sl; have s0 := cell_below (bt hbd9 hb10) z0; have s1 := cell_below (bt hbd9 hb10) z1; have s2 := cell_below (bt hbd9 hb10) z2; have s3 := cell_below (bt hbd9 hb10) y0; have s4 := cell_below (bt hbd9 hb10) y1; have s5 := cell_below (bt hbd9 hb10) y2; have HX10 : Hid (So w10 w5.heap.size w4.heap.size w5.heap.size n (.slice (some ⟨xa, 0, none⟩) ts.length ts.length) (.slice xb rs.length xd) ts rs) := HX9.out.below (bt hbd9 hb10)) | (go_at_call 22; refine (eqStore_own n HX10.out.s HX10.out.t of1 of2 HSS.out).mono ?_; rintro e w11 ⟨hb11, rfl⟩))
  have hb911 : Below w9.heap.size w9 w11 := bt (bt hbd9 hb10) hb11
  have hB11 := bt hB9 hb911
  have HG11 : Hid (So w11 w7.heap.size w6.heap.size w7.heap.size wd (.slice ga dT.length gc) (.slice gb dR.length gd) dT dR) := HG9.out.below hb911
  have HX11 : Hid (So w11 w5.heap.size w4.heap.size w5.heap.size n (.slice (some ⟨xa, 0, none⟩) ts.length ts.length) (.slice xb rs.length xd) ts rs) := HX9.out.below hb911
  have HV11 : Hid (So w11 w3.heap.size w2.heap.size w3.heap.size wd (.slice va dT.length vc) (.slice vb dR.length vd) dT dR) := HV9.out.below hb911
  have HZ11 : Hid (w11.heap[w.heap.size]? = some (.cells #[.int .i64 n, .slice ta ts.length tc, .slice ra rs.length rc] 44 (0, 0))) := blk_below HZ9.out hb911
  have hsz11 : w9.heap.size <= w11.heap.size := hb911.size
  clear hb911 hb10 hb11 hbd9 hB9 HG9 HX9 HV9 HZ9 HX10 of1 of2 z0 z1 z2 y0 y1 y2 s0 s1 s2 s3 s4 s5
  obtain ⟨z0, z1, z2⟩ := HX11.out.c
  go_wp2_with fail
  refine (markStore_own n HX11.out.s HX11.out.t (by omega) HSS.out).mono ?_
  rintro e w12 ⟨rfl, hb12, hk12, _⟩
  have hB12 : Below w.heap.size w w12 := hB11.trans (hb12.mono (by omega))
  have HG12 : Hid (So w12 w7.heap.size w6.heap.size w7.heap.size wd (.slice ga dT.length gc) (.slice gb dR.length gd) dT dR) := HG11.out.keep hk12 (Or.inr (by omega)) (Or.inr (by omega))
  have HV12 : Hid (So w12 w3.heap.size w2.heap.size w3.heap.size wd (.slice va dT.length vc) (.slice vb dR.length vd) dT dR) := HV11.out.keep hk12 (Or.inl (by omega)) (Or.inl (by omega))
  have HZ12 : Hid (w12.heap[w.heap.size]? = some (.cells #[.int .i64 n, .slice ta ts.length tc, .slice ra rs.length rc] 44 (0, 0))) := blk_keepR HZ11.out hk12 (Or.inl (by omega))
  have hsz12 : w11.heap.size <= w12.heap.size := hb12.size
  clear hb12 hk12 hB11 HG11 HX11 HV11 HZ11 z0 z1 z2
  have hk0 : decide (((kS ts rs : Nat) : Int) < 0) = false := by simp
  generalize kS ts rs = K1 at *
  obtain ⟨z0, z1, z2⟩ := HG12.out.c
  obtain ⟨y0, y1, y2⟩ := HV12.out.c
  go_wp2_with fail
  clear hk0
  refine (eqStore_own wd HG12.out.s HG12.out.t HV12.out.s HV12.out.t HSM.out).mono ?_
  rintro e w13 ⟨hb13, rfl⟩
  have hB13 := bt hB12 hb13
  have HG13 : Hid (So w13 w7.heap.size w6.heap.size w7.heap.size wd (.slice ga dT.length gc) (.slice gb dR.length gd) dT dR) := HG12.out.below hb13
  have HV13 : Hid (So w13 w3.heap.size w2.heap.size w3.heap.size wd (.slice va dT.length vc) (.slice vb dR.length vd) dT dR) := HV12.out.below hb13
  have HZ13 : Hid (w13.heap[w.heap.size]? = some (.cells #[.int .i64 n, .slice ta ts.length tc, .slice ra rs.length rc] 44 (0, 0))) := blk_below HZ12.out hb13
  have hsz13 : w12.heap.size <= w13.heap.size := hb13.size
  clear hb13 hB12 HG12 HV12 HZ12 z0 z1 z2 y0 y1 y2
  obtain ⟨z0, z1, z2⟩ := HG13.out.c
  go_wp2_with fail
  refine (markStore_own wd HG13.out.s HG13.out.t (by omega) HSM.out).mono ?_
  rintro e w14 ⟨rfl, hb14, hk14, hm14⟩
  have hB14 : Below w.heap.size w w14 := hB13.trans (hb14.mono (by omega))
  have GB14 : Hid (w14.heap[w7.heap.size]? = some (.cells #[.int .i64 wd, .slice ga dT.length gc, .slice gb dR.length gd] 56 (0, 0))) := blk_keepR HG13.out.blk hk14 (Or.inr (Nat.le_refl _))
  have HV14 : Hid (So w14 w3.heap.size w2.heap.size w3.heap.size wd (.slice va dT.length vc) (.slice vb dR.length vd) dT dR) := HV13.out.keep hk14 (Or.inl (by omega)) (Or.inl (by omega))
  have HZ14 : Hid (w14.heap[w.heap.size]? = some (.cells #[.int .i64 n, .slice ta ts.length tc, .slice ra rs.length rc] 44 (0, 0))) := blk_keepR HZ13.out hk14 (Or.inl (by omega))
  have HM14 : Hid (MkL w14 w6.heap.size w7.heap.size (.slice ga dT.length gc) (.slice gb dR.length gd) dT dR) := hm14
  clear hb14 hk14 hm14 hB13 HG13 HV13 HZ13 z0 z1 z2
  have hk0 : decide (((kS dT dR : Nat) : Int) < 0) = false := by simp
  have hkk : (((kS dT dR : Nat) : Int) != ((kS dT dR : Nat) : Int)) = false := by simp
  have HH : Hid (∀ W : World, MkL W w6.heap.size w7.heap.size (.slice ga dT.length gc) (.slice gb dR.length gd) dT dR -> Calls Tryz.prog 44 #[.agg #[.int .i64 wd, .slice ga dT.length gc, .slice gb dR.length gd], .int .i64 1] W fun e w' => e = .returned (.int .i64 ((kS dT dR : Nat) : Int)) /\ Below W.heap.size W w') := fun W hW => heldStore_own wd hW HSM.out
  generalize kS dT dR = K2 at *
  obtain ⟨z0, z1, z2⟩ := blk_c3 GB14.out
  go_wp2_with fail
  refine (HH.out w14 HM14.out).mono ?_
  rintro e w15 ⟨rfl, hb15⟩
  have hB15 := bt hB14 hb15
  have GB15 : Hid (w15.heap[w7.heap.size]? = some (.cells #[.int .i64 wd, .slice ga dT.length gc, .slice gb dR.length gd] 56 (0, 0))) := blk_below GB14.out hb15
  have HV15 : Hid (So w15 w3.heap.size w2.heap.size w3.heap.size wd (.slice va dT.length vc) (.slice vb dR.length vd) dT dR) := HV14.out.below hb15
  have HZ15 : Hid (w15.heap[w.heap.size]? = some (.cells #[.int .i64 n, .slice ta ts.length tc, .slice ra rs.length rc] 44 (0, 0))) := blk_below HZ14.out hb15
  have HM15 : Hid (MkL w15 w6.heap.size w7.heap.size (.slice ga dT.length gc) (.slice gb dR.length gd) dT dR) := HM14.out.below hb15
  clear hb15 hB14 GB14 HV14 HZ14 HM14 z0 z1 z2
  obtain ⟨z0, z1, z2⟩ := blk_c3 HZ15.out
  go_wp2_with fail
  refine (HTS.out w15 hB15).mono ?_
  rintro e w16 ⟨hb16, x1, x2, rfl, o1, o2⟩
  obtain ⟨xb2, xd2, rfl, _⟩ := o2.sl
  have hB16 := bt hB15 hb16
  have HB16 : Hid (Below w15.heap.size w15 w16) := hb16
  clear hb16 z0 z1 z2
  go_wp2_with fail
  refine (HDR.out w16 _ _ _ _ (HT.out.below hB16) (HP.out.below hB16) o1 o2).mono ?_
  rintro e w17 ⟨hb17, h1, h2, rfl, p1, p2⟩
  obtain ⟨ha, hc, rfl, _⟩ := p1.sl
  obtain ⟨hb, hd, rfl, _⟩ := p2.sl
  have hB17 := bt hB16 hb17
  obtain ⟨w18, e18⟩ : ∃ y, w17.alloc (.cells #[.int .i64 wd, .slice ha dT.length hc, .slice hb dR.length hd] 56) = y := ⟨_, rfl⟩
  have hb18 : Below w17.heap.size w17 w18 := by rw [<- e18]; exact (Below.refl _ _).alloc (Nat.le_refl _) _
  have hb1518 : Below w15.heap.size w15 w18 := bt (bt HB16.out hb17) hb18
  have HH18 : Hid (So w18 w17.heap.size w16.heap.size w17.heap.size wd (.slice ha dT.length hc) (.slice hb dR.length hd) dT dR) := by show So _ _ _ _ _ _ _ _ _; rw [<- e18]; exact So.new p1 p2
  have GB18 : Hid (w18.heap[w7.heap.size]? = some (.cells #[.int .i64 wd, .slice ga dT.length gc, .slice gb dR.length gd] 56 (0, 0))) := blk_below GB15.out hb1518
  have HV18 : Hid (So w18 w3.heap.size w2.heap.size w3.heap.size wd (.slice va dT.length vc) (.slice vb dR.length vd) dT dR) := HV15.out.below hb1518
  have HM18 : Hid (MkL w18 w6.heap.size w7.heap.size (.slice ga dT.length gc) (.slice gb dR.length gd) dT dR) := HM15.out.below hb1518
  have hB18 := bt hB17 hb18
  clear hb1518 hb17 hb18 HB16 p1 p2 o1 o2 hB15 hB16 hB17 GB15 HV15 HM15 HZ15
  obtain ⟨z0, z1, z2⟩ := HH18.out.c
  obtain ⟨y0, y1, y2⟩ := HV18.out.c
  go_wp2_with fail
  clear e18
  refine (eqStore_own wd HH18.out.s HH18.out.t HV18.out.s HV18.out.t HSM.out).mono ?_
  rintro e w19 ⟨hb19, rfl⟩
  have hB19 := bt hB18 hb19
  have GB19 : Hid (w19.heap[w7.heap.size]? = some (.cells #[.int .i64 wd, .slice ga dT.length gc, .slice gb dR.length gd] 56 (0, 0))) := blk_below GB18.out hb19
  have HM19 : Hid (MkL w19 w6.heap.size w7.heap.size (.slice ga dT.length gc) (.slice gb dR.length gd) dT dR) := HM18.out.below hb19
  clear hb19 hB18 HH18 HV18 GB18 HM18 z0 z1 z2 y0 y1 y2
  obtain ⟨z0, z1, z2⟩ := blk_c3 GB19.out
  go_wp2_with fail
  refine (HH.out w19 HM19.out).mono ?_
  rintro e w20 ⟨rfl, hb20⟩
  have hB20 := bt hB19 hb20
  clear hb20 hB19 GB19 HM19 z0 z1 z2
  go_wp2
  go_ret
  exact ⟨rfl, hB20⟩
end
end Go.Proofs.YtmeojnaoljgieaeGreatDoor
