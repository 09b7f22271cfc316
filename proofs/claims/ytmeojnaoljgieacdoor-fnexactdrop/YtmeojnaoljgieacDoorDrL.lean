/-
  FnExactDrop: the law.
-/
import Derived.Test.YtmeojnaoljgieacDoorDrp
namespace Go.Proofs.YtmeojnaoljgieacDoor
open Go.RowKit
set_option linter.unusedVariables false

/-- A space's block and its owned rows. -/
structure Sp (w : World) (b lo hi : Nat) (v1 v2 : Value) (ss : List S2) (ts : List T2) : Prop where
  blk : w.heap[b]? = some (.cells #[v1, v2] 42 (0, 0))
  s : OwnS w lo hi v1 ss
  t : OwnT w lo hi v2 ts
theorem Sp.below {w w' : World} {b lo hi : Nat} {v1 v2 : Value} {ss : List S2} {ts : List T2} (h : Sp w b lo hi v1 v2 ss ts) (hb : Below w.heap.size w w') : Sp w' b lo hi v1 v2 ss ts :=
  ⟨by rw [hb.block _ (blkW_lt h.blk)]; exact h.blk, h.s.below hb, h.t.below hb⟩
theorem Sp.keep {w w' : World} {b lo hi lo' hi' : Nat} {v1 v2 : Value} {ss : List S2} {ts : List T2} (h : Sp w b lo hi v1 v2 ss ts) (hk : KeepR lo' hi' w w') (hb : b < lo' ∨ hi' ≤ b) (hd : hi ≤ lo' ∨ hi' ≤ lo) : Sp w' b lo hi v1 v2 ss ts :=
  ⟨by rw [hk b (blkW_lt h.blk) hb]; exact h.blk, h.s.keep hk hd, h.t.keep hk hd⟩
theorem Sp.c {w : World} {b lo hi : Nat} {v1 v2 : Value} {ss : List S2} {ts : List T2} (h : Sp w b lo hi v1 v2 ss ts) : w.cell? ⟨b, 0, none⟩ = some v1 ∧ w.cell? ⟨b, 1, none⟩ = some v2 :=
  ⟨by rw [Lib.cell_of_heap h.blk]; rfl, by rw [Lib.cell_of_heap h.blk]; rfl⟩
theorem Sp.new {w : World} {lo hi : Nat} {v1 v2 : Value} {ss : List S2} {ts : List T2} (h1 : OwnS w lo hi v1 ss) (h2 : OwnT w lo hi v2 ts) : Sp (w.alloc (.cells #[v1, v2] 42)) w.heap.size lo hi v1 v2 ss ts :=
  ⟨heapW_new _ _, h1.below ((Below.refl _ _).alloc (Nat.le_refl _) _), h2.below ((Below.refl _ _).alloc (Nat.le_refl _) _)⟩
theorem blk_c {w : World} {b T : Nat} {v1 v2 : Value} (h : w.heap[b]? = some (.cells #[v1, v2] T (0, 0))) : w.cell? ⟨b, 0, none⟩ = some v1 ∧ w.cell? ⟨b, 1, none⟩ = some v2 :=
  ⟨by rw [Lib.cell_of_heap h]; rfl, by rw [Lib.cell_of_heap h]; rfl⟩
theorem blk_below {w w' : World} {b : Nat} {o : Obj} (h : w.heap[b]? = some o) (hb : Below w.heap.size w w') : w'.heap[b]? = some o := by rw [hb.block _ (blkW_lt h)]; exact h
theorem blk_keep {w w' : World} {b lo hi : Nat} {o : Obj} (h : w.heap[b]? = some o) (hk : KeepR lo hi w w') (hb : b < lo ∨ hi ≤ b) : w'.heap[b]? = some o := by rw [hk b (blkW_lt h) hb]; exact h

theorem eqSpace_own {w : World} {lo hi lo' hi' : Nat} {v1 v2 u1 u2 : Value} {ss : List S2} {ts : List T2} (h1 : OwnS w lo hi v1 ss) (h2 : OwnT w lo hi v2 ts) (k1 : OwnS w lo' hi' u1 ss) (k2 : OwnT w lo' hi' u2 ts) (hs : SpSmall ss ts) :
    Calls Tryd.prog 18 #[.agg #[v1, v2], .agg #[u1, u2]] w fun e w' => Below w.heap.size w w' ∧ e = .returned (.bool true) := by
  obtain ⟨a1, p1, rfl, r1⟩ := h1.sl
  obtain ⟨a2, p2, rfl, r2⟩ := h2.sl
  obtain ⟨a3, p3, rfl, r3⟩ := k1.sl
  obtain ⟨a4, p4, rfl, r4⟩ := k2.sl
  exact eqSpace_same a1 a2 a3 a4 p1 p2 p3 p4 ss ts w r1 r2 r3 r4 hs
/-- What the marks of a space end at. -/
def kQ (ss : List S2) (ts : List T2) : Nat := kT (fun i => (tx ts i).code.length) (1 + 2 * ss.length) ts.length
theorem kQ_le {ss : List S2} {ts : List T2} (h : SpSmall ss ts) : kT (fun i => (tx ts i).code.length) (1 + 2 * ss.length) ts.length ≤ 800000000000000 := by
  have h1 := kT_bound (fun i => (tx ts i).code.length) (1 + 2 * ss.length) ts.length h.lc
  have h2 := h.ls
  have h3 := h.lt
  have h4 : ts.length * 3145729 ≤ 1048576 * 3145729 := Nat.mul_le_mul_right _ h3
  omega
def MkL (w : World) (lo hi : Nat) (v1 v2 : Value) (ss : List S2) (ts : List T2) : Prop := MkSp w lo hi 1 v1 v2 ss.length ts.length (fun i => (tx ts i).code.length)
theorem MkL.below {w w' : World} {lo hi : Nat} {v1 v2 : Value} {ss : List S2} {ts : List T2} (h : MkL w lo hi v1 v2 ss ts) (hb : Below w.heap.size w w') : MkL w' lo hi v1 v2 ss ts := MkSp.below h hb
theorem markSpace_sp {w : World} {lo hi : Nat} {v1 v2 : Value} {ss : List S2} {ts : List T2} (h1 : OwnS w lo hi v1 ss) (h2 : OwnT w lo hi v2 ts) (hB : lo ≤ w.heap.size) (hs : SpSmall ss ts) :
    Calls Tryd.prog 19 #[.agg #[v1, v2], .int .i64 1] w fun e w' => e = .returned (.int .i64 ((kQ ss ts : Nat) : Int)) ∧ Below lo w w' ∧ KeepR lo hi w w' ∧ MkL w' lo hi v1 v2 ss ts := by
  obtain ⟨xs, k1, _⟩ := h1
  obtain ⟨zs, cv, k2⟩ := h2
  exact markSpace_own lo hi ss.length ts.length 1 v1 v2 _ xs zs cv w k1 k2.rows hB hs.ls hs.lt hs.lc (Nat.le_refl _) (kQ_le hs)
theorem heldSpace_sp {w : World} {lo hi : Nat} {v1 v2 : Value} {ss : List S2} {ts : List T2} (h : MkL w lo hi v1 v2 ss ts) (hs : SpSmall ss ts) :
    Calls Tryd.prog 20 #[.agg #[v1, v2], .int .i64 1] w fun e w' => e = .returned (.int .i64 ((kQ ss ts : Nat) : Int)) ∧ Below w.heap.size w w' :=
  heldSpace_own lo hi ss.length ts.length 1 v1 v2 _ w h hs.ls hs.lt hs.lc (Nat.le_refl _) (kQ_le hs)
theorem implDrop_own {w w0 : World} {sa ta : Option Addr} {lo hi : Nat} {v1 v2 : Value} {ss : List S2} {ts : List T2} (t : ByteArray) (hT : Tab w) (h : SpOk w0 sa ss ta ts) (h1 : OwnS w lo hi v1 ss) (h2 : OwnT w lo hi v2 ts) (hs : SpSmall ss ts) (ht : t.size ≤ 9223372036854775807) :
    Calls Tryd.prog 30 #[.agg #[v1, v2], .string t] w fun e w' => Below w.heap.size w w' ∧ DropOut w.heap.size w' e ss ts t := by
  obtain ⟨a1, p1, rfl, r1⟩ := h1.sl
  obtain ⟨a2, p2, rfl, r2⟩ := h2.sl
  exact implDrop_any a1 a2 p1 p2 ss ts t w hT (h.move r1 r2) hs ht
theorem specDrop_own {w w0 : World} {sa ta : Option Addr} {lo hi : Nat} {v1 v2 : Value} {ss : List S2} {ts : List T2} (t : ByteArray) (h : SpOk w0 sa ss ta ts) (h1 : OwnS w lo hi v1 ss) (h2 : OwnT w lo hi v2 ts) (hs : SpSmall ss ts) (ht : t.size ≤ 9223372036854775807) :
    Calls Tryd.prog 29 #[.agg #[v1, v2], .string t] w fun e w' => Below w.heap.size w w' ∧ DropOut w.heap.size w' e ss ts t := by
  obtain ⟨a1, p1, rfl, r1⟩ := h1.sl
  obtain ⟨a2, p2, rfl, r2⟩ := h2.sl
  exact specDrop_any a1 a2 p1 p2 ss ts t w (h.move r1 r2) hs ht

set_option maxRecDepth 100000 in
set_option maxHeartbeats 8000000 in
theorem dropLaw (sa ta : Option Addr) (c1 c2 : Nat) (ss : List S2) (ts : List T2) (t : ByteArray) (w : World) (hT : Tab w) (h : SpOk w sa ss ta ts) (ht : t.size ≤ maxLen) :
    Calls Tryd.prog 7 #[.agg #[.slice sa ss.length c1, .slice ta ts.length c2], .string t] w fun e w' => e = .returned (.bool true) ∧ Below w.heap.size w w' := by
  have hb0 : Below w.heap.size w (w.alloc (.cells #[.slice sa ss.length c1, .slice ta ts.length c2] 37)) := (Below.refl _ _).alloc (Nat.le_refl _) _
  have HZ0 : Hid ((w.alloc (.cells #[.slice sa ss.length c1, .slice ta ts.length c2] 37)).heap[w.heap.size]? = some (.cells #[.slice sa ss.length c1, .slice ta ts.length c2] 37 (0, 0))) := heapW_new _ _
  have HO : Hid (SpOk w sa ss ta ts) := h
  have HT : Hid (Tab w) := hT
  clear h hT
  unfold maxLen at ht
  have ht2 : t.size ≤ 9223372036854775807 := by omega
  by_cases h20 : 1048576 < t.size
  · have d20 : decide ((1048576 : Int) < (t.size : Int)) = true := by simp; omega
    go_enter Tryd.func7, Tryd.ntmps7
    go_wp2
    go_ret
    exact ⟨rfl, hb0⟩
  have d20 : decide ((1048576 : Int) < (t.size : Int)) = false := by simp; omega
  go_enter Tryd.func7, Tryd.ntmps7
  go_wp2_with fail
  clear d20
  refine (szSpace_any sa ta c1 c2 ss ts _ (HO.out.below hb0)).mono ?_
  rintro e w1 ⟨hb1, r, rfl, hr⟩
  have hB1 := bt hb0 hb1
  have HZ1 : Hid (w1.heap[w.heap.size]? = _) := blk_below HZ0.out hb1
  clear hb0 hb1 HZ0
  rcases hr with hr | ⟨hsm, hr0⟩
  · go_wp2
    go_ret
    exact ⟨rfl, hB1⟩
  have hr0d : decide (r < 0) = false := by simp; omega
  obtain ⟨z0, z1⟩ := blk_c HZ1.out
  go_wp2_with fail
  clear hr0d
  refine (toSpace_own sa ta c1 c2 ss ts _ (HO.out.rs.below hB1) (HO.out.rt.below hB1) hsm).mono ?_
  rintro e w2 ⟨hb2, x1, x2, rfl, o1, o2⟩
  have hB2 := bt hB1 hb2
  have HZ2 : Hid (w2.heap[w.heap.size]? = _) := blk_below HZ1.out hb2
  clear z0 z1 hB1 hb2 HZ1
  go_wp2_with fail
  refine (specDrop_own t HO.out o1 o2 hsm ht2).mono ?_
  rintro e w3 ⟨hb3, v1, v2, rfl, q1, q2⟩
  obtain ⟨va, vc, rfl, _⟩ := q1.sl
  obtain ⟨vb, vd, rfl, _⟩ := q2.sl
  have hB3 := bt hB2 hb3
  obtain ⟨w4, e4⟩ : ∃ x, w3.alloc (.cells #[.slice va (dropS ss ts t).length vc, .slice vb (dropT ss ts t).length vd] 42) = x := ⟨_, rfl⟩
  have hb4 : Below w3.heap.size w3 w4 := by rw [← e4]; exact (Below.refl _ _).alloc (Nat.le_refl _) _
  have HV4 : Hid (Sp w4 w3.heap.size w2.heap.size w3.heap.size (.slice va (dropS ss ts t).length vc) (.slice vb (dropT ss ts t).length vd) (dropS ss ts t) (dropT ss ts t)) := by show Sp _ _ _ _ _ _ _ _; rw [← e4]; exact Sp.new q1 q2
  have hB4 := bt hB3 hb4
  have HZ4 : Hid (w4.heap[w.heap.size]? = _) := blk_below (blk_below HZ2.out hb3) hb4
  have hsz3 : w2.heap.size ≤ w3.heap.size := hb3.size
  have hsz4 : w3.heap.size < w4.heap.size := blkW_lt HV4.out.blk
  have hszw : w.heap.size < w2.heap.size := blkW_lt HZ2.out
  have hsm2 := drop_small ss ts t
  have HSM : Hid (SpSmall (dropS ss ts t) (dropT ss ts t)) := hsm2
  have HDR : Hid (∀ (W : World) (lo hi : Nat) (y1 y2 : Value), Tab W → OwnS W lo hi y1 ss → OwnT W lo hi y2 ts → Calls Tryd.prog 30 #[.agg #[y1, y2], .string t] W fun e w' => Below W.heap.size W w' ∧ ∃ v1 v2, e = .returned (.tuple #[.agg #[v1, v2], .int .i64 (dropC ss ts t)]) ∧ OwnS w' W.heap.size w'.heap.size v1 (dropS ss ts t) ∧ OwnT w' W.heap.size w'.heap.size v2 (dropT ss ts t)) := fun W lo hi y1 y2 k0 k1 k2 => implDrop_own t k0 HO.out k1 k2 hsm ht2
  have HTS : Hid (∀ W : World, Below w.heap.size w W → Calls Tryd.prog 16 #[.agg #[.slice sa ss.length c1, .slice ta ts.length c2]] W fun e w' => Below W.heap.size W w' ∧ ∃ v1 v2 : Value, e = .returned (.agg #[v1, v2]) ∧ OwnS w' W.heap.size w'.heap.size v1 ss ∧ OwnT w' W.heap.size w'.heap.size v2 ts) := fun W hW => toSpace_own sa ta c1 c2 ss ts W (HO.out.rs.below hW) (HO.out.rt.below hW) hsm
  have HSS : Hid (SpSmall ss ts) := hsm
  generalize dropS ss ts t = dS at *
  generalize dropT ss ts t = dT at *
  generalize dropC ss ts t = dC at *
  have hcc : (dC != dC) = false := by simp
  obtain ⟨z0, z1⟩ := blk_c HZ4.out
  clear hb3 hb4 q1 q2 o1 o2 hB2 hB3 HZ2 hsm2
  go_wp2_with fail
  clear e4
  refine (HTS.out w4 hB4).mono ?_
  rintro e w5 ⟨hb5, x1, x2, rfl, o1, o2⟩
  obtain ⟨xa, xc, rfl, _⟩ := o1.sl
  obtain ⟨xb, xd, rfl, _⟩ := o2.sl
  have hB5 := bt hB4 hb5
  obtain ⟨w6, e6⟩ : ∃ x, w5.alloc (.cells #[.slice xa ss.length xc, .slice xb ts.length xd] 42) = x := ⟨_, rfl⟩
  have hb6 : Below w5.heap.size w5 w6 := by rw [← e6]; exact (Below.refl _ _).alloc (Nat.le_refl _) _
  have HX6 : Hid (Sp w6 w5.heap.size w4.heap.size w5.heap.size (.slice xa ss.length xc) (.slice xb ts.length xd) ss ts) := by show Sp _ _ _ _ _ _ _ _; rw [← e6]; exact Sp.new o1 o2
  have HV6 : Hid (Sp w6 w3.heap.size w2.heap.size w3.heap.size _ _ dS dT) := (HV4.out.below hb5).below hb6
  have HZ6 : Hid (w6.heap[w.heap.size]? = _) := blk_below (blk_below HZ4.out hb5) hb6
  have hB6 := bt hB5 hb6
  have hsz5 : w4.heap.size ≤ w5.heap.size := hb5.size
  have hsz6 : w5.heap.size < w6.heap.size := blkW_lt HX6.out.blk
  clear hb5 hb6 o1 o2 hB4 hB5 HZ4 HV4 z0 z1
  obtain ⟨z0, z1⟩ := HX6.out.c
  go_wp2_with fail
  clear e6
  refine (HDR.out w6 _ _ _ _ (HT.out.below hB6) HX6.out.s HX6.out.t).mono ?_
  rintro e w7 ⟨hb7, g1, g2, rfl, o1, o2⟩
  obtain ⟨ga, gc, rfl, _⟩ := o1.sl
  obtain ⟨gb, gd, rfl, _⟩ := o2.sl
  have hB7 := bt hB6 hb7
  obtain ⟨w8, e8⟩ : ∃ x, w7.alloc (.cells #[.slice ga dS.length gc, .slice gb dT.length gd] 42) = x := ⟨_, rfl⟩
  have hb8 : Below w7.heap.size w7 w8 := by rw [← e8]; exact (Below.refl _ _).alloc (Nat.le_refl _) _
  have HG8 : Hid (Sp w8 w7.heap.size w6.heap.size w7.heap.size (.slice ga dS.length gc) (.slice gb dT.length gd) dS dT) := by show Sp _ _ _ _ _ _ _ _; rw [← e8]; exact Sp.new o1 o2
  have HX8 : Hid (Sp w8 w5.heap.size w4.heap.size w5.heap.size _ _ ss ts) := (HX6.out.below hb7).below hb8
  have HV8 : Hid (Sp w8 w3.heap.size w2.heap.size w3.heap.size _ _ dS dT) := (HV6.out.below hb7).below hb8
  have HZ8 : Hid (w8.heap[w.heap.size]? = _) := blk_below (blk_below HZ6.out hb7) hb8
  have hB8 := bt hB7 hb8
  have hsz7 : w6.heap.size ≤ w7.heap.size := hb7.size
  have hsz8 : w7.heap.size < w8.heap.size := blkW_lt HG8.out.blk
  clear hb7 hb8 o1 o2 hB6 hB7 HZ6 HV6 HX6 z0 z1
  obtain ⟨z0, z1⟩ := HG8.out.c
  obtain ⟨y0, y1⟩ := HV8.out.c
  go_wp2_with fail
  clear e8
  refine (eqSpace_own HG8.out.s HG8.out.t HV8.out.s HV8.out.t HSM.out).mono ?_
  rintro e w9 ⟨hb9, rfl⟩
  have hB9 := bt hB8 hb9
  have HG9 : Hid (Sp w9 w7.heap.size w6.heap.size w7.heap.size _ _ dS dT) := HG8.out.below hb9
  have HX9 : Hid (Sp w9 w5.heap.size w4.heap.size w5.heap.size _ _ ss ts) := HX8.out.below hb9
  have HV9 : Hid (Sp w9 w3.heap.size w2.heap.size w3.heap.size _ _ dS dT) := HV8.out.below hb9
  have HZ9 : Hid (w9.heap[w.heap.size]? = _) := blk_below HZ8.out hb9
  have hsz9 : w8.heap.size ≤ w9.heap.size := hb9.size
  clear hb9 hB8 HG8 HX8 HV8 HZ8 z0 z1 y0 y1
  obtain ⟨z0, z1⟩ := HX9.out.c
  obtain ⟨y0, y1⟩ := blk_c HZ9.out
  have hbd9 : Below w9.heap.size w9 w9.drew := (Below.refl _ _).drew
  go_wp2_with fail
  go_region_held3 (fun w' => w'.cell? ⟨w5.heap.size, 0, none⟩ = some (.slice xa ss.length xc) ∧ w'.cell? ⟨w5.heap.size, 1, none⟩ = some (.slice xb ts.length xd) ∧ w'.cell? ⟨w.heap.size, 0, none⟩ = some (.slice sa ss.length c1) ∧ w'.cell? ⟨w.heap.size, 1, none⟩ = some (.slice ta ts.length c2))
    (first | exact ⟨z0, z1, y0, y1⟩ | (with_reducible exact ⟨cell_below hb11 s0, cell_below hb11 s1, cell_below hb11 s2, cell_below hb11 s3⟩) | (with_reducible exact ⟨s0, s1, s2, s3⟩))
    (first | (go_at_call 16; refine (HTS.out _ hB9.drew).mono ?_; rintro e w10 ⟨hb10, f1, f2, rfl, of1, of2⟩; have s0 := cell_below (bt hbd9 hb10) z0; have s1 := cell_below (bt hbd9 hb10) z1; have s2 := cell_below (bt hbd9 hb10) y0; have s3 := cell_below (bt hbd9 hb10) y1; have HX10 : Hid (Sp w10 w5.heap.size w4.heap.size w5.heap.size _ _ ss ts) := HX9.out.below (bt hbd9 hb10)) | (go_at_call 18; refine (eqSpace_own HX10.out.s HX10.out.t of1 of2 HSS.out).mono ?_; rintro e w11 ⟨hb11, rfl⟩))
  have hb911 : Below w9.heap.size w9 w11 := bt (bt hbd9 hb10) hb11
  have hB11 := bt hB9 hb911
  have HG11 : Hid (Sp w11 w7.heap.size w6.heap.size w7.heap.size _ _ dS dT) := HG9.out.below hb911
  have HX11 : Hid (Sp w11 w5.heap.size w4.heap.size w5.heap.size _ _ ss ts) := HX9.out.below hb911
  have HV11 : Hid (Sp w11 w3.heap.size w2.heap.size w3.heap.size _ _ dS dT) := HV9.out.below hb911
  have HZ11 : Hid (w11.heap[w.heap.size]? = _) := blk_below HZ9.out hb911
  have hsz11 : w9.heap.size ≤ w11.heap.size := hb911.size
  clear hb911 hb10 hb11 hbd9 hB9 HG9 HX9 HV9 HZ9 HX10 of1 of2 z0 z1 y0 y1 s0 s1 s2 s3
  obtain ⟨z0, z1⟩ := HX11.out.c
  go_wp2_with fail
  refine (markSpace_sp HX11.out.s HX11.out.t (by omega) HSS.out).mono ?_
  rintro e w12 ⟨rfl, hb12, hk12, _⟩
  have hB12 : Below w.heap.size w w12 := hB11.trans (hb12.mono (by omega))
  have HG12 : Hid (Sp w12 w7.heap.size w6.heap.size w7.heap.size _ _ dS dT) := HG11.out.keep hk12 (Or.inr (by omega)) (Or.inr (by omega))
  have HV12 : Hid (Sp w12 w3.heap.size w2.heap.size w3.heap.size _ _ dS dT) := HV11.out.keep hk12 (Or.inl (by omega)) (Or.inl (by omega))
  have HZ12 : Hid (w12.heap[w.heap.size]? = _) := blk_keep HZ11.out hk12 (Or.inl (by omega))
  have hsz12 : w11.heap.size ≤ w12.heap.size := hb12.size
  clear hb12 hk12 hB11 HG11 HX11 HV11 HZ11 z0 z1
  have hk0 : decide (((kQ ss ts : Nat) : Int) < 0) = false := by simp
  generalize kQ ss ts = K1 at *
  obtain ⟨z0, z1⟩ := HG12.out.c
  obtain ⟨y0, y1⟩ := HV12.out.c
  go_wp2_with fail
  clear hk0
  refine (eqSpace_own HG12.out.s HG12.out.t HV12.out.s HV12.out.t HSM.out).mono ?_
  rintro e w13 ⟨hb13, rfl⟩
  have hB13 := bt hB12 hb13
  have HG13 : Hid (Sp w13 w7.heap.size w6.heap.size w7.heap.size _ _ dS dT) := HG12.out.below hb13
  have HV13 : Hid (Sp w13 w3.heap.size w2.heap.size w3.heap.size _ _ dS dT) := HV12.out.below hb13
  have HZ13 : Hid (w13.heap[w.heap.size]? = _) := blk_below HZ12.out hb13
  have hsz13 : w12.heap.size ≤ w13.heap.size := hb13.size
  clear hb13 hB12 HG12 HV12 HZ12 z0 z1 y0 y1
  obtain ⟨z0, z1⟩ := HG13.out.c
  go_wp2_with fail
  refine (markSpace_sp HG13.out.s HG13.out.t (by omega) HSM.out).mono ?_
  rintro e w14 ⟨rfl, hb14, hk14, hm14⟩
  have hB14 : Below w.heap.size w w14 := hB13.trans (hb14.mono (by omega))
  have GB14 : Hid (w14.heap[w7.heap.size]? = _) := blk_keep HG13.out.blk hk14 (Or.inr (Nat.le_refl _))
  have HV14 : Hid (Sp w14 w3.heap.size w2.heap.size w3.heap.size _ _ dS dT) := HV13.out.keep hk14 (Or.inl (by omega)) (Or.inl (by omega))
  have HZ14 : Hid (w14.heap[w.heap.size]? = _) := blk_keep HZ13.out hk14 (Or.inl (by omega))
  have HM14 : Hid (MkL w14 w6.heap.size w7.heap.size (.slice ga dS.length gc) (.slice gb dT.length gd) dS dT) := hm14
  clear hb14 hk14 hm14 hB13 HG13 HV13 HZ13 z0 z1
  have hk0 : decide (((kQ dS dT : Nat) : Int) < 0) = false := by simp
  have hkk : (((kQ dS dT : Nat) : Int) != ((kQ dS dT : Nat) : Int)) = false := by simp
  have HH : Hid (∀ W : World, MkL W w6.heap.size w7.heap.size (.slice ga dS.length gc) (.slice gb dT.length gd) dS dT → Calls Tryd.prog 20 #[.agg #[.slice ga dS.length gc, .slice gb dT.length gd], .int .i64 1] W fun e w' => e = .returned (.int .i64 ((kQ dS dT : Nat) : Int)) ∧ Below W.heap.size W w') := fun W hW => heldSpace_sp hW HSM.out
  generalize kQ dS dT = K2 at *
  obtain ⟨z0, z1⟩ := blk_c GB14.out
  go_wp2_with fail
  refine (HH.out w14 HM14.out).mono ?_
  rintro e w15 ⟨rfl, hb15⟩
  have hB15 := bt hB14 hb15
  have GB15 : Hid (w15.heap[w7.heap.size]? = _) := blk_below GB14.out hb15
  have HV15 : Hid (Sp w15 w3.heap.size w2.heap.size w3.heap.size _ _ dS dT) := HV14.out.below hb15
  have HZ15 : Hid (w15.heap[w.heap.size]? = _) := blk_below HZ14.out hb15
  have HM15 : Hid (MkL w15 w6.heap.size w7.heap.size (.slice ga dS.length gc) (.slice gb dT.length gd) dS dT) := HM14.out.below hb15
  clear hb15 hB14 GB14 HV14 HZ14 HM14 z0 z1
  obtain ⟨z0, z1⟩ := blk_c HZ15.out
  go_wp2_with fail
  refine (HTS.out w15 hB15).mono ?_
  rintro e w16 ⟨hb16, x1, x2, rfl, o1, o2⟩
  have hB16 := bt hB15 hb16
  have HB16 : Hid (Below w15.heap.size w15 w16) := hb16
  clear hb16 z0 z1
  go_wp2_with fail
  refine (HDR.out w16 _ _ _ _ (HT.out.below hB16) o1 o2).mono ?_
  rintro e w17 ⟨hb17, h1, h2, rfl, p1, p2⟩
  obtain ⟨ha, hc, rfl, _⟩ := p1.sl
  obtain ⟨hb, hd, rfl, _⟩ := p2.sl
  have hB17 := bt hB16 hb17
  obtain ⟨w18, e18⟩ : ∃ x, w17.alloc (.cells #[.slice ha dS.length hc, .slice hb dT.length hd] 42) = x := ⟨_, rfl⟩
  have hb18 : Below w17.heap.size w17 w18 := by rw [← e18]; exact (Below.refl _ _).alloc (Nat.le_refl _) _
  have hb1518 : Below w15.heap.size w15 w18 := bt (bt HB16.out hb17) hb18
  have HH18 : Hid (Sp w18 w17.heap.size w16.heap.size w17.heap.size (.slice ha dS.length hc) (.slice hb dT.length hd) dS dT) := by show Sp _ _ _ _ _ _ _ _; rw [← e18]; exact Sp.new p1 p2
  have GB18 : Hid (w18.heap[w7.heap.size]? = _) := blk_below GB15.out hb1518
  have HV18 : Hid (Sp w18 w3.heap.size w2.heap.size w3.heap.size _ _ dS dT) := HV15.out.below hb1518
  have HM18 : Hid (MkL w18 w6.heap.size w7.heap.size (.slice ga dS.length gc) (.slice gb dT.length gd) dS dT) := HM15.out.below hb1518
  have hB18 := bt hB17 hb18
  clear hb1518 hb17 hb18 HB16 p1 p2 o1 o2 hB15 hB16 hB17 GB15 HV15 HM15 HZ15
  obtain ⟨z0, z1⟩ := HH18.out.c
  obtain ⟨y0, y1⟩ := HV18.out.c
  go_wp2_with fail
  clear e18
  refine (eqSpace_own HH18.out.s HH18.out.t HV18.out.s HV18.out.t HSM.out).mono ?_
  rintro e w19 ⟨hb19, rfl⟩
  have hB19 := bt hB18 hb19
  have GB19 : Hid (w19.heap[w7.heap.size]? = _) := blk_below GB18.out hb19
  have HM19 : Hid (MkL w19 w6.heap.size w7.heap.size (.slice ga dS.length gc) (.slice gb dT.length gd) dS dT) := HM18.out.below hb19
  clear hb19 hB18 HH18 HV18 GB18 HM18 z0 z1 y0 y1
  obtain ⟨z0, z1⟩ := blk_c GB19.out
  go_wp2_with fail
  refine (HH.out w19 HM19.out).mono ?_
  rintro e w20 ⟨rfl, hb20⟩
  have hB20 := bt hB19 hb20
  clear hb20 hB19 GB19 HM19 z0 z1
  go_wp2
  go_ret
  exact ⟨rfl, hB20⟩

end Go.Proofs.YtmeojnaoljgieacDoor
