import Derived.Test.YtmanoabocelpeaaGreatDoorTImE
namespace Go.Proofs.YtmanoabocelpeaaGreatDoor
open Go.RowKit
set_option linter.unusedVariables false
set_option maxHeartbeats 8000000
set_option maxRecDepth 100000
section
open Go.Deep
structure NI (W0 : World) (h mb : Nat) (sv tv fv cd : Value) (ss : List S2) (ts : List T2) (is : List I3) (w : World) (ms : Ms) (st : List ByteArray) (av kv : Value) (vs : ByteArray -> Value) (Bm m T X R : Nat)
  (ys : List R3) (ls : List G3) (m1 : Ms) (av1 kv1 : Value) (vs1 : ByteArray -> Value) (lv : Value) (c : Int) (t : ByteArray) (ask : Bool) (nm : ByteArray) (stp : Int) (y y' : R3) (f : ByteArray) (wr : World) : Prop where
 ma : Mkr W0.heap.size h mb sv tv fv wr m1 st av1 kv1 vs1
 inv : Inv ss ts m1 st
 phi : phi ts m1 <= -199 + ((ys ++ [y']).length : Int)
 ro : RunOk is (ys ++ [y']) (ls ++ [⟨nm, ask, f⟩])
 dd : ∀ ms' a, Does ss ts m1 st (.run is (ys ++ [y']) (ls ++ [⟨nm, ask, f⟩])) ms' a -> Does ss ts ms st (.run is [] []) ms' a
 gn : Gn is ys Bm m T cd false c t ask nm stp wr
 tb : wr.heap[X]? = some (.cells #[.bool false, .int .i64 c, .string t, .bool ask, .string nm, .int .i64 stp] 44 (0, 0))
 rb : wr.heap[R]? = some (.cells #[.int .i64 0, .string ⟨#[]⟩, .slice none 0 0] 32 (0, 0))
 lo : wr.ownsRow w.heap.size 47 3 lv ls.length (gCx ls)
 ap : ∀ x d b, lk m1 x = some (some d) -> lv.ownBlock = some b -> (vs1 x).ownBlock ≠ some b
 kp : KP W0.heap.size h mb av kv w wr
 ra : Row2 w av av1
 rk : Row2 w kv kv1
 fr : FrN w ms vs m1 vs1
 no : ∀ b, (av1.ownBlock = some b \/ kv1.ownBlock = some b) -> NotOwn wr m b
 yt : y.text.size <= 2000
 yy : ∀ nm s, ansP ask nm y s = ansP ask nm y' s
theorem NI.below {W0 : World} {h mb : Nat} {sv tv fv cd : Value} {ss : List S2} {ts : List T2} {is : List I3} {w : World} {ms : Ms} {st : List ByteArray} {av kv : Value} {vs : ByteArray -> Value} {Bm m T X R : Nat}
  {ys : List R3} {ls : List G3} {m1 : Ms} {av1 kv1 : Value} {vs1 : ByteArray -> Value} {lv : Value} {c : Int} {t : ByteArray} {ask : Bool} {nm : ByteArray} {stp : Int} {y y' : R3} {f : ByteArray} {wr w' : World} (r : NI W0 h mb sv tv fv cd ss ts is w ms st av kv vs Bm m T X R ys ls m1 av1 kv1 vs1 lv c t ask nm stp y y' f wr) (hb : Below wr.heap.size wr w') (hB : W0.heap.size <= wr.heap.size) : NI W0 h mb sv tv fv cd ss ts is w ms st av kv vs Bm m T X R ys ls m1 av1 kv1 vs1 lv c t ask nm stp y y' f w' :=
 ⟨r.ma.below hb, r.inv, r.phi, r.ro, r.dd, r.gn.below hb, blk_keep hb r.tb, blk_keep hb r.rb, ownsRow_below r.lo hb, r.ap, r.kp.after hb hB, r.ra, r.rk, r.fr, fun b q => (r.no b q).congr (hb.block m r.gn.2.2.2.1), r.yt, r.yy⟩
theorem look_any (W0 : World) (h mb : Nat) (sa ta : Option Addr) (c1 c2 : Nat) (fv cd : Value) (ss : List S2) (ts : List T2) (is : List I3) (w : World) (ms : Ms) (st : List ByteArray) (av kv : Value) (vs : ByteArray -> Value) (Bm m T X R : Nat)
  (ys : List R3) (ls : List G3) (m1 : Ms) (av1 kv1 : Value) (vs1 : ByteArray -> Value) (lv : Value) (c : Int) (t : ByteArray) (ask : Bool) (nm : ByteArray) (stp : Int) (wr : World) (hE : EnvS W0 sa ta ss ts) (hU : UnderAt W0 h mb (.slice sa ss.length c1) (.slice ta ts.length c2) fv ss ts st) (hW : Below W0.heap.size W0 wr) (C : RC W0 h mb w Bm m T X R)
  (r : RI W0 h mb (.slice sa ss.length c1) (.slice ta ts.length c2) fv cd ss ts is w ms st av kv vs Bm m T X R ys ls m1 av1 kv1 vs1 lv false c t ask nm stp wr) :
  Calls Tryz.prog 87 #[.pointer (some ⟨h, 0, none⟩), .string nm, .bool ask] wr fun e w' => (∃ m2 av2 kv2 vs2 y y' f, e = .returned (.tuple #[.agg #[.bool y.has, .int .i64 y.code, .string y.text], .string f]) /\ NI W0 h mb (.slice sa ss.length c1) (.slice ta ts.length c2) fv cd ss ts is w ms st av kv vs Bm m T X R ys ls m2 av2 kv2 vs2 lv c t ask nm stp y y' f w') \/ (∃ v ms' a, e = panV v /\ KP W0.heap.size h mb av kv w w' /\ Does ss ts ms st (.run is [] []) ms' a /\ EndV W0.heap.size w' a v) := by
 obtain ⟨n, hful⟩ : ∃ n, Full is ys s00 (.wait ask nm n) := by
  rcases r.gn.2.2.2.2.full with ⟨q, _⟩ | ⟨_, n, q⟩
  ·cases q
  ·exact ⟨n, q⟩
 obtain ⟨hlt, hnm⟩ := r.ro.wait hful
 have hB := hW.size
 cases ask with
 | false =>
  refine (look_has W0 h mb 0 sa ta c1 c2 fv ss ts m1 st (nms m1) av1 kv1 vs1 nm wr hE r.ma hW).mono ?_
  rintro e w' ⟨rfl, hb⟩
  have r' := r.below hb hB
  exact Or.inl ⟨m1, av1, kv1, vs1, ⟨thingB ss ts nm, 0, ⟨#[]⟩⟩, ⟨thingB ss ts nm, 0, ⟨#[]⟩⟩, flagB (thingB ss ts nm), rfl, r'.ma, r.inv, by have := r.phi; simp; omega, r.ro.has _ _, fun ms' a k => r.dd _ _ (.has hful k), r'.gn, r'.tb, r'.rb, r'.lo, r'.ap, r'.kp, r'.ra, r'.rk, r'.fr, r'.no rfl, (by decide : (⟨#[]⟩ : ByteArray).size <= 2000), fun _ _ => rfl⟩
 | true =>
  refine (look_ask W0 h mb sa ta c1 c2 fv ss ts m1 st av1 kv1 vs1 nm wr hE r.ma hW hU r.inv hnm (by have := r.phi; omega)).mono ?_
  rintro e w' ⟨hk, ms', an, hdo, ⟨d, av', kv', vs', rfl, rfl, hs, ha, hkk, hf⟩ | ⟨v, rfl, hv⟩⟩
  ·obtain ⟨g1, g2, g3, g4, g5, g6, g7, g8, g9, g10⟩ := r.looked C hk hs ha hkk hf
   obtain ⟨hi2, hpre, hlk0⟩ := Does.inv hE.v hdo r.inv hnm trivial d rfl
   have hmd := hi2.done nm d hlk0
   have hph := Does.phi_le hE.v hdo hnm r.inv trivial
   refine Or.inl ⟨ms', av', kv', vs', ⟨thingB ss ts nm, d.c, d.t⟩, repP ss ts nm d, formB d.c d.t, rfl, hs, hi2, ?_, r.ro.asked hmd _, fun ms'' a k => r.dd _ _ (.asked hful hdo k), g1, g2, g3, g4, g5, g6, g7, g8, g9, g10, hmd.t2, ?_⟩
   ·have := r.phi
    simp only at hph
    simp
    omega
   ·intro nm' s
    unfold repP ansP
    cases thingB ss ts nm <;> simp
  ·exact Or.inr ⟨v, ms', an, rfl, r.kp.trans r.ra r.rk hk, r.dd _ _ (.askfell hful hdo hv.stop), hv⟩
theorem makerRun_any (W0 : World) (h mb : Nat) (sa ta a : Option Addr) (c1 c2 cap : Nat) (fv : Value) (ss : List S2) (ts : List T2) (is : List I3) (tn : ByteArray) (ms : Ms) (st : List ByteArray) (av kv : Value) (vs : ByteArray -> Value) (w : World) (hE : EnvS W0 sa ta ss ts)
  (hU : UnderAt W0 h mb (.slice sa ss.length c1) (.slice ta ts.length c2) fv ss ts st) (s : Mkr W0.heap.size h mb (.slice sa ss.length c1) (.slice ta ts.length c2) fv w ms st av kv vs) (hi : Inv ss ts ms st) (hp : phi ts ms <= -199) (hW : Below W0.heap.size W0 w) (hr : Row3 W0 a is) (hv : progOk is = true) (hT : Tab W0) (hP : P10 W0) :
  Calls Tryz.prog 64 #[.pointer (some ⟨h, 0, none⟩), .agg #[.string tn, .slice a is.length cap]] w fun e w' => RunI W0.heap.size h mb (.slice sa ss.length c1) (.slice ta ts.length c2) fv ss ts ms st av kv vs is w e w' := by
 have hBw : W0.heap.size <= w.heap.size := hW.size
 have hhw : h < w.heap.size := blk_lt s.blk
 obtain ⟨n0, _, hmap0⟩ := s.map
 have hmw : mb < w.heap.size := hmap0.lt
 obtain ⟨W, eW⟩ : ∃ W, ((w.alloc (.cells #[.string tn, .slice a is.length cap] 63)).alloc (.cells #[.int .i64 0, .string ⟨#[]⟩, .slice none 0 0] 32)) = W := ⟨_, rfl⟩
 have hb0 : Below w.heap.size w W := by rw [<- eW]; exact below_trans (alloc_below _ _) (alloc_below _ _)
 have HRB : Hid (W.heap[w.heap.size + 1]? = some (.cells #[.int .i64 0, .string ⟨#[]⟩, .slice none 0 0] 32 (0, 0))) := by
  show _ = _
  rw [<- eW]
  have h := heap_new (w.alloc (.cells #[.string tn, .slice a is.length cap] 63)) (.cells #[.int .i64 0, .string ⟨#[]⟩, .slice none 0 0] 32)
  rw [show (w.alloc (.cells #[.string tn, .slice a is.length cap] 63)).heap.size = w.heap.size + 1 from by simp] at h
  exact h
 have k1 : W.cell? ⟨w.heap.size, 1, none⟩ = some (.slice a is.length cap) := by rw [<- eW]; simp [go_sem]
 have HB0 : Hid (Below w.heap.size w W) := hb0
 have hbw : Below W0.heap.size W0 W := hW.trans (hb0.mono hBw)
 have HBG : Hid (Calls Tryz.prog 86 #[.agg #[.slice a is.length cap]] W fun e w' => Below W.heap.size W w' /\ ∃ B m T ov c t ask nm st, W.heap.size <= B /\ B <= w'.heap.size /\ e = .returned (.tuple #[turnV ov c t ask nm st, .func (.func 97) #[] #[.pointer (some ⟨m, 0, none⟩), .pointer (some ⟨T, 0, none⟩)]]) /\ Gn is [] B m T (.slice a is.length cap) ov c t ask nm st w') := begin_any a cap is W (hT.below hbw) (hP.below hbw) (hr.below hbw) hv
 have HS : Hid (Mkr W0.heap.size h mb (.slice sa ss.length c1) (.slice ta ts.length c2) fv w ms st av kv vs) := s
 have HU : Hid (UnderAt W0 h mb (.slice sa ss.length c1) (.slice ta ts.length c2) fv ss ts st) := hU
 have HE : Hid (EnvS W0 sa ta ss ts) := hE
 have HW : Hid (Below W0.heap.size W0 w) := hW
 have HRW : Hid (Row3 W0 a is) := hr
 have HV : Hid (progOk is = true) := hv
 have HTP : Hid (Tab W0 /\ P10 W0) := ⟨hT, hP⟩
 have HI : Hid (Inv ss ts ms st /\ phi ts ms <= -199) := ⟨hi, hp⟩
 clear hU s hi hp hW hr hv hT hP hb0 hbw hmap0 hE
 go_enter Tryz.func64, Tryz.ntmps64
 go_wp2_with fail
 refine HBG.out.mono ?_
 rintro e w2 ⟨hb2, Bm, m, T, ov, c, t, ask, nm, stp, hBW, hBw2, rfl, hgn⟩
 unfold turnV
 dsimp only
 obtain ⟨V, eV⟩ : ∃ V, w2.alloc (.cells #[.bool ov, .int .i64 c, .string t, .bool ask, .string nm, .int .i64 stp] 44) = V := ⟨_, rfl⟩
 have hbV : Below w2.heap.size w2 V := by rw [<- eV]; exact alloc_below _ _
 have hsW := HB0.out.size
 have HC : Hid (RC W0 h mb w Bm m T w2.heap.size (w.heap.size + 1)) := ⟨hBw, hhw, hmw, by omega, by have := blk_lt hgn.1; omega, by have := hb2.size; omega, by omega, by have := hgn.2.2.2.1; omega⟩
 have HRI : Hid (RI W0 h mb (.slice sa ss.length c1) (.slice ta ts.length c2) fv (.slice a is.length cap) ss ts is w ms st av kv vs Bm m T w2.heap.size (w.heap.size + 1) [] [] ms av kv vs (.slice none 0 0) ov c t ask nm stp V) := by
  have hbA : Below w.heap.size w V := below_trans (below_trans HB0.out hb2) hbV
  have hg := hgn.below hbV
  refine ⟨HS.out.below hbA, HI.out.1, by have := HI.out.2; simpa using this, ⟨HV.out, fun i hi => by simp at hi, rfl⟩, fun _ _ k => k, hg, ?_, blk_keep hbV (blk_keep hb2 HRB.out), ⟨rfl, Or.inl ⟨rfl, rfl⟩⟩, fun x d b _ q => by simp [Value.ownBlock] at q, KP.old hbA hBw, Row2.refl _ _, Row2.refl _ _, FrN.refl _ _ _, ?_⟩
  ·rw [<- eV]; exact heap_new _ _
  ·rintro rfl b q v e q2
   obtain ⟨_, v', _, _, e', hrow⟩ := hg.mach
   rw [e] at e'; cases e'
   have q3 := (hrow b q2.symm).1
   rcases q with q | q
   ·have := (own_lt HS.out.ask b q).2; omega
   ·have := (own_lt HS.out.stk b q).2; omega
 have HBB : Hid (1 < Bm) := by have := HTP.out.2.two; have := HC.out.h4; show _ < _; omega
 clear hb2 hgn hbV HI HS HRB k1 HBG
 go_wp2_with fail
 go_loopw [6] (fun v wr => ∃ (ys : List R3) (ls : List G3) (m1 : Ms) (av1 kv1 : Value) (vs1 : ByteArray -> Value) (la : Option Addr) (lc : Nat) (ov : Bool) (c : Int) (t : ByteArray) (ask : Bool) (nm : ByteArray) (stp : Int), v = .slice la ls.length lc /\ Hid (RI W0 h mb (.slice sa ss.length c1) (.slice ta ts.length c2) fv (.slice a is.length cap) ss ts is w ms st av kv vs Bm m T w2.heap.size (w.heap.size + 1) ys ls m1 av1 kv1 vs1 (.slice la ls.length lc) ov c t ask nm stp wr)) (fun v _ => 201 - lenV v)
 case atStart => exact ⟨[], [], ms, av, kv, vs, none, 0, ov, c, t, ask, nm, stp, rfl, HRI.out⟩
 case round =>
  clear HRI
  obtain ⟨ys, ls, m1, av1, kv1, vs1, la, lc, ov, c, t, ask, nm, stp, rfl, HR⟩ := hrel
  obtain ⟨x0, x1, x2, x3, x4, x5, xf⟩ := six_cells HR.out.tb
  cases ov with
  | true =>
   obtain ⟨n, hful⟩ : ∃ n, Full is ys s00 (.over c t n) := by
    rcases HR.out.gn.2.2.2.2.full with ⟨_, n, q⟩ | ⟨q, _⟩
    ·exact ⟨n, q⟩
    ·cases q
   have HDN : Hid (Does ss ts ms st (.run is [] []) m1 (.ok ⟨c, t, ls⟩)) := HR.out.dd _ _ (.over hful)
   clear hful
   obtain ⟨U, eU⟩ : ∃ U, wr.drew = U := ⟨_, rfl⟩
   have hbU : Below wr.heap.size wr U := by rw [<- eU]; exact (Below.refl _ _).drew
   have HRU := HR.out.below hbU (by have := HR.out.kp.below.size; omega)
   obtain ⟨y0, y1, y2, y3, y4, y5, yf⟩ := six_cells HRU.tb
   obtain ⟨z0, z1, z2, zf⟩ := bk3 HRU.rb
   have HU2 : Hid (RI W0 h mb (.slice sa ss.length c1) (.slice ta ts.length c2) fv (.slice a is.length cap) ss ts is w ms st av kv vs Bm m T w2.heap.size (w.heap.size + 1) ys ls m1 av1 kv1 vs1 (.slice la ls.length lc) true c t ask nm stp U) := HRU
   have hXR : ¬ w2.heap.size = w.heap.size + 1 := fun e => by
    have q := HRU.rb
    rw [<- e, HRU.tb] at q
    injection q with q; injection q with _ q; exact absurd q (by decide)
   clear hbU HRU
   go_upto_region 7 with fail
   go_region
   clear eU
   go_wp2_with fail
   have hR := HU2.out
   obtain ⟨v0, v1, v2, _⟩ := bk3 (set3_at hR.rb (.int .i64 c) (.string t) (.slice none 0 0))
   exact bodyPost_ret (v := .tuple #[.slice la ls.length lc, .agg #[.int .i64 c, .string t, .slice none 0 0]]) (by simp [results, Tryz.results64, go_sem, v0, v1, v2]) rfl ⟨hR.kp.set3 (by omega) (by omega) _ _ _, m1, _, HDN.out, Or.inl ⟨⟨c, t, ls⟩, _, av1, kv1, vs1, rfl, rfl, ⟨(looks_of hR.lo hBw).keptB (fun b q => set3_ne (fun e => by subst e; exact own_ne_cells hR.lo (by decide) hR.rb q) _ _ _), fun b q => (hR.lo.lt b q).1⟩, hR.ma.set3 hR.rb (by decide) (by decide) (by omega) _ _ _, hR.ra, hR.rk, hR.fr⟩⟩
  | false =>
   obtain ⟨rfl, rfl⟩ : c = 0 /\ t = ⟨#[]⟩ := by
    rcases HR.out.gn.2.2.2.2 with ⟨q, _⟩ | ⟨_, q1, q2, _⟩
    ·cases q
    ·exact ⟨q1, q2⟩
   have HLE : Hid (ls.length < 200) := by
    obtain ⟨n, hful⟩ : ∃ n, Full is ys s00 (.wait ask nm n) := by
     rcases HR.out.gn.2.2.2.2.full with ⟨q, _⟩ | ⟨_, n, q⟩
     ·cases q
     ·exact ⟨n, q⟩
    have h1 := (HR.out.ro.wait hful).1
    have h2 := HR.out.ro.eq
    show _ < _
    omega
   have hl200 : ls.length < 200 := HLE.out
   have HL := look_any W0 h mb sa ta c1 c2 fv (.slice a is.length cap) ss ts is w ms st av kv vs Bm m T w2.heap.size (w.heap.size + 1) ys ls m1 av1 kv1 vs1 (.slice la ls.length lc) 0 ⟨#[]⟩ ask nm stp wr HE.out HU.out (HW.out.trans (HR.out.kp.below)) HC.out HR.out
   clear HR
   go_wp2_with fail
   refine HL.mono ?_
   clear x0 x1 x2 x3 x4 x5 xf HL
   rintro e w3 (⟨m2, av2, kv2, vs2, ⟨yh, yc, yt⟩, y', f, rfl, hN⟩ | ⟨v, ms', an, rfl, hkp, hdo, hv⟩)
   ·dsimp only
    obtain ⟨V3, eV3⟩ : ∃ V3, w3.alloc (.cells #[.bool yh, .int .i64 yc, .string yt] 49) = V3 := ⟨_, rfl⟩
    have hb3 : Below w3.heap.size w3 V3 := by rw [<- eV3]; exact alloc_below _ _
    have hw3 : w.heap.size <= w3.heap.size := hN.kp.below.size
    have HN : Hid (NI W0 h mb (.slice sa ss.length c1) (.slice ta ts.length c2) fv (.slice a is.length cap) ss ts is w ms st av kv vs Bm m T w2.heap.size (w.heap.size + 1) ys ls m2 av2 kv2 vs2 (.slice la ls.length lc) 0 ⟨#[]⟩ ask nm stp ⟨yh, yc, yt⟩ y' f V3) := hN.below hb3 (by omega)
    have HY : Hid (V3.heap[w3.heap.size]? = some (.cells #[.bool yh, .int .i64 yc, .string yt] 49 (0, 0))) := by
     show _ = _
     rw [<- eV3]; exact heap_new _ _
    have hV3 : w3.heap.size <= V3.heap.size := hb3.size
    obtain ⟨x0, x1, x2, x3, x4, x5, xf⟩ := six_cells HN.out.tb
    obtain ⟨i0, hi0, hz0, hz1, hz2⟩ := info_parts Tryz.info47
    have HLA : Hid (∀ o : Obj, (V3.alloc o).ownsRow w.heap.size 47 3 (.slice la ls.length lc) ls.length (gCx ls)) := fun o => HN.out.lo.alloc o
    clear hb3 hN
    go_upto_region 6 with (at_builtin; refine wpList_append_lies _ rfl (.tmp 29) (.tmp 36) 29 rfl w.heap.size 47 i0 (.agg #[.string ⟨#[]⟩, .bool false, .string ⟨#[]⟩]) 3 40 Tryz.underlying29 hi0 hz0 hz1 hz2 rfl (by decide) _ ls.length (gCx ls) rfl (HLA.out _) ⟨V3.heap.size, 0, none⟩ 1 1 [.string nm, .bool ask, .string f] rfl rfl (cell_three _ _ _ _ _) (by intro u hu; simp at hu; rcases hu with rfl | rfl | rfl <;> rfl) (by omega) (by unfold maxLen; omega) (by omega) (by simp; omega) (V3.heap.size + 1) (by simp) ?_; intro g5 cp5 w5 hown5 hgrow5 hl5 hlt5)
    clear x0 x1 x2 x3 x4 x5 xf
    obtain ⟨s5, gn5, ap5, kp5, keep5⟩ := RI.appd (cp := cp5) (x := ⟨nm, ask, f⟩) HC.out HN.out.ma HN.out.gn HN.out.lo HN.out.ap HN.out.kp hgrow5 hl5
    have tb5 : w5.heap[w2.heap.size]? = some (.cells #[.bool false, .int .i64 0, .string ⟨#[]⟩, .bool ask, .string nm, .int .i64 stp] 44 (0, 0)) := by rw [keep5 _ _ 44 (by decide) HN.out.tb]; exact HN.out.tb
    have rb5 : w5.heap[w.heap.size + 1]? = some (.cells #[.int .i64 0, .string ⟨#[]⟩, .slice none 0 0] 32 (0, 0)) := by rw [keep5 _ _ 32 (by decide) HN.out.rb]; exact HN.out.rb
    have yb5 : w5.heap[w3.heap.size]? = some (.cells #[.bool yh, .int .i64 yc, .string yt] 49 (0, 0)) := by rw [keep5 _ _ 49 (by decide) HY.out]; exact HY.out
    obtain ⟨hBm5, mv5, mcs5, hmb5, hmc5, hmr5⟩ := HN.out.gn.mach
    have hm5 : w5.heap[m]? = V3.heap[m]? := keep5 m _ 73 (by decide) hmb5
    have no5 : ∀ b, (av2.ownBlock = some b \/ kv2.ownBlock = some b) -> NotOwn w5 m b := fun b q => (HN.out.no b q).congr hm5
    have hbW5 : Below W0.heap.size W0 w5 := HW.out.trans kp5.below
    have HGO : Hid (Calls Tryz.prog 97 #[.agg #[.bool yh, .int .i64 yc, .string yt], .pointer (some ⟨m, 0, none⟩), .pointer (some ⟨T, 0, none⟩)] w5 _) := goOn_any Bm m T is a cap ys ask nm stp ⟨yh, yc, yt⟩ y' w5 gn5 (by have := blk_lt gn5.1; have := gn5.2.2.1; omega) HBB.out ⟨HRW.out.below hbW5, fun b off e => by
     have h1 := (prog_len HV.out).1
     obtain ⟨b', off', e', q1, _, _⟩ := HRW.out 0 (by omega)
     rw [e] at e'; cases e'
     have q2 : b < W0.heap.size := World.block_lt_of_cell? _ _ q1
     have := HC.out.h4
     omega⟩ (HTP.out.1.below hbW5) (HTP.out.2.below hbW5) HV.out HN.out.yt HN.out.yy
    obtain ⟨r0, r1, r2, _⟩ := bk3 yb5
    have HG5 : Hid (Bm <= m /\ Bm <= T /\ (∃ cs, w5.heap[T]? = some (.cells cs 44 (0, 0))) /\ ∃ cs, w5.heap[m]? = some (.cells cs 73 (0, 0))) := ⟨hBm5, gn5.2.2.1, ⟨_, gn5.1⟩, ⟨mcs5, by rw [hm5]; exact hmb5⟩⟩
    have HO5 : Hid (w5.ownsRow w.heap.size 47 3 (.slice (some ⟨g5, 0, none⟩) (ls.length + 1) cp5) (ls.length + 1) (gCx ls ++ [.string nm, .bool ask, .string f])) := hown5
    have HS5 : Hid (Mkr W0.heap.size h mb (.slice sa ss.length c1) (.slice ta ts.length c2) fv w5 m2 st av2 kv2 vs2) := s5
    have HT5 : Hid _ := tb5
    have HR5 : Hid _ := rb5
    have HK5 : Hid (KP W0.heap.size h mb av kv w w5) := kp5
    have HNO5 : Hid (∀ b, (av2.ownBlock = some b \/ kv2.ownBlock = some b) -> NotOwn w5 m b) := no5
    have HAP5 : Hid (∀ x d b, lk m2 x = some (some d) -> (Value.slice (some ⟨g5, 0, none⟩) (ls.length + 1) cp5).ownBlock = some b -> (vs2 x).ownBlock ≠ some b) := ap5
    clear s5 gn5 ap5 kp5 keep5 tb5 rb5 yb5 hm5 no5 hbW5 hown5 hgrow5 hl5 hlt5 hmb5 hmc5 hmr5 hBm5 HLA HY
    go_wp2_with fail
    refine HGO.out.mono ?_
    rintro e w6 ⟨⟨hb6, hk6⟩, ho6, ov', c', t', ask', nm', st', rfl, hg6⟩
    obtain ⟨s6, lo6, tb6, rb6, kp6, no6⟩ := RI.went (wr := w5) HC.out HS5.out HG5.out.1 HG5.out.2.1 HO5.out HT5.out HR5.out HK5.out HNO5.out HG5.out.2.2.1 HG5.out.2.2.2 hb6 hk6 ho6
    obtain ⟨j0, j1, j2, j3, j4, j5, jf⟩ := six_cells tb6
    have HFIN : Hid (RI W0 h mb (.slice sa ss.length c1) (.slice ta ts.length c2) fv (.slice a is.length cap) ss ts is w ms st av kv vs Bm m T w2.heap.size (w.heap.size + 1) (ys ++ [y']) (ls ++ [⟨nm, ask, f⟩]) m2 av2 kv2 vs2 (.slice (some ⟨g5, 0, none⟩) (ls.length + 1) cp5) ov' c' t' ask' nm' st' _) := RI.turned (ls' := []) HC.out s6 HN.out.inv HN.out.phi HN.out.ro HN.out.dd hg6 tb6 rb6 (by rw [List.length_append, List.length_singleton, gC_snoc]; exact lo6) HAP5.out kp6 HN.out.ra HN.out.rk HN.out.fr no6
    unfold turnV
    dsimp only
    clear hb6 hk6 ho6 hg6 s6 lo6 tb6 rb6 kp6 no6 HGO r0 r1 r2
    go_wp2_with fail
    refine ⟨⟨ys ++ [y'], ls ++ [⟨nm, ask, f⟩], m2, av2, kv2, vs2, some ⟨g5, 0, none⟩, cp5, ov', c', t', ask', nm', st', by simp, ?_⟩, by simp [lenV]; omega⟩
    rw [List.length_append, List.length_singleton]
    exact HFIN.out
   ·unfold panV
    dsimp only
    have HDV : Hid (KP W0.heap.size h mb av kv w w3 /\ Does ss ts ms st (.run is [] []) ms' an /\ EndV W0.heap.size w3 an v) := ⟨hkp, hdo, hv⟩
    clear hkp hdo hv
    go_wp2_with fail
    exact ⟨rfl, HDV.out.1, ms', an, HDV.out.2.1, Or.inr ⟨v, rfl, HDV.out.2.2⟩⟩
end
end Go.Proofs.YtmanoabocelpeaaGreatDoor
