import Derived.Test.YtmanoabocelpeaaGreatDoorTClG
import Derived.Test.YtmanoabocelpeaaGreatDoorTNStepJ
import Derived.Deep.RegionHeld3
import Derived.Deep.RegionLaw
namespace Go.Proofs.YtmanoabocelpeaaGreatDoor
open Go.RowKit
set_option linter.unusedVariables false
set_option maxHeartbeats 8000000
set_option maxRecDepth 100000
section
open Go.Deep
theorem shopRun_any (W0 : World) (h : Nat) (sa ta a : Option Addr) (c1 c2 cap : Nat) (ss : List S2) (ts : List T2) (is : List I3) (ms : Ms) (st : List ByteArray) (mv kv : Value) (vs : Nat -> Value) (w : World) (hE : EnvS W0 sa ta ss ts)
  (hM : MakeAt W0 h (.slice sa ss.length c1) (.slice ta ts.length c2) ss ts st) (hsh : Shop W0.heap.size h (.slice sa ss.length c1) (.slice ta ts.length c2) w ms st mv kv vs) (hi : Inv ss ts ms st) (hp : phi ts ms <= -199) (hW : Below W0.heap.size W0 w) (hr : Row3 W0 a is) (hv : progOk is = true) (hix : ∀ j, (ix is j).text.size <= 9223372036854775807) :
  Calls Tryz.prog 55 #[.pointer (some ⟨h, 0, none⟩), .agg #[.slice a is.length cap]] w fun e w' => RunP W0.heap.size h (.slice sa ss.length c1) (.slice ta ts.length c2) ss ts ms st vs is w e w' := by
 have hBw : W0.heap.size <= w.heap.size := hW.size
 have hhw : h < w.heap.size := blk_lt hsh.blk
 obtain ⟨W, eW⟩ : ∃ W, ((w.alloc (.cells #[.slice a is.length cap] 37)).alloc (.cells #[.int .i64 0, .string ⟨#[]⟩, .slice none 0 0] 32)) = W := ⟨_, rfl⟩
 have hb0 : Below w.heap.size w W := by rw [<- eW]; exact ((Below.refl _ _).alloc (Nat.le_refl _) _).alloc (by simp) _
 have hWs : W.heap.size = w.heap.size + 1 + 1 := by rw [<- eW]; simp
 have HPB : Hid (W.heap[w.heap.size]? = some (.cells #[.slice a is.length cap] 37 (0, 0))) := by
  show W.heap[w.heap.size]? = _
  rw [<- eW, Lib.alloc_old _ _ _ (by simp)]
  exact heap_new _ _
 have HRB : Hid (W.heap[w.heap.size + 1]? = some (.cells #[.int .i64 0, .string ⟨#[]⟩, .slice none 0 0] 32 (0, 0))) := by
  show W.heap[w.heap.size + 1]? = _
  rw [<- eW]
  have h := heap_new (w.alloc (.cells #[.slice a is.length cap] 37)) (.cells #[.int .i64 0, .string ⟨#[]⟩, .slice none 0 0] 32)
  rw [show (w.alloc (.cells #[.slice a is.length cap] 37)).heap.size = w.heap.size + 1 from by simp] at h
  exact h
 have HWS : Hid (W.heap.size = w.heap.size + 1 + 1) := hWs
 have hwW : w.heap.size <= W.heap.size := by omega
 obtain ⟨W1, eW1⟩ : ∃ W1, ((W.alloc (.cells #[] 49)).alloc (.cells #[] 47)) = W1 := ⟨_, rfl⟩
 have hb1 : Below W.heap.size W W1 := by rw [<- eW1]; exact ((Below.refl _ _).alloc (Nat.le_refl _) _).alloc (by simp) _
 have HR0 : Hid (W1.ownsRow W.heap.size 49 3 (.slice (some ⟨W.heap.size, 0, none⟩) 0 0) 0 (repCells [])) := by
  show World.ownsRow _ _ _ _ _ _ _
  rw [<- eW1]
  exact (World.ownsRow_lit W #[] 0 (Nat.le_refl _) (by unfold maxLen; omega) rfl).alloc _
 have HL0 : Hid (W1.ownsRow W.heap.size 47 3 (.slice (some ⟨W.heap.size + 1, 0, none⟩) 0 0) 0 (gCx [])) := by
  show World.ownsRow _ _ _ _ _ _ _
  rw [<- eW1]
  have h := World.ownsRow_lit (base := W.heap.size) (e := 47) (size := 3) (W.alloc (.cells #[] 49)) #[] 0 (by simp) (by unfold maxLen; omega) rfl
  rw [show (W.alloc (.cells #[] 49)).heap.size = W.heap.size + 1 from by simp] at h
  exact h
 have HSH : Hid (Shop W0.heap.size h (.slice sa ss.length c1) (.slice ta ts.length c2) W1 ms st mv kv vs) := (hsh.below hb0).below hb1
 have HA0 : Hid (Apart ms vs (.slice (some ⟨W.heap.size + 1, 0, none⟩) 0 0)) := Apart.new hsh (fun b hb => by simp [Value.ownBlock] at hb; omega)
 have HI : Hid (Inv ss ts ms st) := hi
 have HPH : Hid (phi ts ms <= -199) := hp
 have HM : Hid (MakeAt W0 h (.slice sa ss.length c1) (.slice ta ts.length c2) ss ts st) := hM
 have HE : Hid (EnvS W0 sa ta ss ts) := hE
 have HB0 : Hid (Below w.heap.size w W) := hb0
 have HKS0 : Hid (KS W0.heap.size h W W1) := KS.old hb1 (by omega)
 have HW : Hid (Below W0.heap.size W0 w) := hW
 have HRW : Hid (Row3 W0 a is) := hr
 have HV : Hid (progOk is = true) := hv
 have HIX : Hid (∀ j, (ix is j).text.size <= 9223372036854775807) := hix
 have hil := (prog_len hv).2
 have HRO : Hid (RunOk is [] []) := ⟨hv, fun i hi => by simp at hi, rfl⟩
 have hl1 := hE.l1
 have hl2 := hE.l2
 obtain ⟨i0, hi0, hz0, hzz1, hzz2⟩ := info_parts Tryz.info49
 clear hM hE hsh hi hp hW hr hv hix hb0 hb1 hWs
 go_enter Tryz.func55, Tryz.ntmps55
 go_wp2_with fail
 clear eW eW1
 go_loopw [6, 7] (fun v u wr => ∃ (ys : List R3) (ls : List G3) (m1 : Ms) (mv kv : Value) (vs' : Nat -> Value) (ra la : Option Addr) (rc lc : Nat), ys.length <= 200 /\ v = .slice ra ys.length rc /\ u = .slice la ls.length lc /\ Hid (RunOk is ys ls) /\ Hid (∀ ms' a, Does ss ts m1 st (.run is ys ls) ms' a -> Does ss ts ms st (.run is [] []) ms' a) /\ Hid (Shop W0.heap.size h (.slice sa ss.length c1) (.slice ta ts.length c2) wr m1 st mv kv vs') /\ Hid (Inv ss ts m1 st) /\ Hid (phi ts m1 <= -199 + (ys.length : Int)) /\ Hid (wr.ownsRow W.heap.size 49 3 (.slice ra ys.length rc) ys.length (repCells ys)) /\ Hid (wr.ownsRow W.heap.size 47 3 (.slice la ls.length lc) ls.length (gCx ls)) /\ Hid (KS W0.heap.size h W wr) /\ Hid (Apart m1 vs' (.slice la ls.length lc)) /\ Hid (Fr w ms vs m1 vs')) (fun v _ _ => 200 - lenV v)
 case atStart => exact ⟨[], [], ms, mv, kv, vs, some ⟨W.heap.size, 0, none⟩, some ⟨W.heap.size + 1, 0, none⟩, 0, 0, by simp, rfl, rfl, HRO.out, (fun ms' a k => k : ∀ ms' a, Does ss ts ms st (.run is [] []) ms' a -> Does ss ts ms st (.run is [] []) ms' a), HSH.out, HI.out, (by have := HPH.out; simp; omega : phi ts ms <= -199 + (([] : List R3).length : Int)), HR0.out, HL0.out, HKS0.out, HA0.out, Fr.refl w ms vs⟩
 case round =>
  clear HSH HI HPH HRO HR0 HL0 HKS0 HA0
  obtain ⟨ys, ls, m1, mv', kv', vs', ra, la, rc, lc, hk, rfl, rfl, HRO, HDO, HSH, HI, HPH, HYS, HLS, HKS, HAP, HFR⟩ := hrel
  have HBW : Hid (Below W0.heap.size W0 wr) := (HW.out.trans (HB0.out.mono hBw)).trans HKS.out.below
  have hszr : W.heap.size <= wr.heap.size := HKS.out.below.size
  have hpb : wr.cell? ⟨w.heap.size, 0, none⟩ = some (.slice a is.length cap) := by rw [Lib.cell_of_heap (HKS.out.keep w.heap.size _ 37 (by decide) (by decide) (by omega) HPB.out)]; rfl
  have HNX : Hid (∀ V : World, Row3 V a is -> RowR V ra ys -> Calls Tryz.prog 10 #[.agg #[.slice a is.length cap], .slice ra ys.length rc] V fun e w' => Below V.heap.size V w' /\ ∃ r, Full is ys s00 r /\ e = .returned (resT r)) := fun V hV hR => specNext_yes a ra cap rc is ys V hV hR (by omega) HIX.out (rx_any HRO.out.ok) HV.out (reps_of (gs := []) HRO.out.ok hk)
  go_wp2_with fail
  refine (HNX.out _ (HRW.out.below HBW.out) (rowR_of HYS.out)).mono ?_
  rintro e w2 ⟨hb2, rs, hful, rfl⟩
  have HS2 : Hid (Shop W0.heap.size h (.slice sa ss.length c1) (.slice ta ts.length c2) w2 m1 st mv' kv' vs') := HSH.out.below hb2
  have HY2 : Hid (w2.ownsRow W.heap.size 49 3 (.slice ra ys.length rc) ys.length (repCells ys)) := ownsRow_below HYS.out hb2
  have HL2 : Hid (w2.ownsRow W.heap.size 47 3 (.slice la ls.length lc) ls.length (gCx ls)) := ownsRow_below HLS.out hb2
  have HK2 : Hid (KS W0.heap.size h W w2) := HKS.out.trans (KS.old hb2 (by omega))
  have HB2 : Hid (Below W0.heap.size W0 w2) := HBW.out.trans (hb2.mono (by omega))
  have hsz2 : W.heap.size <= w2.heap.size := HK2.out.below.size
  clear hb2 hpb HNX HSH HYS HLS HKS HBW hszr
  cases rs with
  | over c t n =>
   have HDN : Hid (Does ss ts ms st (.run is [] []) m1 (.ok ⟨c, t, ls⟩)) := HDO.out _ _ (.over hful)
   clear hful
   unfold resT turnV
   have hbA : Below w2.heap.size w2 (w2.alloc (.cells #[.bool true, .int .i64 c, .string t, .bool false, .string ⟨#[]⟩, .int .i64 n] 44)) := (Below.refl _ _).alloc (Nat.le_refl _) _
   have HS3 : Hid (Shop W0.heap.size h (.slice sa ss.length c1) (.slice ta ts.length c2) (w2.alloc (.cells #[.bool true, .int .i64 c, .string t, .bool false, .string ⟨#[]⟩, .int .i64 n] 44)) m1 st mv' kv' vs') := HS2.out.below hbA
   have HL3 : Hid (LooksO (w2.alloc (.cells #[.bool true, .int .i64 c, .string t, .bool false, .string ⟨#[]⟩, .int .i64 n] 44)) W0.heap.size (.slice la ls.length lc) ls) := (looks_of HL2.out (by omega)).below hbA
   have HK3 : Hid (KS W0.heap.size h W (w2.alloc (.cells #[.bool true, .int .i64 c, .string t, .bool false, .string ⟨#[]⟩, .int .i64 n] 44))) := HK2.out.trans (KS.old hbA (by omega))
   have HR3 : Hid ((w2.alloc (.cells #[.bool true, .int .i64 c, .string t, .bool false, .string ⟨#[]⟩, .int .i64 n] 44)).heap[w.heap.size + 1]? = some (.cells #[.int .i64 0, .string ⟨#[]⟩, .slice none 0 0] 32 (0, 0))) := HK3.out.keep _ _ 32 (by decide) (by decide) (by omega) HRB.out
   obtain ⟨z0, z1, z2, zf⟩ := bk3 (HK2.out.keep _ _ 32 (by decide) (by decide) (by omega) HRB.out)
   have hne : w.heap.size + 1 < w2.heap.size := by have := HWS.out; omega
   have HX : Hid (((((w2.setCell ⟨w.heap.size + 1, 0, none⟩ (.int .i64 c)).setCell ⟨w.heap.size + 1, 1, none⟩ (.string t)).setCell ⟨w.heap.size + 1, 2, none⟩ (.slice none 0 0)).alloc (.cells #[.bool true, .int .i64 c, .string t, .bool false, .string ⟨#[]⟩, .int .i64 n] 44)).heap[w.heap.size + 1]? = some (.cells #[.int .i64 c, .string t, .slice none 0 0] 32 (0, 0))) := by
    have e := set3_at (HK2.out.keep _ _ 32 (by decide) (by decide) (by omega) HRB.out) (.int .i64 c) (.string t) (.slice none 0 0)
    show _ = _
    rw [Lib.alloc_old _ _ _ (blk_lt e)]
    exact e
   clear hbA HS3 HL3 HK3 HR3
   go_wp2_with fail
   have hR2 := HK2.out.keep _ _ 32 (by decide) (by decide) (by omega) HRB.out
   have hh' : w.heap.size + 1 ≠ h := by omega
   obtain ⟨y0, y1, y2, _⟩ := bk3 HX.out
   have hks : KS W0.heap.size h w w2 := (KS.old HB0.out hBw).trans HK2.out
   have hk3 := ks_set3 hks (b := w.heap.size + 1) (by omega) (by omega) (.int .i64 c) (.string t) (.slice none 0 0)
   have hs3 := HS2.out.set3 hR2 hh' (.int .i64 c) (.string t) (.slice none 0 0)
   have hl3 := (looks_of HL2.out (B' := W0.heap.size) (by omega)).set3 hR2 (.int .i64 c) (.string t) (.slice none 0 0)
   have hbA : ∀ V : World, ∀ o : Obj, Below V.heap.size V (V.alloc o) := fun V o => (Below.refl _ _).alloc (Nat.le_refl _) _
   refine bodyPost_ret (v := .tuple #[.agg #[.int .i64 c, .string t, .slice none 0 0], .slice la ls.length lc]) (by simp [results, Tryz.results55, go_sem, y0, y1, y2]) rfl ⟨hk3.trans (KS.old (hbA _ _) (by have := hk3.below.size; omega)), m1, .ok ⟨c, t, ls⟩, HDN.out, Or.inl ⟨⟨c, t, ls⟩, .slice la ls.length lc, mv', kv', vs', rfl, rfl, ⟨hl3.below (hbA _ _), fun b hb => ⟨by have := (HL2.out.lt b hb).1; have := HWS.out; omega, fun i d hi hd => HAP.out i d hi hd b hb⟩⟩, hs3.below (hbA _ _), HFR.out⟩⟩
  | wait ask nm n =>
   obtain ⟨hlt, hnm⟩ := HRO.out.wait hful
   have HLE : Hid (ls.length = ys.length) := HRO.out.eq
   have hl200 : ls.length < 200 := by have := HLE.out; omega
   have HHAS : Hid (∀ V, Below w2.heap.size w2 V -> Calls Tryz.prog 83 #[.pointer (some ⟨h, 0, none⟩), .string nm] V fun e w' => Below V.heap.size V w' /\ e = .returned (.bool (thingB ss ts nm))) := fun V hV => by
    have s1 := HS2.out.below hV
    obtain ⟨k0, k1, _⟩ := s1.cells
    have hb := HB2.out.trans (hV.mono (by have := HB2.out.size; omega))
    exact has_any h sa ta c1 c2 ss ts nm V k0 k1 (HE.out.rs.below hb) (HE.out.rt.below hb) (by omega) (by omega)
   obtain ⟨V, eV⟩ : ∃ V, w2.alloc (.cells #[.bool false, .int .i64 0, .string ⟨#[]⟩, .bool ask, .string nm, .int .i64 n] 44) = V := ⟨_, rfl⟩
   have hbV : Below w2.heap.size w2 V := by rw [<- eV]; exact (Below.refl _ _).alloc (Nat.le_refl _) _
   have hVs : V.heap.size = w2.heap.size + 1 := by rw [<- eV]; simp
   have HTB : Hid (V.heap[w2.heap.size]? = some (.cells #[.bool false, .int .i64 0, .string ⟨#[]⟩, .bool ask, .string nm, .int .i64 n] 44 (0, 0))) := by
    show _ = _
    rw [<- eV]
    exact heap_new _ _
   have HSV : Hid (Shop W0.heap.size h (.slice sa ss.length c1) (.slice ta ts.length c2) V m1 st mv' kv' vs') := HS2.out.below hbV
   have HYV : Hid (V.ownsRow W.heap.size 49 3 (.slice ra ys.length rc) ys.length (repCells ys)) := ownsRow_below HY2.out hbV
   have HLV : Hid (V.ownsRow W.heap.size 47 3 (.slice la ls.length lc) ls.length (gCx ls)) := ownsRow_below HL2.out hbV
   have HKV : Hid (KS W0.heap.size h W V) := HK2.out.trans (KS.old hbV (by omega))
   have HBV : Hid (Below W0.heap.size W0 V) := HB2.out.trans (hbV.mono (by omega))
   have HHV := HHAS.out V hbV
   have HVV : Hid (Below w2.heap.size w2 V) := hbV
   have t0 : V.cell? ⟨w2.heap.size, 0, none⟩ = some (.bool false) := by rw [Lib.cell_of_heap HTB.out]; rfl
   have t3 : V.cell? ⟨w2.heap.size, 3, none⟩ = some (.bool ask) := by rw [Lib.cell_of_heap HTB.out]; rfl
   have t4 : V.cell? ⟨w2.heap.size, 4, none⟩ = some (.string nm) := by rw [Lib.cell_of_heap HTB.out]; rfl
   unfold resT turnV
   cases ask with
   | false =>
    have HD1 : Hid (∀ ms' a, Does ss ts m1 st (.run is (ys ++ [⟨thingB ss ts nm, 0, ⟨#[]⟩⟩]) (ls ++ [⟨nm, false, flagB (thingB ss ts nm)⟩])) ms' a -> Does ss ts ms st (.run is [] []) ms' a) := fun ms' a k => HDO.out _ _ (.has hful k)
    generalize thingB ss ts nm = b at HHV HD1
    have HHW : Hid (Calls Tryz.prog 83 #[.pointer (some ⟨h, 0, none⟩), .string nm] V fun e w' => Below V.heap.size V w' /\ e = .returned (.bool b)) := HHV
    clear hful HHV HHAS hbV
    go_wp2_with (first | (go_at_call 83; refine HHW.out.mono ?_; rintro e w3 ⟨hb3, rfl⟩; have HS3 : Hid (Shop W0.heap.size h (.slice sa ss.length c1) (.slice ta ts.length c2) w3 m1 st mv' kv' vs') := HSV.out.below hb3; have HY3 : Hid (w3.ownsRow W.heap.size 49 3 (.slice ra ys.length rc) ys.length (repCells ys)) := ownsRow_below HYV.out hb3; have HL3 : Hid (w3.ownsRow W.heap.size 47 3 (.slice la ls.length lc) ls.length (gCx ls)) := ownsRow_below HLV.out hb3; have HK3 : Hid (KS W0.heap.size h W w3) := HKV.out.trans (KS.old hb3 (by omega)); have HT3 : Hid (w3.heap[w2.heap.size]? = some (.cells #[.bool false, .int .i64 0, .string ⟨#[]⟩, .bool false, .string nm, .int .i64 n] 44 (0, 0))) := blk_keep hb3 HTB.out; have hs3 : W.heap.size <= w3.heap.size := HK3.out.below.size; clear hb3) | (at_builtin; refine wpList_append_own _ rfl (.tmp 32) (.tmp 35) 42 rfl W.heap.size 49 i0 (.agg #[.bool false, .int .i64 0, .string ⟨#[]⟩]) 3 32 Tryz.underlying42 hi0 hz0 hzz1 hzz2 rfl (by decide) _ _ _ rfl (HY3.out.alloc _) ⟨w3.heap.size, 0, none⟩ 1 1 [.bool b, .int .i64 0, .string ⟨#[]⟩] rfl rfl (cell_three _ _ _ _ _) (by intro u hu; simp at hu; rcases hu with rfl | rfl | rfl <;> rfl) (by unfold maxLen; omega) (by omega) (by simp; omega) ?_; intro v4 w4 hown4 hgrow4 hnil4))
    obtain ⟨g4, cp4, rfl⟩ : ∃ g cp, v4 = .slice (some ⟨g, 0, none⟩) (ys.length + 1) cp := by
     rcases hown4.2 with ⟨e, h0⟩ | ⟨g, cap, cur, e, _⟩
     ·omega
     ·exact ⟨g, cap, e⟩
    obtain ⟨s4, l4, k4, f4⟩ := app_reply HS3.out HY3.out HL3.out HK3.out (Nat.le_refl _) (by omega) hgrow4
    have HS4 : Hid (Shop W0.heap.size h (.slice sa ss.length c1) (.slice ta ts.length c2) w4 m1 st mv' kv' vs') := s4
    have HY4 : Hid (w4.ownsRow W.heap.size 49 3 (.slice (some ⟨g4, 0, none⟩) (ys.length + 1) cp4) (ys.length + 1) (repCells ys ++ [.bool b, .int .i64 0, .string ⟨#[]⟩])) := hown4
    have HL4 : Hid (w4.ownsRow W.heap.size 47 3 (.slice la ls.length lc) ls.length (gCx ls)) := l4
    have HK4 : Hid (KS W0.heap.size h W w4) := k4
    have HLA : Hid (∀ o : Obj, (w4.alloc o).ownsRow W.heap.size 47 3 (.slice la ls.length lc) ls.length (gCx ls)) := fun o => l4.alloc o
    have q4 : w4.cell? ⟨w2.heap.size, 4, none⟩ = some (.string nm) := by rw [Lib.cell_of_heap (f4 _ _ 44 (by decide) HT3.out)]; rfl
    have hs4 : W.heap.size <= w4.heap.size := k4.below.size
    obtain ⟨f, ef⟩ : ∃ f, flagB b = f := ⟨_, rfl⟩
    have EF : Hid (flagB b = f) := ef
    clear ef s4 hown4 l4 k4 f4 hgrow4 hnil4 HS3 HY3 HL3 HK3 HT3 HSV HYV HLV HKV HBV HTB HHW t0 t3 t4 HVV
    go_region_law (first | (refine step_flag rfl rfl b f EF.out ?_ ?_; (focus (first | rfl | (simp [Act.eval]; done)))) | (refine step_appH rfl rfl W.heap.size la ls.length lc (gCx ls) ?_ ?_ w4.heap.size nm f false ?_ ?_ ?_ ?_ ?_; (focus (first | rfl | (simp [Act.eval]; done))); (focus (exact HLA.out _)); (focus (first | rfl | (simp [Act.eval]; done))); (focus (exact heap_new _ _)); (focus (simp; omega)); (focus omega); intro g' cap2 w5 hown5 hgrow5 hat5; have HFIN : Hid (_ /\ _ /\ _ /\ _) := app_look (o := .cells #[.string nm, .bool false, .string f] 47) HS4.out HY4.out HL4.out HK4.out (Nat.le_refl _) (by omega) HAP.out (w' := w5) ⟨hgrow5.os, hgrow5.tape, hgrow5.output, hgrow5.size, hgrow5.block⟩; have HAT : Hid ((Value.slice la ls.length lc).ownBlock = some g' \/ g' = w4.heap.size + 1) := (by rcases hat5 with q | q; (exact Or.inl q); (right; simpa using q)); have HO5 : Hid (w5.ownsRow W.heap.size 47 3 (.slice (some ⟨g', 0, none⟩) (ls.length + 1) cap2) (ls.length + 1) (gCx ls ++ [.string nm, .bool false, .string f])) := hown5; clear hown5 hgrow5 hat5))
    all_goals
     simp [Act.put]
     go_wp2_with fail
     obtain ⟨s5, y5, k5, a5⟩ := HFIN.out
     have HY5 : Hid (w5.ownsRow W.heap.size 49 3 (.slice (some ⟨g4, 0, none⟩) (ys ++ [⟨b, 0, ⟨#[]⟩⟩] : List R3).length cp4) (ys ++ [⟨b, 0, ⟨#[]⟩⟩] : List R3).length (repCells (ys ++ [⟨b, 0, ⟨#[]⟩⟩]))) := by
      show World.ownsRow _ _ _ _ _ _ _
      rw [List.length_append, List.length_singleton, repCells_snoc]
      exact y5
     have HL5 : Hid (w5.ownsRow W.heap.size 47 3 (.slice (some ⟨g', 0, none⟩) (ls ++ [⟨nm, false, flagB b⟩] : List G3).length cap2) (ls ++ [⟨nm, false, flagB b⟩] : List G3).length (gCx (ls ++ [⟨nm, false, flagB b⟩]))) := by
      show World.ownsRow _ _ _ _ _ _ _
      rw [List.length_append, List.length_singleton, gC_snoc, EF.out]
      exact HO5.out
     have HR5 : Hid (RunOk is (ys ++ [(⟨b, 0, ⟨#[]⟩⟩ : R3)]) (ls ++ [(⟨nm, false, flagB b⟩ : G3)])) := HRO.out.has b _
     have HP5 : Hid (phi ts m1 <= -199 + ((ys ++ [(⟨b, 0, ⟨#[]⟩⟩ : R3)]).length : Int)) := by
      have := HPH.out
      show _ <= _
      simp
      omega
     have HS5 : Hid (Shop W0.heap.size h (.slice sa ss.length c1) (.slice ta ts.length c2) w5 m1 st mv' kv' vs') := s5
     have HK5 : Hid (KS W0.heap.size h W w5) := k5
     have HA5 : Hid (Apart m1 vs' (.slice (some ⟨g', 0, none⟩) (ls ++ [(⟨nm, false, flagB b⟩ : G3)]).length cap2)) := a5 _ _ _ HAT.out
     go_round
     case rel => exact ⟨ys ++ [(⟨b, 0, ⟨#[]⟩⟩ : R3)], ls ++ [(⟨nm, false, flagB b⟩ : G3)], m1, mv', kv', vs', some ⟨g4, 0, none⟩, some ⟨g', 0, none⟩, cp4, cap2, by simp; omega, by simp, by simp, HR5, HD1, HS5, HI, HP5, HY5, HL5, HK5, HA5, HFR⟩
     case measure => simp [lenV]; omega
   | true =>
    have HD1 : Hid (∀ ms1 d, Does ss ts m1 st (.make nm) ms1 (.ok d) -> ∀ ms' a, Does ss ts ms1 st (.run is (ys ++ [repP ss ts nm d]) (ls ++ [⟨nm, true, formB d.c d.t⟩])) ms' a -> Does ss ts ms st (.run is [] []) ms' a) := fun ms1 d k ms' a k' => HDO.out _ _ (.asked hful k k')
    have HDF : Hid (∀ ms' a, Does ss ts m1 st (.make nm) ms' a -> a.stop -> Does ss ts ms st (.run is [] []) ms' a) := fun ms' a k k' => HDO.out _ _ (.askfell hful k k')
    have HMK : Hid (Calls Tryz.prog 29 #[.pointer (some ⟨h, 0, none⟩), .string nm] V fun e w' => MakeP W0.heap.size h (.slice sa ss.length c1) (.slice ta ts.length c2) ss ts m1 st vs' nm V e w') := HM.out V m1 nm mv' kv' vs' HSV.out HI.out hnm (by have := HPH.out; omega) HBV.out
    clear hful HHV hbV
    go_wp2_with fail
    refine HMK.out.mono ?_
    rintro e w3 ⟨hk3, m2, an, hdo, ⟨d, mv2, kv2, vs2, rfl, rfl, hs3, hfr3⟩ | ⟨v, rfl, hdead⟩⟩
    ·have hhw2 : w2.heap.size ≠ h := by omega
     obtain ⟨hi2, hpre, hlk0⟩ := Does.inv HE.out.v hdo HI.out hnm trivial d rfl
     have hlk : lk m2 nm = some (some d) := hlk0
     have hmd := hi2.done nm d hlk
     have hph := Does.phi_le HE.out.v hdo hnm HI.out trivial
     have HP2 : Hid (phi ts m2 <= -199 + (ys.length : Int) + 1) := by
      have := HPH.out
      simp only at hph
      show _ <= _
      omega
     have HI2 : Hid (Inv ss ts m2 st) := hi2
     have HA2 : Hid (Apart m2 vs2 (.slice la ls.length lc)) := HAP.out.fr hfr3 (fun b hb => (HLV.out.lt b hb).2)
     have HF2 : Hid (Fr w ms vs m2 vs2) := HFR.out.trans (by omega) hfr3
     have HD3 := HD1.out m2 d hdo
     have HR3 := HRO.out.asked hmd ⟨nm, true, formB d.c d.t⟩
     obtain ⟨y, ey⟩ : ∃ y, repP ss ts nm d = y := ⟨_, rfl⟩
     obtain ⟨f, ef⟩ : ∃ f, formB d.c d.t = f := ⟨_, rfl⟩
     rw [ey, ef] at HD3 HR3
     have HD2 : Hid (∀ ms' a, Does ss ts m2 st (.run is (ys ++ [y]) (ls ++ [(⟨nm, true, f⟩ : G3)])) ms' a -> Does ss ts ms st (.run is [] []) ms' a) := HD3
     have HR2 : Hid (RunOk is (ys ++ [y]) (ls ++ [(⟨nm, true, f⟩ : G3)])) := HR3
     have HSw3 : Hid (Shop W0.heap.size h (.slice sa ss.length c1) (.slice ta ts.length c2) w3 m2 st mv2 kv2 vs2) := hs3
     have HYw3 : Hid (w3.ownsRow W.heap.size 49 3 (.slice ra ys.length rc) ys.length (repCells ys)) := own_ks HYV.out hk3 (by decide) (by decide) (own_ne HSV.out HYV.out (by decide))
     have HLw3 : Hid (w3.ownsRow W.heap.size 47 3 (.slice la ls.length lc) ls.length (gCx ls)) := own_ks HLV.out hk3 (by decide) (by decide) (own_ne HSV.out HLV.out (by decide))
     have HKw3 : Hid (KS W0.heap.size h W w3) := HKV.out.trans hk3
     have HTw3 : Hid (w3.heap[w2.heap.size]? = some (.cells #[.bool false, .int .i64 0, .string ⟨#[]⟩, .bool true, .string nm, .int .i64 n] 44 (0, 0))) := hk3.keep _ _ 44 (by decide) (by decide) hhw2 HTB.out
     have HBw3 : Hid (Below W0.heap.size W0 w3) := HBV.out.trans hk3.below
     have HTB3 := HTw3
     have hs33 : W.heap.size <= w3.heap.size := HKw3.out.below.size
     have HYN : Hid (∀ b, (Value.slice ra ys.length rc).ownBlock = some b -> b < w3.heap.size) := fun b hb => (HYw3.out.lt b hb).2
     have HLN : Hid (∀ b, (Value.slice la ls.length lc).ownBlock = some b -> b < w3.heap.size) := fun b hb => (HLw3.out.lt b hb).2
     obtain ⟨dc, dt, dls⟩ := d
     obtain ⟨V3, eV3⟩ : ∃ V3, (w3.alloc (.cells #[.int .i64 dc, .string dt, .slice none 0 0] 32)).alloc (.cells #[.bool true, .int .i64 dc, .string dt] 49) = V3 := ⟨_, rfl⟩
     have hbV3 : Below w3.heap.size w3 V3 := by rw [<- eV3]; exact ((Below.refl _ _).alloc (Nat.le_refl _) _).alloc (by simp) _
     have hV3s : V3.heap.size = w3.heap.size + 1 + 1 := by rw [<- eV3]; simp
     have HQV3 : Hid (V3.heap[w3.heap.size]? = some (.cells #[.int .i64 dc, .string dt, .slice none 0 0] 32 (0, 0))) := by
      show _ = _
      rw [<- eV3, Lib.alloc_old _ _ _ (by simp)]
      exact heap_new _ _
     have HPV3 : Hid (V3.heap[w3.heap.size + 1]? = some (.cells #[.bool true, .int .i64 dc, .string dt] 49 (0, 0))) := by
      show _ = _
      rw [<- eV3]
      have h := heap_new (w3.alloc (.cells #[.int .i64 dc, .string dt, .slice none 0 0] 32)) (.cells #[.bool true, .int .i64 dc, .string dt] 49)
      rw [show (w3.alloc (.cells #[.int .i64 dc, .string dt, .slice none 0 0] 32)).heap.size = w3.heap.size + 1 from by simp] at h
      exact h
     have HSV3 : Hid (Shop W0.heap.size h (.slice sa ss.length c1) (.slice ta ts.length c2) V3 m2 st mv2 kv2 vs2) := HSw3.out.below hbV3
     have HYV3 : Hid (V3.ownsRow W.heap.size 49 3 (.slice ra ys.length rc) ys.length (repCells ys)) := ownsRow_below HYw3.out hbV3
     have HLV3 : Hid (V3.ownsRow W.heap.size 47 3 (.slice la ls.length lc) ls.length (gCx ls)) := ownsRow_below HLw3.out hbV3
     have HKV3 : Hid (KS W0.heap.size h W V3) := HKw3.out.trans (KS.old hbV3 (by have := HKw3.out.below.size; omega))
     have HTV3 : Hid (V3.heap[w2.heap.size]? = some (.cells #[.bool false, .int .i64 0, .string ⟨#[]⟩, .bool true, .string nm, .int .i64 n] 44 (0, 0))) := blk_keep hbV3 HTw3.out
     have HBV3 : Hid (Below W0.heap.size W0 V3) := HBw3.out.trans (hbV3.mono (by have := HBw3.out.size; omega))
     have w7 : w3.cell? ⟨h, 7, none⟩ = some (.bool false) := hs3.cells.2.2.2.2.1
     have hh3 : h < w3.heap.size := blk_lt hs3.blk
     have v7 : V3.cell? ⟨h, 7, none⟩ = some (.bool false) := HSV3.out.cells.2.2.2.2.1
     have HC0 : Hid (0 <= dc) := hmd.c0
     have HC5 : Hid (dc <= 5) := hmd.c5
     have HT2 : Hid (dt.size <= 2000) := hmd.t2
     have HEF : formB dc dt = f := ef
     have EF : Hid (formB dc dt = f) := HEF
     have HNO : Hid (¬ Thing ss ts nm -> dc = 4 /\ dt = nm) := fun q => by have := hmd.no q; cases this; exact ⟨rfl, rfl⟩
     have HEY : Hid (repP ss ts nm ⟨dc, dt, dls⟩ = y) := ey
     obtain ⟨p0, p1, p2, pf⟩ := bk3 HPV3.out
     obtain ⟨r0, r1, r2, rf⟩ := bk3 HQV3.out
     have t4' : V3.cell? ⟨w2.heap.size, 4, none⟩ = some (.string nm) := by rw [Lib.cell_of_heap HTV3.out]; rfl
     clear hlk0 hlk hpre hmd hph hi2 hfr3 ey ef HD3 HR3 hs3 hk3 hbV3 HEF hdo t0 t3 t4 HSw3 HYw3 HLw3 HTw3 HMK HM HSV HYV HLV HKV HTB
     by_cases h4 : dc = 4
     ·subst h4
      have HHV3 : Hid (Calls Tryz.prog 83 #[.pointer (some ⟨h, 0, none⟩), .string nm] V3 fun e w' => Below V3.heap.size V3 w' /\ e = .returned (.bool (thingB ss ts nm))) := by
       obtain ⟨k0, k1, _⟩ := HSV3.out.cells
       exact has_any h sa ta c1 c2 ss ts nm V3 k0 k1 (HE.out.rs.below HBV3.out) (HE.out.rt.below HBV3.out) (by omega) (by omega)
      cases hth : thingB ss ts nm with
      | true =>
       rw [hth] at HHV3
       have HRP : Hid (y = ⟨true, 4, dt⟩) := by show _ = _; rw [<- HEY.out]; unfold repP; rw [if_pos hth]
       clear hth
       go_upto_region 16 with (first | (go_at_call 83; refine HHV3.out.mono ?_; rintro e w7 ⟨hbw7, rfl⟩))
       have HSw7 : Hid (Shop W0.heap.size h (.slice sa ss.length c1) (.slice ta ts.length c2) w7 m2 st mv2 kv2 vs2) := HSV3.out.below hbw7
       have HYw7 : Hid (w7.ownsRow W.heap.size 49 3 (.slice ra ys.length rc) ys.length (repCells ys)) := ownsRow_below HYV3.out hbw7
       have HLw7 : Hid (w7.ownsRow W.heap.size 47 3 (.slice la ls.length lc) ls.length (gCx ls)) := ownsRow_below HLV3.out hbw7
       have HKw7 : Hid (KS W0.heap.size h W w7) := HKV3.out.trans (KS.old hbw7 (by have := HKV3.out.below.size; omega))
       have HTw7 : Hid (w7.heap[w2.heap.size]? = some (.cells #[.bool false, .int .i64 0, .string ⟨#[]⟩, .bool true, .string nm, .int .i64 n] 44 (0, 0))) := blk_keep hbw7 HTV3.out
       have HQw7 : Hid (w7.heap[w3.heap.size]? = some (.cells #[.int .i64 4, .string dt, .slice none 0 0] 32 (0, 0))) := blk_keep hbw7 HQV3.out
       have HPw7 : Hid (w7.heap[w3.heap.size + 1]? = some (.cells #[.bool true, .int .i64 4, .string dt] 49 (0, 0))) := blk_keep hbw7 HPV3.out
       clear hbw7 HSV3 HYV3 HLV3 HTV3 HQV3 HPV3 HHV3 p0 p1 p2 pf r0 r1 r2 rf
       have hsw7 : W.heap.size <= w7.heap.size := HKw7.out.below.size
       obtain ⟨p0, p1, p2, pf⟩ := bk3 HPw7.out
       clear pf
       go_wp2_with (first | (at_builtin; refine wpList_append_own _ rfl (.tmp 74) (.tmp 76) 42 rfl W.heap.size 49 i0 (.agg #[.bool false, .int .i64 0, .string ⟨#[]⟩]) 3 32 Tryz.underlying42 hi0 hz0 hzz1 hzz2 rfl (by decide) _ _ _ rfl (HYw7.out.alloc _) ⟨w7.heap.size, 0, none⟩ 1 1 [.bool true, .int .i64 4, .string dt] rfl rfl (cell_three _ _ _ _ _) (by intro u hu; simp at hu; rcases hu with rfl | rfl | rfl <;> rfl) (by unfold maxLen; omega) (by omega) (by simp; omega) ?_; intro v4 w4 hown4 hgrow4 hnil4))
       obtain ⟨g4, cp4, rfl⟩ : ∃ g cp, v4 = .slice (some ⟨g, 0, none⟩) (ys.length + 1) cp := by
        rcases hown4.2 with ⟨e, h0⟩ | ⟨g, cap, cur, e, _⟩
        ·omega
        ·exact ⟨g, cap, e⟩
       obtain ⟨s4, l4, k4, f4⟩ := app_reply HSw7.out HYw7.out HLw7.out HKw7.out (Nat.le_refl _) (by omega) hgrow4
       have HS4 : Hid (Shop W0.heap.size h (.slice sa ss.length c1) (.slice ta ts.length c2) w4 m2 st mv2 kv2 vs2) := s4
       have HY4 : Hid (w4.ownsRow W.heap.size 49 3 (.slice (some ⟨g4, 0, none⟩) (ys.length + 1) cp4) (ys.length + 1) (repCells ys ++ [.bool true, .int .i64 4, .string dt])) := hown4
       have HL4 : Hid (w4.ownsRow W.heap.size 47 3 (.slice la ls.length lc) ls.length (gCx ls)) := l4
       have HK4 : Hid (KS W0.heap.size h W w4) := k4
       have HT4 : Hid (w4.heap[w2.heap.size]? = some (.cells #[.bool false, .int .i64 0, .string ⟨#[]⟩, .bool true, .string nm, .int .i64 n] 44 (0, 0))) := f4 _ _ 44 (by decide) HTw7.out
       obtain ⟨r0, r1, r2, rf⟩ := bk3 (f4 _ _ 32 (by decide) HQw7.out)
       have q4 : w4.cell? ⟨w2.heap.size, 4, none⟩ = some (.string nm) := by rw [Lib.cell_of_heap HT4.out]; rfl
       have hs4 : W.heap.size <= w4.heap.size := k4.below.size
       clear rf s4 hown4 l4 k4 f4 hgrow4 hnil4 HSw7 HYw7 HLw7 HKw7 HTw7 HPw7 HQw7 p0 p1 p2
       go_region_law (first | (refine step_form rfl rfl _ _ f EF.out HC0.out HC5.out HT2.out ?_ ?_; (focus (first | rfl | (simp [Act.eval]; done))); intro w6 hb6x; have hb6 : Below w4.heap.size w4 w6 := ⟨hb6x.os, hb6x.tape, hb6x.output, hb6x.size, hb6x.block⟩; have HS6 : Hid (Shop W0.heap.size h (.slice sa ss.length c1) (.slice ta ts.length c2) w6 m2 st mv2 kv2 vs2) := HS4.out.below hb6; have HY6 : Hid (w6.ownsRow W.heap.size 49 3 (.slice (some ⟨g4, 0, none⟩) (ys.length + 1) cp4) (ys.length + 1) (repCells ys ++ [.bool true, .int .i64 4, .string dt])) := ownsRow_below HY4.out hb6; have HL6 : Hid (w6.ownsRow W.heap.size 47 3 (.slice la ls.length lc) ls.length (gCx ls)) := ownsRow_below HL4.out hb6; have HK6 : Hid (KS W0.heap.size h W w6) := HK4.out.trans (KS.old hb6 (by omega)); have HLA : Hid (∀ o : Obj, (w6.alloc o).ownsRow W.heap.size 47 3 (.slice la ls.length lc) ls.length (gCx ls)) := (fun o => HL6.out.alloc o); have q6 : w6.cell? ⟨w2.heap.size, 4, none⟩ = some (.string nm) := (by rw [Lib.cell_of_heap (blk_keep hb6 HT4.out)]; rfl); have hs6 : W.heap.size <= w6.heap.size := HK6.out.below.size; clear hb6x hb6) | (refine step_appH rfl rfl W.heap.size la ls.length lc (gCx ls) ?_ ?_ w6.heap.size nm f true ?_ ?_ ?_ ?_ ?_; (focus (first | rfl | (simp [Act.eval]; done))); (focus (exact HLA.out _)); (focus (first | rfl | (simp [Act.eval]; done))); (focus (exact heap_new _ _)); (focus (simp; omega)); (focus omega); intro g' cap2 w5 hown5 hgrow5 hat5; have HFIN : Hid (_ /\ _ /\ _ /\ _) := app_look (o := .cells #[.string nm, .bool true, .string f] 47) HS6.out HY6.out HL6.out HK6.out (Nat.le_refl _) (by omega) HA2.out (w' := w5) ⟨hgrow5.os, hgrow5.tape, hgrow5.output, hgrow5.size, hgrow5.block⟩; have HAT : Hid ((Value.slice la ls.length lc).ownBlock = some g' \/ g' = w6.heap.size + 1) := (by rcases hat5 with q | q; (exact Or.inl q); (right; simpa using q)); have HO5 : Hid (w5.ownsRow W.heap.size 47 3 (.slice (some ⟨g', 0, none⟩) (ls.length + 1) cap2) (ls.length + 1) (gCx ls ++ [.string nm, .bool true, .string f])) := hown5; clear hown5 hgrow5 hat5))
       all_goals
        simp [Act.put]
        go_wp2_with fail
        obtain ⟨s5, y5, k5, a5⟩ := HFIN.out
        have HY5 : Hid (w5.ownsRow W.heap.size 49 3 (.slice (some ⟨g4, 0, none⟩) (ys ++ [y]).length cp4) (ys ++ [y]).length (repCells (ys ++ [y]))) := by
         show World.ownsRow _ _ _ _ _ _ _
         rw [List.length_append, List.length_singleton, repCells_snoc, HRP.out]
         exact y5
        have HL5 : Hid (w5.ownsRow W.heap.size 47 3 (.slice (some ⟨g', 0, none⟩) (ls ++ [(⟨nm, true, f⟩ : G3)]).length cap2) (ls ++ [(⟨nm, true, f⟩ : G3)]).length (gCx (ls ++ [(⟨nm, true, f⟩ : G3)]))) := by
         show World.ownsRow _ _ _ _ _ _ _
         rw [List.length_append, List.length_singleton, gC_snoc]
         exact HO5.out
        have HP5 : Hid (phi ts m2 <= -199 + ((ys ++ [y]).length : Int)) := by
         have := HP2.out
         show _ <= _
         simp
         omega
        have HS5 : Hid (Shop W0.heap.size h (.slice sa ss.length c1) (.slice ta ts.length c2) w5 m2 st mv2 kv2 vs2) := s5
        have HK5 : Hid (KS W0.heap.size h W w5) := k5
        have HA5 : Hid (Apart m2 vs2 (.slice (some ⟨g', 0, none⟩) (ls ++ [(⟨nm, true, f⟩ : G3)]).length cap2)) := a5 _ _ _ HAT.out
        go_round
        case rel => exact ⟨ys ++ [y], ls ++ [(⟨nm, true, f⟩ : G3)], m2, mv2, kv2, vs2, some ⟨g4, 0, none⟩, some ⟨g', 0, none⟩, cp4, cap2, by simp; omega, by simp, by simp, HR2, HD2, HS5, HI2, HP5, HY5, HL5, HK5, HA5, HF2⟩
        case measure => simp [lenV]; omega
      | false =>
       rw [hth] at HHV3
       have hnot : ¬ Thing ss ts nm := fun q => by unfold thingB at hth; simp [q] at hth
       have HRP : Hid (y = ⟨false, 0, ⟨#[]⟩⟩) := by show _ = _; rw [<- HEY.out]; unfold repP; rw [hth]; rfl
       have HYB : Hid ((Value.slice ra ys.length rc).ownBlock ≠ some (w3.heap.size + 1)) := fun e => by have := HYN.out _ e; omega
       have HLB : Hid ((Value.slice la ls.length lc).ownBlock ≠ some (w3.heap.size + 1)) := fun e => by have := HLN.out _ e; omega
       have hne7 : w3.heap.size + 1 ≠ h := by omega
       have hne8 : w2.heap.size ≠ w3.heap.size + 1 := by have := blk_lt HTB3.out; omega
       clear hth hnot
       go_upto_region 16 with (first | (go_at_call 83; refine HHV3.out.mono ?_; rintro e w7 ⟨hbw7, rfl⟩; have hP7 : w7.heap[w3.heap.size + 1]? = some (.cells #[.bool true, .int .i64 4, .string dt] 49 (0, 0)) := blk_keep hbw7 HPV3.out; have HPw7 : Hid (w7.heap[w3.heap.size + 1]? = some (.cells #[.bool true, .int .i64 4, .string dt] 49 (0, 0))) := hP7; obtain ⟨m0, mm1, mm2, mf⟩ := bk3 hP7; obtain ⟨X, eX⟩ : ∃ X, ((w7.setCell ⟨w3.heap.size + 1, 0, none⟩ (.bool false)).setCell ⟨w3.heap.size + 1, 1, none⟩ (.int .i64 0)).setCell ⟨w3.heap.size + 1, 2, none⟩ (.string ⟨#[]⟩) = X := ⟨_, rfl⟩; clear hP7))
       have HSw7 : Hid (Shop W0.heap.size h (.slice sa ss.length c1) (.slice ta ts.length c2) w7 m2 st mv2 kv2 vs2) := HSV3.out.below hbw7
       have HYw7 : Hid (w7.ownsRow W.heap.size 49 3 (.slice ra ys.length rc) ys.length (repCells ys)) := ownsRow_below HYV3.out hbw7
       have HLw7 : Hid (w7.ownsRow W.heap.size 47 3 (.slice la ls.length lc) ls.length (gCx ls)) := ownsRow_below HLV3.out hbw7
       have HKw7 : Hid (KS W0.heap.size h W w7) := HKV3.out.trans (KS.old hbw7 (by have := HKV3.out.below.size; omega))
       have HTw7 : Hid (w7.heap[w2.heap.size]? = some (.cells #[.bool false, .int .i64 0, .string ⟨#[]⟩, .bool true, .string nm, .int .i64 n] 44 (0, 0))) := blk_keep hbw7 HTV3.out
       have HSX : Hid (Shop W0.heap.size h (.slice sa ss.length c1) (.slice ta ts.length c2) X m2 st mv2 kv2 vs2) := by rw [<- eX]; exact HSw7.out.set127 HPw7.out hne7 _ _ _
       have HYX : Hid (X.ownsRow W.heap.size 49 3 (.slice ra ys.length rc) ys.length (repCells ys)) := by rw [<- eX]; exact own_set3_ne HYw7.out HYB.out _ _ _
       have HLX : Hid (X.ownsRow W.heap.size 47 3 (.slice la ls.length lc) ls.length (gCx ls)) := by rw [<- eX]; exact own_set3_ne HLw7.out HLB.out _ _ _
       have HKX : Hid (KS W0.heap.size h W X) := by rw [<- eX]; exact ks_set3 HKw7.out (by omega) (by omega) _ _ _
       have HTX : Hid (X.heap[w2.heap.size]? = some (.cells #[.bool false, .int .i64 0, .string ⟨#[]⟩, .bool true, .string nm, .int .i64 n] 44 (0, 0))) := by rw [<- eX]; exact blk_set3 HTw7.out hne8 _ _ _
       have HQX : Hid (X.heap[w3.heap.size]? = some (.cells #[.int .i64 4, .string dt, .slice none 0 0] 32 (0, 0))) := by rw [<- eX]; exact blk_set3 (blk_keep hbw7 HQV3.out) (by omega) _ _ _
       have HPX : Hid (X.heap[w3.heap.size + 1]? = some (.cells #[.bool false, .int .i64 0, .string ⟨#[]⟩] 49 (0, 0))) := by rw [<- eX]; exact set3_at HPw7.out _ _ _
       clear hbw7 HSV3 HYV3 HLV3 HTV3 HQV3 HPV3 HHV3 HSw7 HYw7 HLw7 HKw7 HTw7 HPw7 p0 p1 p2 pf r0 r1 r2 rf m0 mm1 mm2 mf eX HTB3 HYN HLN
       have hsX : W.heap.size <= X.heap.size := HKX.out.below.size
       obtain ⟨p0, p1, p2, pf⟩ := bk3 HPX.out
       clear pf
       go_wp2_with (first | (at_builtin; refine wpList_append_own _ rfl (.tmp 74) (.tmp 76) 42 rfl W.heap.size 49 i0 (.agg #[.bool false, .int .i64 0, .string ⟨#[]⟩]) 3 32 Tryz.underlying42 hi0 hz0 hzz1 hzz2 rfl (by decide) _ _ _ rfl (HYX.out.alloc _) ⟨X.heap.size, 0, none⟩ 1 1 [.bool false, .int .i64 0, .string ⟨#[]⟩] rfl rfl (cell_three _ _ _ _ _) (by intro u hu; simp at hu; rcases hu with rfl | rfl | rfl <;> rfl) (by unfold maxLen; omega) (by omega) (by simp; omega) ?_; intro v4 w4 hown4 hgrow4 hnil4))
       obtain ⟨g4, cp4, rfl⟩ : ∃ g cp, v4 = .slice (some ⟨g, 0, none⟩) (ys.length + 1) cp := by
        rcases hown4.2 with ⟨e, h0⟩ | ⟨g, cap, cur, e, _⟩
        ·omega
        ·exact ⟨g, cap, e⟩
       obtain ⟨s4, l4, k4, f4⟩ := app_reply HSX.out HYX.out HLX.out HKX.out (Nat.le_refl _) (by omega) hgrow4
       have HS4 : Hid (Shop W0.heap.size h (.slice sa ss.length c1) (.slice ta ts.length c2) w4 m2 st mv2 kv2 vs2) := s4
       have HY4 : Hid (w4.ownsRow W.heap.size 49 3 (.slice (some ⟨g4, 0, none⟩) (ys.length + 1) cp4) (ys.length + 1) (repCells ys ++ [.bool false, .int .i64 0, .string ⟨#[]⟩])) := hown4
       have HL4 : Hid (w4.ownsRow W.heap.size 47 3 (.slice la ls.length lc) ls.length (gCx ls)) := l4
       have HK4 : Hid (KS W0.heap.size h W w4) := k4
       have HT4 : Hid (w4.heap[w2.heap.size]? = some (.cells #[.bool false, .int .i64 0, .string ⟨#[]⟩, .bool true, .string nm, .int .i64 n] 44 (0, 0))) := f4 _ _ 44 (by decide) HTX.out
       obtain ⟨r0, r1, r2, rf⟩ := bk3 (f4 _ _ 32 (by decide) HQX.out)
       have q4 : w4.cell? ⟨w2.heap.size, 4, none⟩ = some (.string nm) := by rw [Lib.cell_of_heap HT4.out]; rfl
       have hs4 : W.heap.size <= w4.heap.size := k4.below.size
       clear rf s4 hown4 l4 k4 f4 hgrow4 hnil4 HSX HYX HLX HKX HTX HPX HQX p0 p1 p2
       go_region_law (first | (refine step_form rfl rfl _ _ f EF.out HC0.out HC5.out HT2.out ?_ ?_; (focus (first | rfl | (simp [Act.eval]; done))); intro w6 hb6x; have hb6 : Below w4.heap.size w4 w6 := ⟨hb6x.os, hb6x.tape, hb6x.output, hb6x.size, hb6x.block⟩; have HS6 : Hid (Shop W0.heap.size h (.slice sa ss.length c1) (.slice ta ts.length c2) w6 m2 st mv2 kv2 vs2) := HS4.out.below hb6; have HY6 : Hid (w6.ownsRow W.heap.size 49 3 (.slice (some ⟨g4, 0, none⟩) (ys.length + 1) cp4) (ys.length + 1) (repCells ys ++ [.bool false, .int .i64 0, .string ⟨#[]⟩])) := ownsRow_below HY4.out hb6; have HL6 : Hid (w6.ownsRow W.heap.size 47 3 (.slice la ls.length lc) ls.length (gCx ls)) := ownsRow_below HL4.out hb6; have HK6 : Hid (KS W0.heap.size h W w6) := HK4.out.trans (KS.old hb6 (by omega)); have HLA : Hid (∀ o : Obj, (w6.alloc o).ownsRow W.heap.size 47 3 (.slice la ls.length lc) ls.length (gCx ls)) := (fun o => HL6.out.alloc o); have q6 : w6.cell? ⟨w2.heap.size, 4, none⟩ = some (.string nm) := (by rw [Lib.cell_of_heap (blk_keep hb6 HT4.out)]; rfl); have hs6 : W.heap.size <= w6.heap.size := HK6.out.below.size; clear hb6x hb6) | (refine step_appH rfl rfl W.heap.size la ls.length lc (gCx ls) ?_ ?_ w6.heap.size nm f true ?_ ?_ ?_ ?_ ?_; (focus (first | rfl | (simp [Act.eval]; done))); (focus (exact HLA.out _)); (focus (first | rfl | (simp [Act.eval]; done))); (focus (exact heap_new _ _)); (focus (simp; omega)); (focus omega); intro g' cap2 w5 hown5 hgrow5 hat5; have HFIN : Hid (_ /\ _ /\ _ /\ _) := app_look (o := .cells #[.string nm, .bool true, .string f] 47) HS6.out HY6.out HL6.out HK6.out (Nat.le_refl _) (by omega) HA2.out (w' := w5) ⟨hgrow5.os, hgrow5.tape, hgrow5.output, hgrow5.size, hgrow5.block⟩; have HAT : Hid ((Value.slice la ls.length lc).ownBlock = some g' \/ g' = w6.heap.size + 1) := (by rcases hat5 with q | q; (exact Or.inl q); (right; simpa using q)); have HO5 : Hid (w5.ownsRow W.heap.size 47 3 (.slice (some ⟨g', 0, none⟩) (ls.length + 1) cap2) (ls.length + 1) (gCx ls ++ [.string nm, .bool true, .string f])) := hown5; clear hown5 hgrow5 hat5))
       all_goals
        simp [Act.put]
        go_wp2_with fail
        obtain ⟨s5, y5, k5, a5⟩ := HFIN.out
        have HY5 : Hid (w5.ownsRow W.heap.size 49 3 (.slice (some ⟨g4, 0, none⟩) (ys ++ [y]).length cp4) (ys ++ [y]).length (repCells (ys ++ [y]))) := by
         show World.ownsRow _ _ _ _ _ _ _
         rw [List.length_append, List.length_singleton, repCells_snoc, HRP.out]
         exact y5
        have HL5 : Hid (w5.ownsRow W.heap.size 47 3 (.slice (some ⟨g', 0, none⟩) (ls ++ [(⟨nm, true, f⟩ : G3)]).length cap2) (ls ++ [(⟨nm, true, f⟩ : G3)]).length (gCx (ls ++ [(⟨nm, true, f⟩ : G3)]))) := by
         show World.ownsRow _ _ _ _ _ _ _
         rw [List.length_append, List.length_singleton, gC_snoc]
         exact HO5.out
        have HP5 : Hid (phi ts m2 <= -199 + ((ys ++ [y]).length : Int)) := by
         have := HP2.out
         show _ <= _
         simp
         omega
        have HS5 : Hid (Shop W0.heap.size h (.slice sa ss.length c1) (.slice ta ts.length c2) w5 m2 st mv2 kv2 vs2) := s5
        have HK5 : Hid (KS W0.heap.size h W w5) := k5
        have HA5 : Hid (Apart m2 vs2 (.slice (some ⟨g', 0, none⟩) (ls ++ [(⟨nm, true, f⟩ : G3)]).length cap2)) := a5 _ _ _ HAT.out
        go_round
        case rel => exact ⟨ys ++ [y], ls ++ [(⟨nm, true, f⟩ : G3)], m2, mv2, kv2, vs2, some ⟨g4, 0, none⟩, some ⟨g', 0, none⟩, cp4, cap2, by simp; omega, by simp, by simp, HR2, HD2, HS5, HI2, HP5, HY5, HL5, HK5, HA5, HF2⟩
        case measure => simp [lenV]; omega
     ·have HRP : Hid (y = ⟨true, dc, dt⟩) := by
       show _ = _
       rw [<- HEY.out]
       have hth : thingB ss ts nm = true := by
        by_cases q : Thing ss ts nm
        ·unfold thingB; simp [q]
        ·exact absurd (HNO.out q).1 h4
       unfold repP
       rw [if_pos hth]
      clear HTB3 HYN HLN
      go_upto_region 16 with fail
      clear p0 p1 p2 pf r0 r1 r2 rf h4 hV3s eV3
      have hsV3 : W.heap.size <= V3.heap.size := HKV3.out.below.size
      obtain ⟨p0, p1, p2, pf⟩ := bk3 HPV3.out
      clear pf
      go_wp2_with (first | (at_builtin; refine wpList_append_own _ rfl (.tmp 74) (.tmp 76) 42 rfl W.heap.size 49 i0 (.agg #[.bool false, .int .i64 0, .string ⟨#[]⟩]) 3 32 Tryz.underlying42 hi0 hz0 hzz1 hzz2 rfl (by decide) _ _ _ rfl (HYV3.out.alloc _) ⟨V3.heap.size, 0, none⟩ 1 1 [.bool true, .int .i64 dc, .string dt] rfl rfl (cell_three _ _ _ _ _) (by intro u hu; simp at hu; rcases hu with rfl | rfl | rfl <;> rfl) (by unfold maxLen; omega) (by omega) (by simp; omega) ?_; intro v4 w4 hown4 hgrow4 hnil4))
      obtain ⟨g4, cp4, rfl⟩ : ∃ g cp, v4 = .slice (some ⟨g, 0, none⟩) (ys.length + 1) cp := by
       rcases hown4.2 with ⟨e, h0⟩ | ⟨g, cap, cur, e, _⟩
       ·omega
       ·exact ⟨g, cap, e⟩
      obtain ⟨s4, l4, k4, f4⟩ := app_reply HSV3.out HYV3.out HLV3.out HKV3.out (Nat.le_refl _) (by omega) hgrow4
      have HS4 : Hid (Shop W0.heap.size h (.slice sa ss.length c1) (.slice ta ts.length c2) w4 m2 st mv2 kv2 vs2) := s4
      have HY4 : Hid (w4.ownsRow W.heap.size 49 3 (.slice (some ⟨g4, 0, none⟩) (ys.length + 1) cp4) (ys.length + 1) (repCells ys ++ [.bool true, .int .i64 dc, .string dt])) := hown4
      have HL4 : Hid (w4.ownsRow W.heap.size 47 3 (.slice la ls.length lc) ls.length (gCx ls)) := l4
      have HK4 : Hid (KS W0.heap.size h W w4) := k4
      have HT4 : Hid (w4.heap[w2.heap.size]? = some (.cells #[.bool false, .int .i64 0, .string ⟨#[]⟩, .bool true, .string nm, .int .i64 n] 44 (0, 0))) := f4 _ _ 44 (by decide) HTV3.out
      obtain ⟨r0, r1, r2, rf⟩ := bk3 (f4 _ _ 32 (by decide) HQV3.out)
      have q4 : w4.cell? ⟨w2.heap.size, 4, none⟩ = some (.string nm) := by rw [Lib.cell_of_heap HT4.out]; rfl
      have hs4 : W.heap.size <= w4.heap.size := k4.below.size
      clear rf s4 hown4 l4 k4 f4 hgrow4 hnil4 HSV3 HYV3 HLV3 HKV3 HTV3 HPV3 HQV3 p0 p1 p2
      go_region_law (first | (refine step_form rfl rfl _ _ f EF.out HC0.out HC5.out HT2.out ?_ ?_; (focus (first | rfl | (simp [Act.eval]; done))); intro w6 hb6x; have hb6 : Below w4.heap.size w4 w6 := ⟨hb6x.os, hb6x.tape, hb6x.output, hb6x.size, hb6x.block⟩; have HS6 : Hid (Shop W0.heap.size h (.slice sa ss.length c1) (.slice ta ts.length c2) w6 m2 st mv2 kv2 vs2) := HS4.out.below hb6; have HY6 : Hid (w6.ownsRow W.heap.size 49 3 (.slice (some ⟨g4, 0, none⟩) (ys.length + 1) cp4) (ys.length + 1) (repCells ys ++ [.bool true, .int .i64 dc, .string dt])) := ownsRow_below HY4.out hb6; have HL6 : Hid (w6.ownsRow W.heap.size 47 3 (.slice la ls.length lc) ls.length (gCx ls)) := ownsRow_below HL4.out hb6; have HK6 : Hid (KS W0.heap.size h W w6) := HK4.out.trans (KS.old hb6 (by omega)); have HLA : Hid (∀ o : Obj, (w6.alloc o).ownsRow W.heap.size 47 3 (.slice la ls.length lc) ls.length (gCx ls)) := (fun o => HL6.out.alloc o); have q6 : w6.cell? ⟨w2.heap.size, 4, none⟩ = some (.string nm) := (by rw [Lib.cell_of_heap (blk_keep hb6 HT4.out)]; rfl); have hs6 : W.heap.size <= w6.heap.size := HK6.out.below.size; clear hb6x hb6) | (refine step_appH rfl rfl W.heap.size la ls.length lc (gCx ls) ?_ ?_ w6.heap.size nm f true ?_ ?_ ?_ ?_ ?_; (focus (first | rfl | (simp [Act.eval]; done))); (focus (exact HLA.out _)); (focus (first | rfl | (simp [Act.eval]; done))); (focus (exact heap_new _ _)); (focus (simp; omega)); (focus omega); intro g' cap2 w5 hown5 hgrow5 hat5; have HFIN : Hid (_ /\ _ /\ _ /\ _) := app_look (o := .cells #[.string nm, .bool true, .string f] 47) HS6.out HY6.out HL6.out HK6.out (Nat.le_refl _) (by omega) HA2.out (w' := w5) ⟨hgrow5.os, hgrow5.tape, hgrow5.output, hgrow5.size, hgrow5.block⟩; have HAT : Hid ((Value.slice la ls.length lc).ownBlock = some g' \/ g' = w6.heap.size + 1) := (by rcases hat5 with q | q; (exact Or.inl q); (right; simpa using q)); have HO5 : Hid (w5.ownsRow W.heap.size 47 3 (.slice (some ⟨g', 0, none⟩) (ls.length + 1) cap2) (ls.length + 1) (gCx ls ++ [.string nm, .bool true, .string f])) := hown5; clear hown5 hgrow5 hat5))
      all_goals
       simp [Act.put]
       go_wp2_with fail
       obtain ⟨s5, y5, k5, a5⟩ := HFIN.out
       have HY5 : Hid (w5.ownsRow W.heap.size 49 3 (.slice (some ⟨g4, 0, none⟩) (ys ++ [y]).length cp4) (ys ++ [y]).length (repCells (ys ++ [y]))) := by
        show World.ownsRow _ _ _ _ _ _ _
        rw [List.length_append, List.length_singleton, repCells_snoc, HRP.out]
        exact y5
       have HL5 : Hid (w5.ownsRow W.heap.size 47 3 (.slice (some ⟨g', 0, none⟩) (ls ++ [(⟨nm, true, f⟩ : G3)]).length cap2) (ls ++ [(⟨nm, true, f⟩ : G3)]).length (gCx (ls ++ [(⟨nm, true, f⟩ : G3)]))) := by
        show World.ownsRow _ _ _ _ _ _ _
        rw [List.length_append, List.length_singleton, gC_snoc]
        exact HO5.out
       have HP5 : Hid (phi ts m2 <= -199 + ((ys ++ [y]).length : Int)) := by
        have := HP2.out
        show _ <= _
        simp
        omega
       have HS5 : Hid (Shop W0.heap.size h (.slice sa ss.length c1) (.slice ta ts.length c2) w5 m2 st mv2 kv2 vs2) := s5
       have HK5 : Hid (KS W0.heap.size h W w5) := k5
       have HA5 : Hid (Apart m2 vs2 (.slice (some ⟨g', 0, none⟩) (ls ++ [(⟨nm, true, f⟩ : G3)]).length cap2)) := a5 _ _ _ HAT.out
       go_round
       case rel => exact ⟨ys ++ [y], ls ++ [(⟨nm, true, f⟩ : G3)], m2, mv2, kv2, vs2, some ⟨g4, 0, none⟩, some ⟨g', 0, none⟩, cp4, cap2, by simp; omega, by simp, by simp, HR2, HD2, HS5, HI2, HP5, HY5, HL5, HK5, HA5, HF2⟩
       case measure => simp [lenV]; omega
    ·have HDN : Hid (Does ss ts ms st (.run is [] []) m2 an) := HDF.out _ _ hdo hdead.stop
     have HDD : Hid (DeadAt h (.slice sa ss.length c1) (.slice ta ts.length c2) w3 an v) := hdead
     obtain ⟨mv3, kv3, c, t, ca, cn, cc, hblk, rfl⟩ := hdead.out
     have d4 : w3.cell? ⟨h, 4, none⟩ = some (.int .i64 c) := by rw [Lib.cell_of_heap hblk]; rfl
     have d5 : w3.cell? ⟨h, 5, none⟩ = some (.string t) := by rw [Lib.cell_of_heap hblk]; rfl
     have d6 : w3.cell? ⟨h, 6, none⟩ = some (.slice ca cn cc) := by rw [Lib.cell_of_heap hblk]; rfl
     have d7 : w3.cell? ⟨h, 7, none⟩ = some (.bool true) := by rw [Lib.cell_of_heap hblk]; rfl
     have HK3 : Hid (KS W0.heap.size h W w3) := HKV.out.trans hk3
     have hR3 : w3.heap[w.heap.size + 1]? = some (.cells #[.int .i64 0, .string ⟨#[]⟩, .slice none 0 0] 32 (0, 0)) := HK3.out.keep _ _ 32 (by decide) (by decide) (by omega) HRB.out
     obtain ⟨z0, z1, z2, zf⟩ := bk3 hR3
     have HR3 : Hid (w3.heap[w.heap.size + 1]? = some (.cells #[.int .i64 0, .string ⟨#[]⟩, .slice none 0 0] 32 (0, 0))) := hR3
     have hlt3 : w.heap.size + 1 < w3.heap.size := blk_lt hR3
     have hh3 : h < w3.heap.size := by omega
     have hne3 : ¬ w.heap.size + 1 = h := by omega
     have HX : Hid (((((w3.setCell ⟨w.heap.size + 1, 0, none⟩ (.int .i64 c)).setCell ⟨w.heap.size + 1, 1, none⟩ (.string t)).setCell ⟨w.heap.size + 1, 2, none⟩ (.slice ca cn cc)).alloc (.cells #[.int .i64 c, .string t, .slice ca cn cc] 32)).heap[w.heap.size + 1]? = some (.cells #[.int .i64 c, .string t, .slice ca cn cc] 32 (0, 0))) := by
      have e := set3_at hR3 (.int .i64 c) (.string t) (.slice ca cn cc)
      show _ = _
      rw [Lib.alloc_old _ _ _ (blk_lt e)]
      exact e
     clear hblk hR3 hdead hdo hk3 HSV HYV HLV HKV HBV HTB HMK HM
     go_wp2_with fail
     obtain ⟨y0, y1, y2, _⟩ := bk3 HX.out
     have hks : KS W0.heap.size h w w3 := (KS.old HB0.out hBw).trans HK3.out
     have hk3 := ks_set3 hks (b := w.heap.size + 1) (by omega) (by omega) (.int .i64 c) (.string t) (.slice ca cn cc)
     have hd3 := HDD.out.set3 HR3.out hne3 (.int .i64 c) (.string t) (.slice ca cn cc)
     have hbA : ∀ V : World, ∀ o : Obj, Below V.heap.size V (V.alloc o) := fun V o => (Below.refl _ _).alloc (Nat.le_refl _) _
     exact bodyPost_ret (v := .tuple #[.agg #[.int .i64 c, .string t, .slice ca cn cc], .slice la ls.length lc]) (by simp [results, Tryz.results55, go_sem, y0, y1, y2]) rfl ⟨hk3.trans (KS.old (hbA _ _) (by have := hk3.below.size; omega)), m2, an, HDN.out, Or.inr ⟨_, _, rfl, hd3.below (hbA _ _)⟩⟩
end
end Go.Proofs.YtmanoabocelpeaaGreatDoor
