import Derived.Test.YtmanoabocelpeaaGreatDoorTImG
namespace Go.Proofs.YtmanoabocelpeaaGreatDoor
open Go.RowKit
set_option linter.unusedVariables false
set_option maxHeartbeats 8000000
set_option maxRecDepth 100000
section
open Go.Deep
theorem at_true {l : List ByteArray} {t : ByteArray} {r : Nat} (ha : Asc l) (h : At l t r true) : r < l.length /\ nx l r = t := by
 obtain ⟨j, hj, e⟩ := h.has.mp rfl
 rcases Nat.lt_trichotomy j r with q | q | q
 ·have := h.lo j q; rw [e, lessB_irrefl] at this; cases this
 ·subst q; exact ⟨hj, e⟩
 ·have h1 := h.hi r (Nat.le_refl _) (by omega)
  have h2 := ha.pair q hj
  rw [e, h1] at h2; cases h2
theorem at_false {l : List ByteArray} {t : ByteArray} {r : Nat} (h : At l t r false) : ¬ Has l t := fun q => by have := h.has.mpr q; cases this
theorem nms_app (ms : Ms) (nm : ByteArray) (o : Option Md) : nms (ms ++ [(nm, o)]) = nms ms ++ [nm] := by simp [nms]
theorem thing_leaf {B h mb R : Nat} {sv tv fv : Value} {ss : List S2} {ts : List T2} {ms : Ms} {st : List ByteArray} {av kv : Value} {vs : ByteArray -> Value} {nm : ByteArray} {w U : World} {u0 u1 u2 u3 u4 u5 : Value} {c : Int} {t : ByteArray} (s : MkX B h mb 2 sv tv fv U ms st (nms ms ++ [nm]) av kv vs) (hk : KP B h mb av kv w U) (hR : U.heap[R]? = some (.cells #[u0, u1, u2, u3, u4, u5] 66 (0, 0))) (hne : R ≠ h) (hB : B <= R) (hw : w.heap.size <= R) (hl : lk ms nm = none) (hd : Does ss ts ms st (.make nm) (ms ++ [(nm, some ⟨c, t, []⟩)]) (.ok ⟨c, t, []⟩)) :
  ThingP B h mb sv tv fv ss ts ms st av kv vs nm w (.returned (mark0 ⟨c, t, []⟩ (.slice none 0 0))) ((((((U.setCell ⟨R, 0, none⟩ (.bool false)).setCell ⟨R, 1, none⟩ (.int .i64 c)).setCell ⟨R, 2, none⟩ (.string t)).setCell ⟨R, 3, none⟩ (.slice none 0 0)).setCell ⟨R, 4, none⟩ (.string ⟨#[]⟩)).setCell ⟨R, 5, none⟩ (.slice none 0 0)) := by
 refine ⟨hk.set6 hB hw _ _ _ _ _ _, Or.inl ⟨ms, ms ++ [(nm, some ⟨c, t, []⟩)], ⟨c, t, []⟩, .slice none 0 0, av, kv, vs, rfl, ?_, fun x hx => lk_app_other (fun e => hx e.symm), lk_app_new hl, hd, looks_nil _ _, fun b q => by simp [Value.ownBlock] at q, Row2.refl _ _, Row2.refl _ _, FrN.refl _ _ _⟩⟩
 rw [nms_app]
 exact (s.le (k' := 1) (by omega)).set6 hR hne _ _ _ _ _ _
theorem makeThing_any (W0 : World) (h mb : Nat) (sa ta : Option Addr) (c1 c2 : Nat) (ss : List S2) (ts : List T2) (nm : ByteArray) (ms : Ms) (st : List ByteArray) (av kv : Value) (vs : ByteArray -> Value) (w : World) (hE : EnvS W0 sa ta ss ts)
  (s : MkX W0.heap.size h mb 2 (.slice sa ss.length c1) (.slice ta ts.length c2) (.func (.func 64) #[.pointer (some ⟨h, 0, none⟩)] #[]) w ms st (nms ms ++ [nm]) av kv vs) (hi : Inv ss ts ms st) (hp : phi ts ms <= 0) (hW : Below W0.heap.size W0 w) (hk : lk ms nm = none) (h60 : st.length <= 60) (hnm : NameOk nm)
  (hR : ∀ i a cap, i < ts.length -> (tx ts i).name = nm -> Row3 W0 a (tx ts i).code -> st.length < 60 -> RunAt W0 h mb (.slice sa ss.length c1) (.slice ta ts.length c2) (.func (.func 64) #[.pointer (some ⟨h, 0, none⟩)] #[]) ss ts (st ++ [nm]) nm a cap (tx ts i).code) :
  Calls Tryz.prog 88 #[.pointer (some ⟨h, 0, none⟩), .string nm] w fun e w' => ThingP W0.heap.size h mb (.slice sa ss.length c1) (.slice ta ts.length c2) (.func (.func 64) #[.pointer (some ⟨h, 0, none⟩)] #[]) ss ts ms st av kv vs nm w e w' := by
 have hB := hW.size
 have hhw : h < w.heap.size := blk_lt s.blk
 obtain ⟨W, eW⟩ : ∃ W, w.alloc (.cells #[.bool false, .int .i64 0, .string ⟨#[]⟩, .slice none 0 0, .string ⟨#[]⟩, .slice none 0 0] 66) = W := ⟨_, rfl⟩
 have hbW : Below w.heap.size w W := by rw [<- eW]; exact alloc_below _ _
 have HRB : Hid (W.heap[w.heap.size]? = some (.cells #[.bool false, .int .i64 0, .string ⟨#[]⟩, .slice none 0 0, .string ⟨#[]⟩, .slice none 0 0] 66 (0, 0))) := by
  show _ = _
  rw [<- eW]; exact heap_new _ _
 obtain ⟨x0, x1, _⟩ := (s.below hbW).cells
 have hl1 := hE.l1
 have hl2 := hE.l2
 have HFS : Hid (∀ V, Below w.heap.size w V -> Calls Tryz.prog 99 #[.agg #[.slice sa ss.length c1, .slice ta ts.length c2], .string nm] V fun e w' => Below V.heap.size V w' /\ ∃ (r : Nat) (b : Bool), e = .returned (.tuple #[.int .i64 r, .bool b]) /\ At (snames ss) nm r b) := fun V hV => findSource_any sa ta ss.length ts.length c1 c2 ss nm V (hE.rs.below (hW.trans (hV.mono hB))) (by omega) hE.v.ascS rfl
 have HFT : Hid (∀ V, Below w.heap.size w V -> Calls Tryz.prog 100 #[.agg #[.slice sa ss.length c1, .slice ta ts.length c2], .string nm] V fun e w' => Below V.heap.size V w' /\ ∃ (r : Nat) (b : Bool), e = .returned (.tuple #[.int .i64 r, .bool b]) /\ At (tnames ts) nm r b) := fun V hV => findTarget_any sa ta ss.length ts.length c1 c2 ts nm V (hE.rt.below (hW.trans (hV.mono hB))) (by omega) hE.v.ascT rfl
 have HS : Hid (MkX W0.heap.size h mb 2 (.slice sa ss.length c1) (.slice ta ts.length c2) (.func (.func 64) #[.pointer (some ⟨h, 0, none⟩)] #[]) w ms st (nms ms ++ [nm]) av kv vs) := s
 have HE : Hid (EnvS W0 sa ta ss ts) := hE
 have HF : Hid (Inv ss ts ms st /\ phi ts ms <= 0 /\ Below W0.heap.size W0 w /\ lk ms nm = none /\ NameOk nm) := ⟨hi, hp, hW, hk, hnm⟩
 have HR : Hid (∀ i a cap, i < ts.length -> (tx ts i).name = nm -> Row3 W0 a (tx ts i).code -> st.length < 60 -> RunAt W0 h mb (.slice sa ss.length c1) (.slice ta ts.length c2) (.func (.func 64) #[.pointer (some ⟨h, 0, none⟩)] #[]) ss ts (st ++ [nm]) nm a cap (tx ts i).code) := hR
 have HB : Hid (Below w.heap.size w W) := hbW
 clear s hi hp hW hk hnm hR hbW hE
 go_enter Tryz.func88, Tryz.ntmps88
 go_wp2_with fail
 refine (HFS.out W HB.out).mono ?_
 rintro e w3 ⟨hb3, r, b, rfl, hat⟩
 have HB3 : Hid (Below w.heap.size w w3) := below_trans HB.out hb3
 have HR3 : Hid (w3.heap[w.heap.size]? = some (.cells #[.bool false, .int .i64 0, .string ⟨#[]⟩, .slice none 0 0, .string ⟨#[]⟩, .slice none 0 0] 66 (0, 0))) := blk_keep hb3 HRB.out
 have HAT : Hid (At (snames ss) nm r b) := hat
 have HS3 : Hid (MkX W0.heap.size h mb 2 (.slice sa ss.length c1) (.slice ta ts.length c2) (.func (.func 64) #[.pointer (some ⟨h, 0, none⟩)] #[]) w3 ms st (nms ms ++ [nm]) av kv vs) := HS.out.below HB3.out
 clear hb3 hat x0 x1 HRB eW
 obtain ⟨x0, x1, _⟩ := HS3.out.cells
 obtain ⟨⟨z0, z1, z2, z3, z4, z5⟩, zf⟩ := bk6 HR3.out
 dsimp only
 cases b with
 | true =>
  obtain ⟨hr, hrn⟩ := at_true HE.out.v.ascS HAT.out
  rw [snames_length] at hr
  rw [nx_snames] at hrn
  have hrI : (r : Int) < (ss.length : Int) := by omega
  have HDO : Does ss ts ms st (.make nm) (ms ++ [(nm, some ⟨0, (sx ss r).text, []⟩)]) (.ok ⟨0, (sx ss r).text, []⟩) := .source HF.out.2.2.2.1 hr hrn
  obtain ⟨sb, so, rfl, _, e2⟩ := (HE.out.rs.below (HF.out.2.2.1.trans (HB3.out.mono hB))) r hr
  generalize (sx ss r).text = tx0 at HDO e2
  have HD : Hid (Does ss ts ms st (.make nm) (ms ++ [(nm, some ⟨0, tx0, []⟩)]) (.ok ⟨0, tx0, []⟩)) := HDO
  clear HDO hrn HFS HFT HR
  go_wp2_with fail
  obtain ⟨⟨v0, v1, v2, v3, v4, v5⟩, _⟩ := bk6 (set6_at HR3.out (.bool false) (.int .i64 0) (.string tx0) (.slice none 0 0) (.string ⟨#[]⟩) (.slice none 0 0))
  exact bodyPost_ret (v := mark0 ⟨0, tx0, []⟩ (.slice none 0 0)) (by simp [results, Tryz.results88, go_sem, mark0, v0, v1, v2, v3, v4, v5]) rfl (thing_leaf HS3.out (KP.old HB3.out hB) HR3.out (by omega) hB (Nat.le_refl _) HF.out.2.2.2.1 HD.out)
 | false =>
  have HNS : Hid (¬ Has (snames ss) nm) := at_false HAT.out
  go_wp2_with fail
  refine (HFT.out w3 HB3.out).mono ?_
  rintro e w4 ⟨hb4, r4, b4, rfl, hat4⟩
  have HB4 : Hid (Below w.heap.size w w4) := below_trans HB3.out hb4
  have HR4 : Hid (w4.heap[w.heap.size]? = some (.cells #[.bool false, .int .i64 0, .string ⟨#[]⟩, .slice none 0 0, .string ⟨#[]⟩, .slice none 0 0] 66 (0, 0))) := blk_keep hb4 HR3.out
  have HAT4 : Hid (At (tnames ts) nm r4 b4) := hat4
  have HS4 : Hid (MkX W0.heap.size h mb 2 (.slice sa ss.length c1) (.slice ta ts.length c2) (.func (.func 64) #[.pointer (some ⟨h, 0, none⟩)] #[]) w4 ms st (nms ms ++ [nm]) av kv vs) := HS.out.below HB4.out
  clear hb4 hat4 x0 x1 z0 z1 z2 z3 z4 z5 zf HR3 HS3 HAT
  obtain ⟨x0, x1, _⟩ := HS4.out.cells
  obtain ⟨⟨z0, z1, z2, z3, z4, z5⟩, zf⟩ := bk6 HR4.out
  dsimp only
  cases b4 with
  | true =>
   obtain ⟨hr, hrn⟩ := at_true HE.out.v.ascT HAT4.out
   rw [tnames_length] at hr
   rw [nx_tnames] at hrn
   have hrI : (r4 : Int) < (ts.length : Int) := by omega
   have hbw4 := HF.out.2.2.1.trans (HB4.out.mono hB)
   obtain ⟨tb, tq, rfl, f1, a', cap', f2, hrow⟩ := HE.out.rt r4 hr
   have e1 : w4.cell? ⟨tb, tq + r4 * 2, none⟩ = some (.string nm) := by rw [hbw4.cell (p := ⟨tb, tq + r4 * 2, none⟩) (World.block_lt_of_cell? _ _ f1), f1, hrn]
   have e2 : w4.cell? ⟨tb, tq + r4 * 2 + 1, none⟩ = some (.slice a' (tx ts r4).code.length cap') := by rw [hbw4.cell (p := ⟨tb, tq + r4 * 2 + 1, none⟩) (World.block_lt_of_cell? _ _ f2), f2]
   have hMT := makeTarget_any W0 h mb sa (some ⟨tb, tq, none⟩) a' c1 c2 cap' r4 ss ts nm ms st av kv vs w4 HE.out HS4.out HF.out.1 HF.out.2.1 hbw4 HF.out.2.2.2.1 h60 HF.out.2.2.2.2 HNS.out hr hrn (HR.out r4 a' cap' hr hrn hrow)
   generalize (tx ts r4).code.length = cl at e2 hMT
   have HMT : Hid (Calls Tryz.prog 101 #[.pointer (some ⟨h, 0, none⟩), .agg #[.string nm, .slice a' cl cap']] w4 fun e w' => ThingP W0.heap.size h mb (.slice sa ss.length c1) (.slice (some ⟨tb, tq, none⟩) ts.length c2) (.func (.func 64) #[.pointer (some ⟨h, 0, none⟩)] #[]) ss ts ms st av kv vs nm w4 e w') := hMT
   have hwl4 : w.heap.size < w4.heap.size := blk_lt HR4.out
   clear hMT hrow f1 f2 hbw4 HFS HFT HR hrn z0 z1 z2 z3 z4 z5 zf
   go_wp2_with fail
   refine HMT.out.mono ?_
   rintro e w5 ⟨hk5, ⟨m1, mf, ⟨dc, dt, dls⟩, lv, av5, kv5, vs5, rfl, hs5, hne5, hat5, hdo, hlo, hlb, ha5, hkk5, hf5⟩ | ⟨ms', an, v, hdo, rfl, hv⟩⟩
   ·have hsz5 := hk5.below.size
    have hR5 : w5.heap[w.heap.size]? = some (.cells #[.bool false, .int .i64 0, .string ⟨#[]⟩, .slice none 0 0, .string ⟨#[]⟩, .slice none 0 0] 66 (0, 0)) := by
     obtain ⟨n, _, hm⟩ := HS4.out.map
     rw [hk5.keep _ hwl4 (by omega) (fun e => hm.notCells (e ▸ HR4.out)) (own_ne_cells HS4.out.ask (by decide) HR4.out) (own_ne_cells HS4.out.stk (by decide) HR4.out)]
     exact HR4.out
    have HR5 : Hid _ := hR5
    have HK5 : Hid (KP W0.heap.size h mb av kv w w5) := (KP.old HB4.out hB).trans (Row2.refl _ _) (Row2.refl _ _) hk5
    have HS5 : Hid (MkX W0.heap.size h mb 1 (.slice sa ss.length c1) (.slice (some ⟨tb, tq, none⟩) ts.length c2) (.func (.func 64) #[.pointer (some ⟨h, 0, none⟩)] #[]) w5 m1 st (nms mf) av5 kv5 vs5) := hs5
    obtain ⟨la, ln, lc, rfl⟩ := looks_is hlo
    have HX5 : Hid ((∀ x, x ≠ nm -> lk mf x = lk m1 x) /\ lk mf nm = some (some ⟨dc, dt, dls⟩) /\ Does ss ts ms st (.make nm) mf (.ok ⟨dc, dt, dls⟩) /\ LooksO w5 W0.heap.size (.slice la ln lc) dls /\ (∀ b, (Value.slice la ln lc).ownBlock = some b -> w.heap.size <= b) /\ Row2 w av av5 /\ Row2 w kv kv5 /\ FrN w ms vs m1 vs5) := ⟨hne5, hat5, hdo, hlo, fun b q => by have := hlb b q; omega, ha5.less (by omega), hkk5.less (by omega), hf5.less (by omega)⟩
    obtain ⟨⟨z0, z1, z2, z3, z4, z5⟩, zf⟩ := bk6 hR5
    unfold mark0
    dsimp only
    clear hs5 hne5 hat5 hdo hlo hlb ha5 hkk5 hf5 hk5 hR5 HMT
    go_wp2_with fail
    obtain ⟨⟨v0, v1, v2, v3, v4, v5⟩, _⟩ := bk6 (set6_at HR5.out (.bool false) (.int .i64 dc) (.string dt) (.slice none 0 0) (.string ⟨#[]⟩) (.slice la ln lc))
    obtain ⟨y1, y2, y3, y4, y5, y6, y7, y8⟩ := HX5.out
    exact bodyPost_ret (v := mark0 ⟨dc, dt, dls⟩ (.slice la ln lc)) (by simp [results, Tryz.results88, go_sem, mark0, v0, v1, v2, v3, v4, v5]) rfl ⟨HK5.out.set6 hB (Nat.le_refl _) _ _ _ _ _ _, Or.inl ⟨m1, mf, ⟨dc, dt, dls⟩, .slice la ln lc, av5, kv5, vs5, rfl, HS5.out.set6 HR5.out (by omega) _ _ _ _ _ _, y1, y2, y3, y4.keptB (fun b q => set6_ne (fun e => by obtain ⟨xs, k1, _⟩ := y4; subst e; exact own_ne_cells k1 (by decide) HR5.out q) _ _ _ _ _ _), y5, y6, y7, y8⟩⟩
   ·unfold panV
    dsimp only
    have HP5 : Hid (KP W0.heap.size h mb av kv w w5 /\ Does ss ts ms st (.make nm) ms' an /\ EndV W0.heap.size w5 an v) := ⟨(KP.old HB4.out hB).trans (Row2.refl _ _) (Row2.refl _ _) hk5, hdo, hv⟩
    clear hk5 hdo hv HMT
    go_wp2_with fail
    exact ⟨rfl, HP5.out.1, Or.inr ⟨ms', an, v, HP5.out.2.1, rfl, HP5.out.2.2⟩⟩
  | false =>
   have HD : Hid (Does ss ts ms st (.make nm) (ms ++ [(nm, some ⟨4, nm, []⟩)]) (.ok ⟨4, nm, []⟩)) := .missing HF.out.2.2.2.1 (fun q => q.elim HNS.out (at_false HAT4.out))
   clear HFS HFT HR
   go_wp2_with fail
   obtain ⟨⟨v0, v1, v2, v3, v4, v5⟩, _⟩ := bk6 (set6_at HR4.out (.bool false) (.int .i64 4) (.string nm) (.slice none 0 0) (.string ⟨#[]⟩) (.slice none 0 0))
   exact bodyPost_ret (v := mark0 ⟨4, nm, []⟩ (.slice none 0 0)) (by simp [results, Tryz.results88, go_sem, mark0, v0, v1, v2, v3, v4, v5]) rfl (thing_leaf HS4.out (KP.old HB4.out hB) HR4.out (by omega) hB (Nat.le_refl _) HF.out.2.2.2.1 HD.out)
end
end Go.Proofs.YtmanoabocelpeaaGreatDoor
