import Derived.Test.YtmanoabocelpeaaGreatDoorTImH
namespace Go.Proofs.YtmanoabocelpeaaGreatDoor
open Go.RowKit
set_option linter.unusedVariables false
set_option maxHeartbeats 8000000
set_option maxRecDepth 100000
section
open Go.Deep
theorem implForm_in (c : Int) (t : ByteArray) (w : World) (h0 : 0 <= c) (h5 : c <= 5) (ht : t.size <= 2000) : Calls Tryz.prog 89 #[.agg #[.int .i64 c, .string t, .slice none 0 0]] w fun e w' => e = .returned (.string (formB c t)) /\ Below w.heap.size w w' := by
 obtain ⟨m, rfl⟩ := Int.eq_ofNat_of_zero_le h0
 exact implForm_yes m t none 0 w (by omega) ht
theorem set1_at {w : World} {b j : Nat} {cs cs' : Array Value} {T : TypeId} {u : Value} (h : w.heap[b]? = some (.cells cs T (0, 0))) (hc : cs.setIfInBounds j u = cs') : (w.setCell ⟨b, j, none⟩ u).heap[b]? = some (.cells cs' T (0, 0)) := by
 rw [Joins.block_setCell h, hc]
theorem und_set {B h mb k A O j : Nat} {sv tv fv : Value} {w wx : World} {ms : Ms} {st al : List ByteArray} {av0 kv0 av kv : Value} {vs : ByteArray -> Value} {cs ocs cs' : Array Value} {lv u : Value} {ls : List G3} (s : MkX B h mb k sv tv fv wx ms st al av kv vs) (kp : KP B h mb av0 kv0 w wx) (hA : wx.heap[A]? = some (.cells cs 66 (0, 0))) (hO : wx.heap[O]? = some (.cells ocs 66 (0, 0))) (lo : LooksO wx B lv ls) (hne : A ≠ h) (hOA : O ≠ A) (hB : B <= A) (hw : w.heap.size <= A) (hc : cs.setIfInBounds j u = cs') :
  MkX B h mb k sv tv fv (wx.setCell ⟨A, j, none⟩ u) ms st al av kv vs /\ KP B h mb av0 kv0 w (wx.setCell ⟨A, j, none⟩ u) /\ (wx.setCell ⟨A, j, none⟩ u).heap[A]? = some (.cells cs' 66 (0, 0)) /\ (wx.setCell ⟨A, j, none⟩ u).heap[O]? = some (.cells ocs 66 (0, 0)) /\ LooksO (wx.setCell ⟨A, j, none⟩ u) B lv ls :=
 ⟨s.set hA (by decide) (by decide) hne j u, kp.setN hB hw, set1_at hA hc, by rw [Below.heap_setCell wx ⟨A, j, none⟩ _ O hOA]; exact hO, lo.keptB (fun b q => Below.heap_setCell wx ⟨A, j, none⟩ _ b (fun e => by
  obtain ⟨xs, k1, _⟩ := lo
  have e2 : b = A := e
  subst e2
  exact own_ne_cells k1 (by decide) hA q))⟩
theorem und_set7 {B h mb k A O : Nat} {sv tv fv : Value} {w wx : World} {ms : Ms} {st al : List ByteArray} {av0 kv0 av kv : Value} {vs : ByteArray -> Value} {ocs : Array Value} {lv u0 u1 u2 u3 u4 u5 v0 v1 v2 v3 v4 v5 y : Value} {ls : List G3} (s : MkX B h mb k sv tv fv wx ms st al av kv vs) (kp : KP B h mb av0 kv0 w wx) (hA : wx.heap[A]? = some (.cells #[u0, u1, u2, u3, u4, u5] 66 (0, 0))) (hO : wx.heap[O]? = some (.cells ocs 66 (0, 0))) (lo : LooksO wx B lv ls) (hne : A ≠ h) (hOA : O ≠ A) (hB : B <= A) (hw : w.heap.size <= A) {Z : World} (eZ : (((((((wx.setCell ⟨A, 0, none⟩ v0).setCell ⟨A, 1, none⟩ v1).setCell ⟨A, 2, none⟩ v2).setCell ⟨A, 3, none⟩ v3).setCell ⟨A, 4, none⟩ v4).setCell ⟨A, 5, none⟩ v5).setCell ⟨A, 0, none⟩ y) = Z) :
  MkX B h mb k sv tv fv Z ms st al av kv vs /\ KP B h mb av0 kv0 w Z /\ Z.heap[A]? = some (.cells #[y, v1, v2, v3, v4, v5] 66 (0, 0)) /\ Z.heap[O]? = some (.cells ocs 66 (0, 0)) /\ LooksO Z B lv ls := by
 subst eZ
 have s6 := s.set6 hA hne v0 v1 v2 v3 v4 v5
 have k6 := kp.set6 hB hw v0 v1 v2 v3 v4 v5
 have a6 := set6_at hA v0 v1 v2 v3 v4 v5
 have o6 := (set6_ne (w := wx) hOA v0 v1 v2 v3 v4 v5).trans hO
 have l6 : LooksO _ B lv ls := lo.keptB (fun b q => set6_ne (w := wx) (b := A) (fun e => by obtain ⟨xs, k1, _⟩ := lo; subst e; exact own_ne_cells k1 (by decide) hA q) v0 v1 v2 v3 v4 v5)
 exact und_set (j := 0) (u := y) (cs := #[v0, v1, v2, v3, v4, v5]) (cs' := #[y, v1, v2, v3, v4, v5]) s6 k6 a6 o6 l6 hne hOA hB hw rfl
theorem under_new (W0 : World) (h mb : Nat) (sa ta : Option Addr) (c1 c2 : Nat) (ss : List S2) (ts : List T2) (nm : ByteArray) (ms : Ms) (st : List ByteArray) (av kv : Value) (vs : ByteArray -> Value) (w : World) (hE : EnvS W0 sa ta ss ts)
  (s : Mkr W0.heap.size h mb (.slice sa ss.length c1) (.slice ta ts.length c2) (.func (.func 64) #[.pointer (some ⟨h, 0, none⟩)] #[]) w ms st av kv vs) (hi : Inv ss ts ms st) (hp : phi ts ms <= 0) (hW : Below W0.heap.size W0 w) (hk : lk ms nm = none) (h60 : st.length <= 60) (hnm : NameOk nm)
  (hR : ∀ i a cap, i < ts.length -> (tx ts i).name = nm -> Row3 W0 a (tx ts i).code -> st.length < 60 -> RunAt W0 h mb (.slice sa ss.length c1) (.slice ta ts.length c2) (.func (.func 64) #[.pointer (some ⟨h, 0, none⟩)] #[]) ss ts (st ++ [nm]) nm a cap (tx ts i).code) :
  Calls Tryz.prog 66 #[.pointer (some ⟨h, 0, none⟩), .string nm] w fun e w' => UnderP W0.heap.size h mb (.slice sa ss.length c1) (.slice ta ts.length c2) (.func (.func 64) #[.pointer (some ⟨h, 0, none⟩)] #[]) ss ts ms st av kv vs nm w e w' := by
 have hB := hW.size
 have hhw : h < w.heap.size := blk_lt s.blk
 have hms := map_small hi hE.l2 hp
 have hn60 : nm.size <= 60 := hnm.2.1
 obtain ⟨W, eW⟩ : ∃ W, w.alloc (.cells #[.bool false, .int .i64 0, .string ⟨#[]⟩, .slice none 0 0, .string ⟨#[]⟩, .slice none 0 0] 66) = W := ⟨_, rfl⟩
 have hbW : Below w.heap.size w W := by rw [<- eW]; exact alloc_below _ _
 have hWs : w.heap.size < W.heap.size := by rw [<- eW]; simp
 have s1 := s.below hbW
 obtain ⟨n, hn1, hmap⟩ := s1.map
 have hlook := hmap.look (k := nm) (by unfold maxLen; omega)
 have hmo : markOf ms vs nm = none := by unfold markOf; rw [hk]
 rw [hmo] at hlook
 unfold zeroMk at hlook
 simp only [Option.getD_none, Option.isSome_none] at hlook
 obtain ⟨V, eV⟩ : ∃ V, W.alloc (.cells #[.bool false, .int .i64 0, .string ⟨#[]⟩, .slice none 0 0, .string ⟨#[]⟩, .slice none 0 0] 66) = V := ⟨_, rfl⟩
 have hbV : Below w.heap.size w V := by rw [<- eV]; exact below_trans hbW (alloc_below _ _)
 have hVs : W.heap.size < V.heap.size := by rw [<- eV]; simp
 have HAB : Hid (V.heap[W.heap.size]? = some (.cells #[.bool false, .int .i64 0, .string ⟨#[]⟩, .slice none 0 0, .string ⟨#[]⟩, .slice none 0 0] 66 (0, 0))) := by
  show _ = _
  rw [<- eV]; exact heap_new _ _
 have HOB : Hid (V.heap[w.heap.size]? = some (.cells #[.bool false, .int .i64 0, .string ⟨#[]⟩, .slice none 0 0, .string ⟨#[]⟩, .slice none 0 0] 66 (0, 0))) := by
  show _ = _
  rw [<- eV, Lib.alloc_old _ _ _ hWs, <- eW]; exact heap_new _ _
 have HSV : Hid (Mkr W0.heap.size h mb (.slice sa ss.length c1) (.slice ta ts.length c2) (.func (.func 64) #[.pointer (some ⟨h, 0, none⟩)] #[]) V ms st av kv vs) := s.below hbV
 obtain ⟨aa, ac, rfl⟩ : ∃ aa ac, av = .slice aa (nms ms).length ac := by
  rcases s.ask.2 with ⟨e, h0⟩ | ⟨g, cap, cur, e, _⟩
  ·exact ⟨none, 0, by rw [e, h0]⟩
  ·exact ⟨_, _, e⟩
 have hnl : (nms ms).length = ms.length := by simp [nms]
 obtain ⟨_, _, c2', _⟩ := s1.cells
 have HE : Hid (EnvS W0 sa ta ss ts) := hE
 have HF : Hid (Inv ss ts ms st /\ phi ts ms <= 0 /\ Below W0.heap.size W0 w /\ lk ms nm = none /\ NameOk nm) := ⟨hi, hp, hW, hk, hnm⟩
 have HR : Hid (∀ i a cap, i < ts.length -> (tx ts i).name = nm -> Row3 W0 a (tx ts i).code -> st.length < 60 -> RunAt W0 h mb (.slice sa ss.length c1) (.slice ta ts.length c2) (.func (.func 64) #[.pointer (some ⟨h, 0, none⟩)] #[]) ss ts (st ++ [nm]) nm a cap (tx ts i).code) := hR
 have HBV : Hid (Below w.heap.size w V) := hbV
 have EV : Hid (W.alloc (.cells #[.bool false, .int .i64 0, .string ⟨#[]⟩, .slice none 0 0, .string ⟨#[]⟩, .slice none 0 0] 66) = V) := eV
 have HNL : Hid ((nms ms).length <= 40001) := by show _ <= _; omega
 clear s s1 hi hp hW hk hnm hR hbV hbW hE eV hmap hmo hnl hn1 hms
 go_enter Tryz.func66, Tryz.ntmps66
 go_upto_region 3 with fail
 rw [EV.out]
 clear EV eW c2' hlook
 obtain ⟨x0, x1, x2, x3, x4, x5, xf⟩ := HSV.out.cells
 obtain ⟨i0, hi0, hz0, hz1, hz2⟩ := info_parts Tryz.info9b
 have hhv : h < V.heap.size := blk_lt HSV.out.blk
 have HLA : Hid (∀ o : Obj, (V.alloc o).ownsRow W0.heap.size 9 1 (.slice aa (nms ms).length ac) (nms ms).length (strV (nms ms))) := fun o => HSV.out.ask.alloc o
 have hVB : W0.heap.size <= V.heap.size := by omega
 have hal := HNL.out
 go_upto_region 4 with (at_builtin; refine wpList_append_lies _ rfl (.tmp 23) (.tmp 25) 30 rfl W0.heap.size 9 i0 (.string ⟨#[]⟩) 1 16 Tryz.underlying30 hi0 hz0 hz1 hz2 rfl (by decide) _ (nms ms).length (strV (nms ms)) rfl (HLA.out _) ⟨V.heap.size, 0, none⟩ 1 1 [.string nm] rfl rfl (cell_one_new _ _ _) (by intro u hu; simp at hu; subst hu; rfl) (by omega) (by unfold maxLen; omega) (by omega) (by simp; omega) (V.heap.size + 1) (by simp) ?_; intro g3 cp3 w3 hown3 hgrow3 hl3 hlt3; have hh3 : w3.heap[h]? = some (.cells #[.slice sa ss.length c1, .slice ta ts.length c2, .map (some mb), .slice aa (nms ms).length ac, kv, .func (.func 64) #[.pointer (some ⟨h, 0, none⟩)] #[]] 123 (0, 0)) := (by rw [hgrow3.block h (by simp; omega) (fun e => own_ne_cells HSV.out.ask (by decide) HSV.out.blk e.symm), Lib.alloc_old _ _ _ hhv]; exact HSV.out.blk); obtain ⟨⟨y0, y1, y2, y3, y4, y5⟩, yf⟩ := bk6 hh3)
 obtain ⟨q1, q2, q3⟩ := HSV.out.askd (nm := nm) hgrow3 hown3 hl3 hVB
 have hAB3 : ∀ b cs T, T ≠ 9 -> b ≠ h -> V.heap[b]? = some (Obj.cells cs T (0, 0)) -> (w3.setCell ⟨h, 3, none⟩ (.slice (some ⟨g3, 0, none⟩) ((nms ms).length + 1) cp3)).heap[b]? = some (Obj.cells cs T (0, 0)) := fun b cs T k1 k2 q => by
  rw [Below.heap_setCell w3 ⟨h, 3, none⟩ _ b k2, hgrow3.block b (by have := blk_lt q; simp; omega) (fun e => own_ne_cells HSV.out.ask k1 q e.symm), Lib.alloc_old _ _ _ (blk_lt q)]
  exact q
 obtain ⟨Y, eY⟩ : ∃ Y, w3.setCell ⟨h, 3, none⟩ (.slice (some ⟨g3, 0, none⟩) ((nms ms).length + 1) cp3) = Y := ⟨_, rfl⟩
 have a3 := hAB3 _ _ _ (by decide) (show W.heap.size ≠ h by omega) HAB.out
 have o3 := hAB3 _ _ _ (by decide) (show w.heap.size ≠ h by omega) HOB.out
 rw [eY] at q1 q2 a3 o3 ⊢
 have hsY := q2.below.size
 have hbWY : Below W0.heap.size W0 Y := HF.out.2.2.1.trans ((HBV.out.mono hB).trans q2.below)
 have HMT : Hid (Calls Tryz.prog 88 #[.pointer (some ⟨h, 0, none⟩), .string nm] Y fun e w' => ThingP W0.heap.size h mb (.slice sa ss.length c1) (.slice ta ts.length c2) (.func (.func 64) #[.pointer (some ⟨h, 0, none⟩)] #[]) ss ts ms st (.slice (some ⟨g3, 0, none⟩) ((nms ms).length + 1) cp3) kv vs nm Y e w') := makeThing_any W0 h mb sa ta c1 c2 ss ts nm ms st _ kv vs Y HE.out q1 HF.out.1 HF.out.2.1 hbWY HF.out.2.2.2.1 h60 HF.out.2.2.2.2 HR.out
 have HY : Hid (MkX W0.heap.size h mb 2 (.slice sa ss.length c1) (.slice ta ts.length c2) (.func (.func 64) #[.pointer (some ⟨h, 0, none⟩)] #[]) Y ms st (nms ms ++ [nm]) (.slice (some ⟨g3, 0, none⟩) ((nms ms).length + 1) cp3) kv vs /\ KP W0.heap.size h mb (.slice aa (nms ms).length ac) kv w Y /\ Row2 w (.slice aa (nms ms).length ac) (.slice (some ⟨g3, 0, none⟩) ((nms ms).length + 1) cp3)) := ⟨q1, (KP.old HBV.out hB).trans (Row2.refl _ _) (Row2.refl _ _) q2, q3.less HBV.out.size⟩
 have HA3 : Hid (Y.heap[W.heap.size]? = some (.cells #[.bool false, .int .i64 0, .string ⟨#[]⟩, .slice none 0 0, .string ⟨#[]⟩, .slice none 0 0] 66 (0, 0))) := a3
 have HO3 : Hid (Y.heap[w.heap.size]? = some (.cells #[.bool false, .int .i64 0, .string ⟨#[]⟩, .slice none 0 0, .string ⟨#[]⟩, .slice none 0 0] 66 (0, 0))) := o3
 have hWY : W.heap.size < Y.heap.size := blk_lt a3
 clear q1 q2 q3 hAB3 eY hgrow3 hown3 hl3 hlt3 hh3 y0 y1 y2 y3 y4 y5 yf x0 x1 x2 x3 x4 x5 xf a3 o3 HLA HSV HAB HOB hbWY HR
 go_wp2_with fail
 refine HMT.out.mono ?_
 rintro e w5 ⟨hk5, ⟨m1, mf, ⟨dc, dt, dls⟩, lv, av5, kv5, vs5, rfl, hs5, hne5, hat5, hdo, hlo, hlb, ha5, hkk5, hf5⟩ | ⟨ms', an, v, hdo, rfl, hv⟩⟩
 ·obtain ⟨la, ln, lc, rfl⟩ := looks_is hlo
  obtain ⟨nY, _, hmY⟩ := HY.out.1.map
  have keep : ∀ b cs T, T ≠ 9 -> T ≠ 123 -> Y.heap[b]? = some (Obj.cells cs T (0, 0)) -> w5.heap[b]? = some (Obj.cells cs T (0, 0)) := fun b cs T k1 k2 q => by
   rw [hk5.keep b (blk_lt q) (fun e => by subst e; have q2 := HY.out.1.blk; rw [q] at q2; injection q2 with q2; injection q2 with _ q2; exact k2 q2) (fun e => hmY.notCells (e ▸ q)) (own_ne_cells HY.out.1.ask k1 q) (own_ne_cells HY.out.1.stk k1 q)]
   exact q
  have a5 := keep _ _ _ (by decide) (by decide) HA3.out
  have o5 := keep _ _ _ (by decide) (by decide) HO3.out
  have hs5' := hk5.below.size
  have HO5 : Hid (w5.heap[w.heap.size]? = some (.cells #[.bool false, .int .i64 0, .string ⟨#[]⟩, .slice none 0 0, .string ⟨#[]⟩, .slice none 0 0] 66 (0, 0))) := o5
  have HA5 : Hid (w5.heap[W.heap.size]? = some (.cells #[.bool false, .int .i64 0, .string ⟨#[]⟩, .slice none 0 0, .string ⟨#[]⟩, .slice none 0 0] 66 (0, 0))) := a5
  have HK5 : Hid (KP W0.heap.size h mb (.slice aa (nms ms).length ac) kv w w5) := HY.out.2.1.trans HY.out.2.2 (Row2.refl _ _) hk5
  have HS5 : Hid (MkX W0.heap.size h mb 1 (.slice sa ss.length c1) (.slice ta ts.length c2) (.func (.func 64) #[.pointer (some ⟨h, 0, none⟩)] #[]) w5 m1 st (nms mf) av5 kv5 vs5) := hs5
  have hwY : w.heap.size <= Y.heap.size := by omega
  have HX5 : Hid ((∀ x, x ≠ nm -> lk mf x = lk m1 x) /\ lk mf nm = some (some ⟨dc, dt, dls⟩) /\ Does ss ts ms st (.make nm) mf (.ok ⟨dc, dt, dls⟩) /\ LooksO w5 W0.heap.size (.slice la ln lc) dls /\ (∀ b, (Value.slice la ln lc).ownBlock = some b -> w.heap.size <= b) /\ Row2 w (.slice aa (nms ms).length ac) av5 /\ Row2 w kv kv5 /\ FrN w ms vs m1 vs5) := ⟨hne5, hat5, hdo, hlo, fun b q => by have := hlb b q; omega, HY.out.2.2.trans hwY ha5, hkk5.less hwY, hf5.less hwY⟩
  have hmd := (Does.inv HE.out.v hdo HF.out.1 HF.out.2.2.2.2 trivial _ rfl).1.done nm _ hat5
  have HMD : Hid (0 <= dc /\ dc <= 5 /\ dt.size <= 2000) := ⟨hmd.c0, hmd.c5, hmd.t2⟩
  have hwW5 : W.heap.size < w5.heap.size := by omega
  obtain ⟨⟨z0, z1, z2, z3, z4, z5⟩, zf⟩ := bk6 a5
  unfold mark0
  dsimp only
  clear hs5 hne5 hat5 hdo hlo hlb ha5 hkk5 hf5 hk5 keep a5 o5 hmY hmd HMT
  go_upto_region 6 with fail
  obtain ⟨Z, eZ⟩ : ∃ Z, (((((((w5.setCell ⟨W.heap.size, 0, none⟩ (.bool false)).setCell ⟨W.heap.size, 1, none⟩ (.int .i64 dc)).setCell ⟨W.heap.size, 2, none⟩ (.string dt)).setCell ⟨W.heap.size, 3, none⟩ (.slice none 0 0)).setCell ⟨W.heap.size, 4, none⟩ (.string ⟨#[]⟩)).setCell ⟨W.heap.size, 5, none⟩ (.slice la ln lc)).setCell ⟨W.heap.size, 0, none⟩ (.bool true)) = Z := ⟨_, rfl⟩
  rw [eZ]
  obtain ⟨sz, kz, az, oz, lz⟩ := und_set7 HS5.out HK5.out HA5.out HO5.out HX5.out.2.2.2.1 (show W.heap.size ≠ h by omega) (show w.heap.size ≠ W.heap.size by omega) (by omega) (by omega) eZ
  have HZ : Hid (MkX W0.heap.size h mb 1 (.slice sa ss.length c1) (.slice ta ts.length c2) (.func (.func 64) #[.pointer (some ⟨h, 0, none⟩)] #[]) Z m1 st (nms mf) av5 kv5 vs5 /\ KP W0.heap.size h mb (.slice aa (nms ms).length ac) kv w Z /\ Z.heap[w.heap.size]? = some (.cells #[.bool false, .int .i64 0, .string ⟨#[]⟩, .slice none 0 0, .string ⟨#[]⟩, .slice none 0 0] 66 (0, 0)) /\ LooksO Z W0.heap.size (.slice la ln lc) dls) := ⟨sz, kz, oz, lz⟩
  have HAZ : Hid (Z.heap[W.heap.size]? = some (.cells #[.bool true, .int .i64 dc, .string dt, .slice none 0 0, .string ⟨#[]⟩, .slice la ln lc] 66 (0, 0))) := az
  clear z0 z1 z2 z3 z4 z5 zf
  obtain ⟨⟨z0, z1, z2, z3, z4, z5⟩, zf⟩ := bk6 az
  obtain ⟨fo, efo⟩ : ∃ fo, formB dc dt = fo := ⟨_, rfl⟩
  have EF : Hid (formB dc dt = fo) := efo
  have HFO : Hid (Calls Tryz.prog 89 #[.agg #[.int .i64 dc, .string dt, .slice none 0 0]] Z fun e w' => e = .returned (.string fo) /\ Below Z.heap.size Z w') := by rw [<- efo]; exact implForm_in dc dt Z HMD.out.1 HMD.out.2.1 HMD.out.2.2
  clear sz kz az oz lz efo eZ HS5 HK5 HA5 HO5
  go_wp2_with fail
  refine HFO.out.mono ?_
  rintro e w7 ⟨rfl, hb7⟩
  have hzs := HZ.out.2.1.below.size
  obtain ⟨s7, k7, a7, o7, l7⟩ := und_set (j := 4) (u := .string fo) (HZ.out.1.below hb7) (HZ.out.2.1.after hb7 (by omega)) (blk_keep hb7 HAZ.out) (blk_keep hb7 HZ.out.2.2.1) (HZ.out.2.2.2.below hb7) (show W.heap.size ≠ h by omega) (show w.heap.size ≠ W.heap.size by omega) (by omega) (by omega) (cs' := #[.bool true, .int .i64 dc, .string dt, .slice none 0 0, .string fo, .slice la ln lc]) rfl
  clear z0 z1 z2 z3 z4 z5 zf HFO
  obtain ⟨⟨z0, z1, z2, z3, z4, z5⟩, zf⟩ := bk6 (blk_keep hb7 HAZ.out)
  obtain ⟨Z7, eZ7⟩ : ∃ Z7, w7.setCell ⟨W.heap.size, 4, none⟩ (.string fo) = Z7 := ⟨_, rfl⟩
  rw [eZ7] at s7 k7 a7 o7 l7
  obtain ⟨U, eU⟩ : ∃ U, Z7.drew = U := ⟨_, rfl⟩
  have hbU : Below Z7.heap.size Z7 U := by rw [<- eU]; exact (Below.refl _ _).drew
  have hz7 := k7.below.size
  have sU := s7.below hbU
  have kU := k7.after hbU (by omega)
  have aU := blk_keep hbU a7
  have oU := blk_keep hbU o7
  have lU := l7.below hbU
  dsimp only
  go_upto_region 7 with fail
  obtain ⟨x0, x1, x2, x3, x4, x5, xf⟩ := sU.cells
  obtain ⟨⟨y0, y1, y2, y3, y4, y5⟩, yf⟩ := bk6 aU
  obtain ⟨n, hn, hm⟩ := sU.map
  obtain ⟨p1, p2, p3, p4, p5, p6, p7, p8⟩ := HX5.out
  have hmf : mf.length <= 40001 := by
   have hph := Does.phi_le HE.out.v p3 HF.out.2.2.2.2 HF.out.1 trivial
   have hin := (Does.inv HE.out.v p3 HF.out.1 HF.out.2.2.2.2 trivial _ rfl).1
   simp only at hph
   exact phi_len hin HE.out.l2 (by have := HF.out.2.1; omega)
  have hnf : (nms mf).length = mf.length := by simp [nms]
  obtain ⟨w9, hrun, hm9, hg9⟩ := hm.store (k := nm) (by unfold maxLen; omega) (by unfold maxLen; omega) (markV ⟨dc, dt, dls⟩ (.slice la ln lc))
  classical
  have s9 : Mkr W0.heap.size h mb (.slice sa ss.length c1) (.slice ta ts.length c2) (.func (.func 64) #[.pointer (some ⟨h, 0, none⟩)] #[]) w9 mf st av5 kv5 (fun x => if x = nm then .slice la ln lc else vs5 x) := (sU.le (k' := 0) (by omega)).mark (n := n + 1) (nm := nm) (v := markV ⟨dc, dt, dls⟩ (.slice la ln lc)) (by omega) hm9 hg9 (fun x => by
   by_cases hx : x = nm
   ·subst hx; unfold markOf; rw [p2]; simp
   ·unfold markOf; rw [p1 x hx]; simp only [if_neg hx]) (fun x d e => by
   by_cases hx : x = nm
   ·subst hx
    rw [p2] at e
    simp only [Option.some.injEq] at e
    subst e
    simp only [if_true]
    exact lU
   ·simp only [if_neg hx]
    rw [p1 x hx] at e
    exact sU.lks x d e)
  have k9 : KP W0.heap.size h mb (.slice aa (nms ms).length ac) kv w w9 := kU.mapped sU.mB hg9 (by have := kU.below.size; omega)
  have keep9 : ∀ b cs T, U.heap[b]? = some (Obj.cells cs T (0, 0)) -> w9.heap[b]? = some (Obj.cells cs T (0, 0)) := fun b cs T q => by rw [hg9.block b (blk_lt q) (fun e => hm.notCells (by injection e with e; exact e ▸ q))]; exact q
  have a9 := keep9 _ _ _ aU
  have o9 := keep9 _ _ _ oU
  unfold markV at hrun
  simp only [EF.out] at hrun
  have HS9 : Hid (Mkr W0.heap.size h mb (.slice sa ss.length c1) (.slice ta ts.length c2) (.func (.func 64) #[.pointer (some ⟨h, 0, none⟩)] #[]) w9 mf st av5 kv5 (fun x => if x = nm then .slice la ln lc else vs5 x)) := s9
  have HK9 : Hid (KP W0.heap.size h mb (.slice aa (nms ms).length ac) kv w w9) := k9
  have HO9 : Hid (w9.heap[w.heap.size]? = some (.cells #[.bool false, .int .i64 0, .string ⟨#[]⟩, .slice none 0 0, .string ⟨#[]⟩, .slice none 0 0] 66 (0, 0))) := o9
  have HFR : Hid (FrN w ms vs mf (fun x => if x = nm then .slice la ln lc else vs5 x)) := fun x d b e q => by
   by_cases hx : x = nm
   ·subst hx
    simp only [if_true] at q
    exact Or.inr (p5 b q)
   ·simp only [if_neg hx] at q
    rw [p1 x hx] at e
    exact p8 x d b e q
  have HXX : Hid (Does ss ts ms st (.make nm) mf (.ok ⟨dc, dt, dls⟩) /\ Row2 w (.slice aa (nms ms).length ac) av5 /\ Row2 w kv kv5) := ⟨p3, p6, p7⟩
  clear s9 k9 keep9 hm9 hg9 hm hn sU kU aU oU lU s7 k7 a7 o7 l7 hb7 hbU p1 p2 p3 p4 p5 p6 p7 p8 eZ7 hmf hnf z0 z1 z2 z3 z4 z5 zf
  go_region
  clear eU x0 x1 x2 x3 x4 x5 xf y0 y1 y2 y3 y4 y5 yf hrun
  obtain ⟨⟨y0, y1, y2, y3, y4, y5⟩, yf⟩ := bk6 a9
  obtain ⟨⟨z0, z1, z2, z3, z4, z5⟩, zf⟩ := bk6 o9
  clear a9 o9
  have hOA : ¬ w.heap.size = W.heap.size := by omega
  go_wp2_with fail
  obtain ⟨⟨v0, v1, v2, v3, v4, v5⟩, _⟩ := bk6 (set6_at HO9.out (.bool true) (.int .i64 dc) (.string dt) (.slice none 0 0) (.string fo) (.slice la ln lc))
  refine bodyPost_ret (v := markV ⟨dc, dt, dls⟩ ((fun x => if x = nm then (.slice la ln lc : Value) else vs5 x) nm)) (by simp [results, Tryz.results66, go_sem, markV, EF.out, v0, v1, v2, v3, v4, v5]) rfl ⟨HK9.out.set6 hB (Nat.le_refl _) _ _ _ _ _ _, mf, _, HXX.out.1, Or.inl ⟨_, av5, kv5, _, rfl, rfl, HS9.out.set6 HO9.out (by omega) _ _ _ _ _ _, HXX.out.2.1, HXX.out.2.2, HFR.out⟩⟩
 ·unfold panV
  dsimp only
  have HP5 : Hid (KP W0.heap.size h mb (.slice aa (nms ms).length ac) kv w w5 /\ Does ss ts ms st (.make nm) ms' an /\ EndV W0.heap.size w5 an v) := ⟨HY.out.2.1.trans HY.out.2.2 (Row2.refl _ _) hk5, hdo, hv⟩
  clear hk5 hdo hv HMT
  go_wp2_with fail
  exact ⟨rfl, HP5.out.1, ms', an, HP5.out.2.1, Or.inr ⟨v, rfl, HP5.out.2.2⟩⟩
theorem stack_first {ss : List S2} {ts : List T2} {ms : Ms} {st : List ByteArray} {nm : ByteArray} (hi : Inv ss ts ms st) (hk : lk ms nm = some none) : ∃ i, i < st.length /\ nx st i = nm /\ ∀ j, j < i -> nx st j ≠ nm := by
 have hm := (hi.being nm).mp hk
 obtain ⟨i, hi', e⟩ := List.getElem_of_mem hm
 have nx_get : ∀ j, (hj : j < st.length) -> nx st j = st[j] := fun j hj => by unfold nx; rw [List.getD_eq_getElem?_getD, List.getElem?_eq_getElem hj]; rfl
 refine ⟨i, hi', (nx_get i hi').trans e, fun j hj e' => ?_⟩
 have hp := List.pairwise_iff_getElem.mp hi.nds
 have h1 : j < st.length := by omega
 exact hp j i h1 hi' hj ((nx_get j h1).symm.trans (e'.trans e.symm))
theorem under_all (W0 : World) (h mb : Nat) (sa ta : Option Addr) (c1 c2 : Nat) (ss : List S2) (ts : List T2) (hE : EnvS W0 sa ta ss ts) (hT : Tab W0) (hP : P10 W0) : ∀ (n : Nat) (st : List ByteArray), 60 - st.length = n -> st.length <= 60 -> UnderAt W0 h mb (.slice sa ss.length c1) (.slice ta ts.length c2) (.func (.func 64) #[.pointer (some ⟨h, 0, none⟩)] #[]) ss ts st := by
 intro n
 induction n with
 | zero =>
  intro st hn h60 w ms nm av kv vs hs hi hnm hp hb
  have hn60 : nm.size <= 60 := hnm.2.1
  cases hk : lk ms nm with
  | none => exact under_new W0 h mb sa ta c1 c2 ss ts nm ms st av kv vs w hE hs hi hp hb hk h60 hnm (fun i a cap q1 q2 q3 q4 => by omega)
  | some o =>
   cases o with
   | none =>
    obtain ⟨i, q1, q2, q3⟩ := stack_first hi hk
    exact under_circle _ h mb _ _ _ ss ts ms st av kv vs nm i w hs hb.size hn60 h60 hk q1 q2 q3
   | some d => exact under_known _ h mb _ _ _ ss ts ms st av kv vs nm d w hs hb.size hn60 hk
 | succ n ih =>
  intro st hn h60 w ms nm av kv vs hs hi hnm hp hb
  have hn60 : nm.size <= 60 := hnm.2.1
  cases hk : lk ms nm with
  | none =>
   refine under_new W0 h mb sa ta c1 c2 ss ts nm ms st av kv vs w hE hs hi hp hb hk h60 hnm (fun i a cap q1 q2 q3 q4 => ?_)
   intro w' ms' av' kv' vs' hs' hi' hp' hb'
   exact makerRun_any W0 h mb sa ta a c1 c2 cap _ ss ts (tx ts i).code nm ms' (st ++ [nm]) av' kv' vs' w' hE (ih (st ++ [nm]) (by simp; omega) (by simp; omega)) hs' hi' hp' hb' q3 (hE.v.pr i q1) hT hP
  | some o =>
   cases o with
   | none =>
    obtain ⟨i, q1, q2, q3⟩ := stack_first hi hk
    exact under_circle _ h mb _ _ _ ss ts ms st av kv vs nm i w hs hb.size hn60 h60 hk q1 q2 q3
   | some d => exact under_known _ h mb _ _ _ ss ts ms st av kv vs nm d w hs hb.size hn60 hk
end
end Go.Proofs.YtmanoabocelpeaaGreatDoor
