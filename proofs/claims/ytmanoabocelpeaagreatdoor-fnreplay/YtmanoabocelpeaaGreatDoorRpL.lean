import Derived.Test.YtmanoabocelpeaaGreatDoorRpA
import Derived.Deep.DeepCutAuto
import Derived.BigQuiet
namespace Go.Proofs.YtmanoabocelpeaaGreatDoor
open Go.RowKit Go.Deep
set_option linter.unusedVariables false
set_option linter.unusedSimpArgs false
theorem blk_c3 {w : World} {b T : Nat} {v1 v2 v3 : Value} (h : w.heap[b]? = some (.cells #[v1, v2, v3] T (0, 0))) : w.cell? ⟨b, 0, none⟩ = some v1 /\ w.cell? ⟨b, 1, none⟩ = some v2 /\ w.cell? ⟨b, 2, none⟩ = some v3 := by
 refine ⟨?_, ?_, ?_⟩ <;> rw [Lib.cell_of_heap h] <;> rfl
theorem ActP.parts {ts : List T2} {nm : ByteArray} {w : World} {e : Ending} (h : ActP ts nm w e) : ∃ a n cap b, e = .returned (.tuple #[.agg #[.slice a n cap], .bool b]) /\ (b = true -> ∃ q, q < ts.length /\ (tx ts q).name = nm /\ Row3 w a (tx ts q).code /\ n = (tx ts q).code.length) /\ (b = true <-> Has (tnames ts) nm) := by
 rcases h with ⟨q, a, cap, h1, h2, h3, rfl⟩ | ⟨h1, rfl⟩
 ·exact ⟨_, _, _, _, rfl, fun _ => ⟨q, h1, h2, h3, rfl⟩, fun _ => h2 ▸ has_tgt h1, fun _ => rfl⟩
 ·exact ⟨_, _, _, _, rfl, (fun h => by cases h), (fun h => by cases h), fun ⟨j, hj, e⟩ => by rw [tnames_length] at hj; rw [nx_tnames] at e; exact absurd e (h1 j hj)⟩
theorem step_appY {s x : Operand} {W : World} {ops : Array Oper} {o : Oper} {a : Act} {K : Act -> World -> Prop} {Q : Exit -> Act -> World -> Prop} {E : Prop} (hgd : o.guard = none)
  (ho : o.op = .call { callee := .builtin .append, args := #[s, x], argTypes := #[42, 42] }) (B : Nat) (v : Value) (nn : Nat) (xs : List Value)
  (hs : a.eval s = v) (hown : W.ownsRow B 49 3 v nn xs) (d : Nat) (p : Bool) (q : Int) (t : ByteArray) (hx : a.eval x = .slice (some ⟨d, 0, none⟩) 1 1) (hc : W.heap[d]? = some (.cells #[.bool p, .int .i64 q, .string t] 49 (0, 0))) (hB : B <= W.heap.size) (hn : nn <= 300)
  (h : ∀ g' cap' w', w'.ownsRow B 49 3 (.slice (some ⟨g', 0, none⟩) (nn + 1) cap') (nn + 1) (xs ++ [.bool p, .int .i64 q, .string t]) -> W.grownBy w' v.ownBlock -> K (a.put o.dst (.slice (some ⟨g', 0, none⟩) (nn + 1) cap')) w') :
  if Region.wanted o (yielded ops a.tmps) = true then Oper.wp Tryz.prog o a W K Q else E := by
 obtain ⟨i0, hi, hz0, hz1, hz2⟩ := info_parts Tryz.info49
 refine step_append_lies (w := W) hgd s x 42 ho B 49 i0 (.agg #[.bool false, .int .i64 0, .string ⟨#[]⟩]) 3 32 Tryz.underlying42 hi hz0 hz1 hz2 rfl (by decide) _ nn xs hs hown ⟨d, 0, none⟩ 1 1 [.bool p, .int .i64 q, .string t] hx rfl
  (World.news_of_block (cs := #[.bool p, .int .i64 q, .string t]) (t := 49) (fr := (0, 0)) hc) (by intro u' hu; simp at hu; rcases hu with rfl | rfl | rfl <;> rfl) (by omega) (by unfold maxLen; omega) (by omega) hB W.heap.size rfl ?_
 intro g' cap' w' h1 h2 h3 h4
 exact h g' cap' w' h1 h2
theorem flag_one (b : Bool) : ((flagB b).toList == [49]) = b := by cases b <;> simp [flagB, ByteArray.toList_eq]
set_option maxRecDepth 100000 in
set_option maxHeartbeats 16000000 in
theorem fnReplayLaw (a : Option Addr) (len cap : Nat) (w : World) (hT : Tab w) (hP : P10 w) (h : Bytes w a len) (hlc : len <= cap) :
  Calls Tryz.prog 3 #[.slice a len cap] w fun e w' => e = .returned (.bool true) /\ Below w.heap.size w w' := by
 by_cases hbig : 1048576 < len
 ·have hI : (1048576 : Int) < (len : Int) := by omega
  go_enter Tryz.func3, Tryz.ntmps3
  go_wp2
  go_ret
  exact ⟨rfl, Below.refl _ _⟩
 have hI : (len : Int) <= 1048576 := by omega
 have HD0 := hid (drawTrail_any w a len cap h hlc (by omega))
 clear h hlc hbig
 go_enter Tryz.func3, Tryz.ntmps3
 go_wp2_with fail
 refine HD0.out.mono ?_
 rintro e w2 ⟨hb2, v1, v2, l1, l2, nm, rfl, hd, hbd, hnm, hsh⟩
 obtain ⟨sa, c1, ta, c2, rfl, rfl, hok, hsm⟩ := hd.ok hbd
 obtain ⟨ts, ets⟩ : ∃ ts, l2.map (·.t) = ts := ⟨_, rfl⟩
 rw [ets] at hok hsm hsh ⊢
 clear ets hd hbd HD0
 obtain ⟨P, eP⟩ : ∃ P, w2.heap.size = P := ⟨_, rfl⟩
 obtain ⟨w3, ew3⟩ : ∃ V, w2.alloc (.cells #[.slice sa l1.length c1, .slice ta ts.length c2] 26) = V := ⟨_, rfl⟩
 have hbw3 : Below w2.heap.size w2 w3 := by rw [<- ew3]; exact (Below.refl _ _).alloc (Nat.le_refl _) _
 have HPB : Hid (w3.heap[P]? = some (.cells #[.slice sa l1.length c1, .slice ta ts.length c2] 26 (0, 0))) := by show _ = _; rw [<- ew3, <- eP]; exact heapW_new _ _
 have HT := hid ((hT.below hb2).below hbw3)
 have HP := hid ((hP.below hb2).below hbw3)
 have HOK := hid (hok.below hbw3)
 have HB := hid (bN hb2 hbw3)
 have HSH := hid hsh
 have HSM := hid hsm
 clear hT hP hok hb2 hbw3 hsh hsm
 obtain ⟨d0, d1⟩ := blk_c HPB.out
 go_wp2_with fail
 clear ew3 eP d0 d1
 refine (specTrail_any sa ta c1 c2 l1 ts nm w3 HOK.out HSM.out (by omega)).mono ?_
 unfold TrailS
 rintro e w4 ⟨hb4, ls, c, t, ch, ca, cc, la, lc, rfl, htr, hch, hlo⟩
 replace HPB := hid (blk_below HPB.out hb4)
 replace HT := hid (HT.out.below hb4)
 replace HP := hid (HP.out.below hb4)
 replace HOK := hid (HOK.out.below hb4)
 replace HB := hid (bN HB.out hb4)
 have HTR := hid htr
 have HS := hid hch
 have HG := hid hlo
 clear hb4 htr hch hlo
 obtain ⟨Q, eQ⟩ : ∃ P, w4.heap.size = P := ⟨_, rfl⟩
 obtain ⟨w5, ew5⟩ : ∃ V, w4.alloc (.cells #[.int .i64 c, .string t, .slice ca ch.length cc] 32) = V := ⟨_, rfl⟩
 have hbw5 : Below w4.heap.size w4 w5 := by rw [<- ew5]; exact (Below.refl _ _).alloc (Nat.le_refl _) _
 have H6 : Hid (w5.heap[Q]? = some (.cells #[.int .i64 c, .string t, .slice ca ch.length cc] 32 (0, 0))) := by show _ = _; rw [<- ew5, <- eQ]; exact heapW_new _ _
 replace HPB := hid (blk_below HPB.out hbw5)
 replace HT := hid (HT.out.below hbw5)
 replace HP := hid (HP.out.below hbw5)
 replace HOK := hid (HOK.out.below hbw5)
 replace HB := hid (bN HB.out hbw5)
 replace HS := hid (HS.out.below hbw5)
 replace HG := hid (HG.out.below hbw5)
 clear hbw5
 obtain ⟨d0, d1⟩ := blk_c HPB.out
 go_wp2_with fail
 clear ew5 eQ d0 d1
 refine (wAction_any _ ta c2 ts nm w5 HOK.out.rt HSM.out.lt HSM.out.lc).mono ?_
 rintro e w6 ⟨hb6, hact⟩
 obtain ⟨pa, pl, pc, b, rfl, hact, hhas⟩ := hact.parts
 replace HPB := hid (blk_below HPB.out hb6)
 replace HT := hid (HT.out.below hb6)
 replace HP := hid (HP.out.below hb6)
 replace HOK := hid (HOK.out.below hb6)
 replace HB := hid (bN HB.out hb6)
 replace HS := hid (HS.out.below hb6)
 replace HG := hid (HG.out.below hb6)
 replace H6 := hid (blk_below H6.out hb6)
 obtain ⟨Q7, eQ7⟩ : ∃ P, w6.heap.size = P := ⟨_, rfl⟩
 obtain ⟨w7, ew7⟩ : ∃ V, w6.alloc (.cells #[.slice pa pl pc] 37) = V := ⟨_, rfl⟩
 have hbw7 : Below w6.heap.size w6 w7 := by rw [<- ew7]; exact (Below.refl _ _).alloc (Nat.le_refl _) _
 have H7 : Hid (w7.heap[Q7]? = some (.cells #[.slice pa pl pc] 37 (0, 0))) := by show _ = _; rw [<- ew7, <- eQ7]; exact heapW_new _ _
 replace HPB := hid (blk_below HPB.out hbw7)
 replace HT := hid (HT.out.below hbw7)
 replace HP := hid (HP.out.below hbw7)
 replace HOK := hid (HOK.out.below hbw7)
 replace HB := hid (bN HB.out hbw7)
 replace HS := hid (HS.out.below hbw7)
 replace HG := hid (HG.out.below hbw7)
 replace H6 := hid (blk_below H6.out hbw7)
 have HAC : Hid (b = true -> ∃ q, q < ts.length /\ (tx ts q).name = nm /\ Row3 w7 pa (tx ts q).code /\ pl = (tx ts q).code.length) := fun h => by obtain ⟨q, h1, h2, h3, h4⟩ := hact h; exact ⟨q, h1, h2, h3.below hbw7, h4⟩
 clear hact hb6 hhas
 obtain ⟨hln, hcn⟩ := HTR.out.len HOK.out
 obtain ⟨x0, x1, x2⟩ := blk_c3 H6.out
 by_cases hgo : b = true /\ c <= 5
 rotate_left 1
 ·have hcs : b = false \/ (b = true /\ 5 < c) := by cases b <;> simp_all
  clear hgo HAC
  rcases hcs with rfl | ⟨rfl, h5⟩
  all_goals
   go_wp2_with fail
   clear ew7 eQ7 hbw7 x0 x1 x2
   refine Lt.begin 99 (fun w' => w'.heap[P]? = some (.cells #[.slice sa l1.length c1, .slice ta ts.length c2] 26 (0, 0)) /\ w'.heap[Q]? = some (.cells #[.int .i64 c, .string t, .slice ca ch.length cc] 32 (0, 0))) (by kernel_rfl) ?_
   obtain ⟨wD, eD⟩ : ∃ y, w7.drew = y := ⟨_, rfl⟩
   rw [eD]
   have hbD : Below w7.heap.size w7 wD := by rw [<- eD]; exact (Below.refl _ _).drew
   clear eD
   replace HPB := hid (blk_below HPB.out hbD)
   replace HT := hid (HT.out.below hbD)
   replace HP := hid (HP.out.below hbD)
   replace HOK := hid (HOK.out.below hbD)
   replace HB := hid (bt HB.out hbD)
   replace HS := hid (HS.out.below hbD)
   replace H6 := hid (blk_below H6.out hbD)
   have hS0 : (fun w' => w'.heap[P]? = some (.cells #[.slice sa l1.length c1, .slice ta ts.length c2] 26 (0, 0)) /\ w'.heap[Q]? = some (.cells #[.int .i64 c, .string t, .slice ca ch.length cc] 32 (0, 0))) wD := ⟨HPB.out, H6.out⟩
   change K 0 _
   iterate 2
    refine Lt.ti (v := ?_) hS0 ?_ ?_
    rotate_left 1
    ·rintro w ⟨s1, s2⟩; obtain ⟨c0, c1⟩ := blk_c s1; obtain ⟨x0, x1, x2⟩ := blk_c3 s2; go_simp; first | done | with_reducible rfl
    simp only [gX]
   refine Lt.ti (i := 3) (v := ?_) hS0 ?_ ?_
   rotate_left 1
   ·rintro w ⟨s1, s2⟩; obtain ⟨c0, c1⟩ := blk_c s1; obtain ⟨x0, x1, x2⟩ := blk_c3 s2; go_simp; first | done | with_reducible rfl
   simp only [gX]
   refine Lt.sp (i := 2) (fun K hK => ?_)
   go_simp
   refine (implClean_any sa ta c1 c2 l1 ts nm _ HT.out HP.out HOK.out HSM.out (by omega)).mono ?_
   rintro e wC ⟨hbC, c9, t9, ch9, ca9, cn9, cc9, rfl, hcl, hch9⟩
   obtain ⟨e1, e2, e3⟩ := clean_uniq HOK.out HTR.out.clean hcl
   replace e1 := e1.symm; replace e2 := e2.symm; replace e3 := e3.symm; subst e1; subst e2; subst e3
   obtain ⟨rfl, hst9⟩ := own_strs hch9
   replace HPB := hid (blk_below HPB.out hbC)
   replace HT := hid (HT.out.below hbC)
   replace HP := hid (HP.out.below hbC)
   replace HOK := hid (HOK.out.below hbC)
   replace HB := hid (bt HB.out hbC)
   replace HS := hid (HS.out.below hbC)
   replace H6 := hid (blk_below H6.out hbC)
   have hS1 : (fun w' => w'.heap[P]? = some (.cells #[.slice sa l1.length c1, .slice ta ts.length c2] 26 (0, 0)) /\ w'.heap[Q]? = some (.cells #[.int .i64 c, .string t, .slice ca ch.length cc] 32 (0, 0))) wC := ⟨HPB.out, H6.out⟩
   have HS9 := hid hst9
   refine hK.out _ _ (fun _ => hS1) (fun _ => ?_)
   clear hK K hbC hcl hch9 hst9
   try simp only [gX]
   refine Lt.sp (i := 4) (fun K hK => ?_)
   go_simp
   refine (wResult_eq _ _ ca9 ca cc9 cc _ _ _ rfl HS9.out HS.out (by omega)).mono ?_
   rintro e wE ⟨rfl, hbE⟩
   replace HPB := hid (blk_below HPB.out hbE)
   replace HT := hid (HT.out.below hbE)
   replace HP := hid (HP.out.below hbE)
   replace HOK := hid (HOK.out.below hbE)
   replace HB := hid (bt HB.out hbE)
   replace HS := hid (HS.out.below hbE)
   replace H6 := hid (blk_below H6.out hbE)
   replace HS9 := hid (HS9.out.below hbE)
   have hS2 : (fun w' => w'.heap[P]? = some (.cells #[.slice sa l1.length c1, .slice ta ts.length c2] 26 (0, 0)) /\ w'.heap[Q]? = some (.cells #[.int .i64 c, .string t, .slice ca ch.length cc] 32 (0, 0))) wE := ⟨HPB.out, H6.out⟩
   refine hK.out _ _ (fun _ => hS2) (fun _ => ?_)
   clear hK K hbE
   try simp only [gX]
   refine Lt.ti (i := 5) (v := ?_) hS2 ?_ ?_
   rotate_left 1
   ·rintro w ⟨s1, s2⟩; obtain ⟨c0, c1⟩ := blk_c s1; obtain ⟨x0, x1, x2⟩ := blk_c3 s2; go_simp; first | done | with_reducible rfl
   simp only [gX]
   refine Lt.done (by kernel_rfl) ?_ _
   go_wp2_with fail
   go_ret
   exact ⟨rfl, HB.out⟩
 obtain ⟨rfl, h5⟩ := hgo
 obtain ⟨q, hq, hqn, hrow, rfl⟩ := HAC.out rfl
 obtain ⟨hpr, zs, hrp⟩ := replay_of HOK.out HSH.out HTR.out h5 hq hqn
 have HIX := hid (fun j => HOK.out.xt q j)
 obtain ⟨is, eis⟩ : ∃ is, (tx ts q).code = is := ⟨_, rfl⟩
 rw [eis] at hpr hrp HIX H7 hrow ew7 ⊢
 have HRP := hid hrp
 have HPR := hid hpr
 have HC := hid hrow
 have hil := prog_len hpr
 clear HAC hrp hpr hrow eis hq hqn
 obtain ⟨W1, eW1⟩ : ∃ y, w7.alloc (.cells #[] 49) = y := ⟨_, rfl⟩
 have HR0 : Hid (W1.ownsRow w7.heap.size 49 3 (.slice (some ⟨w7.heap.size, 0, none⟩) 0 0) 0 (repCells [])) := by
  show World.ownsRow _ _ _ _ _ _ _; rw [<- eW1]; exact World.ownsRow_lit w7 #[] 0 (Nat.le_refl _) (by unfold maxLen; omega) rfl
 have HB1 : Hid (Below w7.heap.size w7 W1) := by show Below _ _ _; rw [<- eW1]; exact (Below.refl _ _).alloc (Nat.le_refl _) _
 obtain ⟨i0, hi0, hz0, hzz1, hzz2⟩ := info_parts Tryz.info49
 go_wp2_with fail
 clear ew7 eQ7 hbw7 x0 x1 x2 eW1
 obtain ⟨n, en⟩ : ∃ n, ls.length = n := ⟨_, rfl⟩
 rw [en] at hln ⊢
 have EN := hid en
 clear en
 go_loopw [9, 10] (fun v i wr => ∃ (R : List R3) (ra : Option Addr) (rc : Nat), R.length <= n /\ i = .int .i64 R.length /\ v = .slice ra R.length rc /\ Hid (RpR zs R) /\ Hid (wr.ownsRow w7.heap.size 49 3 (.slice ra R.length rc) R.length (repCells R)) /\ Hid (Below w7.heap.size w7 wr)) (fun _ i _ => n - (intOf i).toNat)
 case atStart => exact ⟨[], _, _, Nat.zero_le _, rfl, rfl, RpR.nil zs, HR0, HB1⟩
 case round =>
  clear HR0 HB1
  obtain ⟨R, ra, rc, hk, rfl, rfl, HRR, HRO, HW⟩ := hrel
  have hRP := HRR.out.reps (by rw [HRP.out.len, EN.out]; omega)
  have HRV := hid hRP
  clear hRP
  have hszr : w7.heap.size <= wr.heap.size := HW.out.size
  have y7 := blk_c1 (blk_below H7.out HW.out)
  have HNX := hid (implNext_yes pa ra pc rc is R wr (HT.out.below HW.out) (HP.out.below HW.out) (HC.out.below HW.out) (rowR_of HRO.out) HIX.out HPR.out HRV.out)
  by_cases hlt : R.length < n
  ·have hkI : (R.length : Int) < (n : Int) := by omega
   have hkl : R.length < ls.length := by rw [EN.out]; exact hlt
   obtain ⟨⟨m, hfm⟩, hnmk⟩ := HRP.out.stp _ hkl
   have HFM := hid (HRR.out.full hfm)
   have HNO := hid (HRP.out.no _ hkl)
   have HYE := hid (HRP.out.yes _ hkl)
   have hxs : (gx ls R.length).name.size <= 9223372036854775807 := by have := hnmk.2.1; omega
   obtain ⟨b, off, rfl, g1, g2, g3⟩ := HG.out.below HW.out _ hkl
   clear hfm hnmk
   generalize (gx ls R.length).name = x at *
   generalize (gx ls R.length).sum = z at *
   generalize (gx ls R.length).ask = y at *
   have hk0 : (0 : Int) <= (R.length : Int) := by omega
   go_wp2_with fail
   refine HNX.out.mono ?_
   rintro e w1 ⟨hb1, r, hf, rfl⟩
   cases HFM.out.unique hf
   have HC1 := hid (cell_below hb1 g1)
   have HC2 := hid (cell_below hb1 g2)
   have HC3 := hid (cell_below hb1 g3)
   have H71 := hid (blk_below H7.out (bN HW.out hb1))
   have HBR := hid hb1
   clear hb1 hf g1 g2 g3 y7 HNX
   obtain ⟨X, eX⟩ : ∃ P, w1.heap.size = P := ⟨_, rfl⟩
   obtain ⟨wX, ewX⟩ : ∃ V, w1.alloc (.cells #[.bool false, .int .i64 0, .string ⟨#[]⟩, .bool y, .string x, .int .i64 m] 44) = V := ⟨_, rfl⟩
   have hbwX : Below w1.heap.size w1 wX := by rw [<- ewX]; exact (Below.refl _ _).alloc (Nat.le_refl _) _
   have HX : Hid (wX.heap[X]? = some (.cells #[.bool false, .int .i64 0, .string ⟨#[]⟩, .bool y, .string x, .int .i64 m] 44 (0, 0))) := by show _ = _; rw [<- ewX, <- eX]; exact heapW_new _ _
   replace HC1 := hid (cell_below hbwX HC1.out)
   replace HC2 := hid (cell_below hbwX HC2.out)
   replace HC3 := hid (cell_below hbwX HC3.out)
   replace H71 := hid (blk_below H71.out hbwX)
   replace HBR := hid (bN HBR.out hbwX)
   clear hbwX
   unfold resT turnV
   go_wp2_with fail
   clear ewX eX
   refine Lt.begin 99 (fun w' => w'.heap[X]? = some (.cells #[.bool false, .int .i64 0, .string ⟨#[]⟩, .bool y, .string x, .int .i64 m] 44 (0, 0)) /\ w'.heap[Q7]? = some (.cells #[.slice pa is.length pc] 37 (0, 0)) /\ w'.cell? ⟨b, off + R.length * 3, none⟩ = some (.string x) /\ w'.cell? ⟨b, off + R.length * 3 + 1, none⟩ = some (.bool y) /\ w'.cell? ⟨b, off + R.length * 3 + 2, none⟩ = some (.string z)) (by kernel_rfl) ?_
   obtain ⟨wD, eD⟩ : ∃ y, wX.drew = y := ⟨_, rfl⟩
   rw [eD]
   have hbD : Below wX.heap.size wX wD := by rw [<- eD]; exact (Below.refl _ _).drew
   clear eD
   replace HC1 := hid (cell_below hbD HC1.out)
   replace HC2 := hid (cell_below hbD HC2.out)
   replace HC3 := hid (cell_below hbD HC3.out)
   replace H71 := hid (blk_below H71.out hbD)
   replace HBR := hid (bt HBR.out hbD)
   replace HX := hid (blk_below HX.out hbD)
   have hS0 : (fun w' => w'.heap[X]? = some (.cells #[.bool false, .int .i64 0, .string ⟨#[]⟩, .bool y, .string x, .int .i64 m] 44 (0, 0)) /\ w'.heap[Q7]? = some (.cells #[.slice pa is.length pc] 37 (0, 0)) /\ w'.cell? ⟨b, off + R.length * 3, none⟩ = some (.string x) /\ w'.cell? ⟨b, off + R.length * 3 + 1, none⟩ = some (.bool y) /\ w'.cell? ⟨b, off + R.length * 3 + 2, none⟩ = some (.string z)) wD := ⟨HX.out, H71.out, HC1.out, HC2.out, HC3.out⟩
   change K 0 _
   iterate 3
    refine Lt.ti (v := ?_) hS0 ?_ ?_
    rotate_left 1
    ·rintro w ⟨s1, s2, s3, s4, s5⟩; obtain ⟨k0, k1, k2, k3, k4, k5, kf⟩ := six_cells s1; have p0 := blk_c1 s2; go_simp; first | done | with_reducible rfl
    simp only [gX]
   refine Lt.sp (i := 3) (fun K hK => ?_)
   go_simp
   refine (specNext_yes pa ra pc rc is R _ (HC.out.below (bN HW.out HBR.out)) (rowR_of (ownsRow_below HRO.out HBR.out)) (by omega) HIX.out (rx_any HRR.out.ok) HPR.out HRV.out).mono ?_
   rintro e wA ⟨hbA, r, hf, rfl⟩
   cases HFM.out.unique hf
   replace HC1 := hid (cell_below hbA HC1.out)
   replace HC2 := hid (cell_below hbA HC2.out)
   replace HC3 := hid (cell_below hbA HC3.out)
   replace H71 := hid (blk_below H71.out hbA)
   replace HBR := hid (bt HBR.out hbA)
   replace HX := hid (blk_below HX.out hbA)
   have hS1 : (fun w' => w'.heap[X]? = some (.cells #[.bool false, .int .i64 0, .string ⟨#[]⟩, .bool y, .string x, .int .i64 m] 44 (0, 0)) /\ w'.heap[Q7]? = some (.cells #[.slice pa is.length pc] 37 (0, 0)) /\ w'.cell? ⟨b, off + R.length * 3, none⟩ = some (.string x) /\ w'.cell? ⟨b, off + R.length * 3 + 1, none⟩ = some (.bool y) /\ w'.cell? ⟨b, off + R.length * 3 + 2, none⟩ = some (.string z)) wA := ⟨HX.out, H71.out, HC1.out, HC2.out, HC3.out⟩
   refine hK.out _ _ (fun _ => hS1) (fun _ => ?_)
   clear hK K hbA hf
   try simp only [gX]
   unfold resT turnV
   change K 4 _
   iterate 25
    refine Lt.ti (v := ?_) hS1 ?_ ?_
    rotate_left 1
    ·rintro w ⟨s1, s2, s3, s4, s5⟩; obtain ⟨k0, k1, k2, k3, k4, k5, kf⟩ := six_cells s1; have p0 := blk_c1 s2; go_simp; first | done | with_reducible rfl
    simp only [gX]
   refine Lt.done (by kernel_rfl) ?_ _
   obtain ⟨zb, ezb⟩ : ∃ zb, (z.toList == [49]) = zb := ⟨_, rfl⟩
   have EZB := hid ezb
   have HBA := hid HBR.out.size
   have k3 := HC3.out
   have ka : ∀ o, (wA.alloc o).cell? ⟨b, off + R.length * 3 + 1, none⟩ = some (.bool y) := fun o => cell_below ((Below.refl _ _).alloc (Nat.le_refl _) _) HC2.out
   go_upto_if 100 with fail
   obtain ⟨Y, eY⟩ : ∃ P, wA.heap.size = P := ⟨_, rfl⟩
   obtain ⟨wY, ewY⟩ : ∃ V, wA.alloc (.cells #[.bool zb, .int .i64 0, .string ⟨#[]⟩] 49) = V := ⟨_, rfl⟩
   have hbwY : Below wA.heap.size wA wY := by rw [<- ewY]; exact (Below.refl _ _).alloc (Nat.le_refl _) _
   have HY : Hid (wY.heap[Y]? = some (.cells #[.bool zb, .int .i64 0, .string ⟨#[]⟩] 49 (0, 0))) := by show _ = _; rw [<- ewY, <- eY]; exact heapW_new _ _
   rw [ewY, eY]
   replace HC1 := hid (cell_below hbwY HC1.out)
   replace HC2 := hid (cell_below hbwY HC2.out)
   replace HBR := hid (bN HBR.out hbwY)
   clear ewY ezb k3 ka
   have HYP : Hid (wr.heap.size <= Y) := by show _ <= _; rw [<- eY]; exact HBA.out
   clear eY
   have HWY := hid (bN HW.out HBR.out)
   have HPY := hid (blk_below HPB.out HWY.out)
   have HTY := hid (HT.out.below HWY.out)
   have HPTY := hid (HP.out.below HWY.out)
   have HOKY := hid (HOK.out.below HWY.out)
   go_cut [12] (fun p wx => ∃ y' : R3, p = .pointer (some ⟨Y, 0, none⟩) /\ Hid (wx.heap[Y]? = some (.cells #[.bool y'.has, .int .i64 y'.code, .string y'.text] 49 (0, 0))) /\ Hid (RpEq (rx zs R.length) y') /\ Hid (repOk y' = true) /\ Hid (Below wr.heap.size wr wx))
   case first =>
    cases y
    ·obtain ⟨b', hb1, hb2⟩ := HNO.out rfl
     have hzb : zb = b' := by rw [<- EZB.out, hb2]; exact flag_one b'
     have HF : Hid (RpEq (rx zs R.length) ⟨zb, 0, ⟨#[]⟩⟩) := by show RpEq _ _; rw [hb1, hzb]; exact ⟨rfl, fun _ => rfl⟩
     clear hb1 hb2 hzb
     go_wp2_with fail
     go_meet
     case rel => exact ⟨⟨zb, 0, ⟨#[]⟩⟩, rfl, HY, HF, rfl, HBR⟩
    ·go_wp2_with fail
     go_cut [13] (fun p wx => ∃ (Z : Nat) (c' : Int) (t' : ByteArray) (ch' : List ByteArray) (v' : Value), p = .pointer (some ⟨Z, 0, none⟩) /\ Hid (wx.heap[Z]? = some (.cells #[.int .i64 c', .string t', v'] 32 (0, 0))) /\ Hid (CleanP l1 ts x c' t' ch') /\ Hid (Below wY.heap.size wY wx))
     case first =>
      refine Lt.begin 8 (fun w' => w'.heap[P]? = some (.cells #[.slice sa l1.length c1, .slice ta ts.length c2] 26 (0, 0)) /\ w'.cell? ⟨b, off + R.length * 3, none⟩ = some (.string x)) (by kernel_rfl) ?_
      obtain ⟨wD, eD⟩ : ∃ y, wY.drew = y := ⟨_, rfl⟩
      rw [eD]
      have bD : Below wY.heap.size wY wD := by rw [<- eD]; exact (Below.refl _ _).drew
      have HSS : ∀ V : World, Below wY.heap.size wY V -> (fun w' => w'.heap[P]? = some (.cells #[.slice sa l1.length c1, .slice ta ts.length c2] 26 (0, 0)) /\ w'.cell? ⟨b, off + R.length * 3, none⟩ = some (.string x)) V := fun V h => ⟨blk_below HPY.out h, cell_below h HC1.out⟩
      clear eD
      change K 0 _
      iterate 6
       refine Lt.ti (v := ?_) (HSS _ bD) ?_ ?_
       rotate_left 1
       ·rintro w ⟨s1, s2⟩; obtain ⟨c0, c1⟩ := blk_c s1; go_simp; first | done | with_reducible rfl
       simp only [gX]
      refine Lt.two (i := 6) (j := 7) (by kernel_rfl) rfl rfl (fun K hK => ?_) (fun K hK => ?_)
      ·go_simp
       refine (implClean_any sa ta c1 c2 l1 ts x wD (HTY.out.below bD) (HPTY.out.below bD) (HOKY.out.below bD) HSM.out hxs).mono ?_
       rintro e wC ⟨hbC, c9, t9, ch9, ca9, cn9, cc9, rfl, hcl, hch9⟩
       have HCL := hid hcl
       have bC := bt bD hbC
       clear hcl hch9
       refine hK.out _ _ (fun _ => HSS _ bC) (fun _ => ?_)
       clear hK K
       try simp only [gX]
       refine Lt.sp (i := 7) (fun K hK => ?_)
       go_simp
       obtain ⟨wP, eP⟩ : ∃ y, wC.alloc (.cells #[.int .i64 0, .string ⟨#[]⟩, .slice none 0 0] 32) = y := ⟨_, rfl⟩
       rw [eP]
       have hbP : Below wC.heap.size wC wP := by rw [<- eP]; exact (Below.refl _ _).alloc (Nat.le_refl _) _
       have zP : wP.heap[wC.heap.size]? = some (.cells #[.int .i64 0, .string ⟨#[]⟩, .slice none 0 0] 32 (0, 0)) := by rw [<- eP]; exact heapW_new _ _
       have bP := bt bC hbP
       have hPl : wY.heap.size <= wC.heap.size := bC.size
       clear eP
       refine hK.out _ _ (fun _ => HSS _ bP) (fun _ => ?_)
       clear hK K
       try simp only [gX]
       obtain ⟨k0, k1, k2, kf⟩ := bk3 zP
       refine Lt.sp (i := 8) (fun K hK => ?_)
       go_simp
       refine hK.out _ _ (fun h => absurd rfl h) (fun _ => ?_)
       clear hK K
       refine Lt.done (by kernel_rfl) ?_ _
       go_wp2_with fail
       go_meet
       case rel => exact ⟨wC.heap.size, c9, t9, ch9, _, rfl, set3_at zP _ _ _, HCL, below_set3 bP hPl _ _ _⟩
      ·go_simp
       obtain ⟨wP, eP⟩ : ∃ y, wD.alloc (.cells #[.int .i64 0, .string ⟨#[]⟩, .slice none 0 0] 32) = y := ⟨_, rfl⟩
       rw [eP]
       have hbP : Below wD.heap.size wD wP := by rw [<- eP]; exact (Below.refl _ _).alloc (Nat.le_refl _) _
       have zP : wP.heap[wD.heap.size]? = some (.cells #[.int .i64 0, .string ⟨#[]⟩, .slice none 0 0] 32 (0, 0)) := by rw [<- eP]; exact heapW_new _ _
       have bP := bt bD hbP
       have hPl : wY.heap.size <= wD.heap.size := bD.size
       clear eP
       refine hK.out _ _ (fun _ => HSS _ bP) (fun _ => ?_)
       clear hK K
       try simp only [gX]
       refine Lt.sp (i := 6) (fun K hK => ?_)
       go_simp
       refine (implClean_any sa ta c1 c2 l1 ts x wP (HTY.out.below bP) (HPTY.out.below bP) (HOKY.out.below bP) HSM.out hxs).mono ?_
       rintro e wC ⟨hbC, c9, t9, ch9, ca9, cn9, cc9, rfl, hcl, hch9⟩
       have HCL := hid hcl
       have bC := bt bP hbC
       clear hcl hch9
       replace zP := blk_below zP hbC
       refine hK.out _ _ (fun _ => HSS _ bC) (fun _ => ?_)
       clear hK K
       try simp only [gX]
       obtain ⟨k0, k1, k2, kf⟩ := bk3 zP
       refine Lt.sp (i := 8) (fun K hK => ?_)
       go_simp
       refine hK.out _ _ (fun h => absurd rfl h) (fun _ => ?_)
       clear hK K
       refine Lt.done (by kernel_rfl) ?_ _
       go_wp2_with fail
       go_meet
       case rel => exact ⟨wD.heap.size, c9, t9, ch9, _, rfl, set3_at zP _ _ _, HCL, below_set3 bC hPl _ _ _⟩
     case rest =>
      obtain ⟨Z, c', t', ch', v', rfl, HZ, HCL, HBZ⟩ := hcut
      obtain ⟨wZ, ewZ⟩ : ∃ y, wc = y := ⟨_, rfl⟩
      rw [ewZ] at HZ HBZ ⊢
      clear ewZ
      go_wp2_with fail
      go_cut [15] (fun p wx => ∃ b2 : Bool, p = .bool b2 /\ Hid (b2 = true <-> Has (tnames ts) x) /\ Hid (Below wZ.heap.size wZ wx))
      case first =>
       refine Lt.begin 12 (fun w' => w'.heap[P]? = some (.cells #[.slice sa l1.length c1, .slice ta ts.length c2] 26 (0, 0)) /\ w'.cell? ⟨b, off + R.length * 3, none⟩ = some (.string x)) (by kernel_rfl) ?_
       obtain ⟨wD, eD⟩ : ∃ y, wZ.drew = y := ⟨_, rfl⟩
       rw [eD]
       have bD : Below wZ.heap.size wZ wD := by rw [<- eD]; exact (Below.refl _ _).drew
       have HSS : ∀ V : World, Below wZ.heap.size wZ V -> (fun w' => w'.heap[P]? = some (.cells #[.slice sa l1.length c1, .slice ta ts.length c2] 26 (0, 0)) /\ w'.cell? ⟨b, off + R.length * 3, none⟩ = some (.string x)) V := fun V h => ⟨blk_below (blk_below HPY.out HBZ.out) h, cell_below h (cell_below HBZ.out HC1.out)⟩
       clear eD
       change K 0 _
       iterate 6
        refine Lt.ti (v := ?_) (HSS _ bD) ?_ ?_
        rotate_left 1
        ·rintro w ⟨s1, s2⟩; obtain ⟨c0, c1⟩ := blk_c s1; go_simp; first | done | with_reducible rfl
        simp only [gX]
       refine Lt.two (i := 6) (j := 10) (by kernel_rfl) rfl rfl (fun K hK => ?_) (fun K hK => ?_)
       ·go_simp
        refine (wAction_any _ ta c2 ts x wD ((HOKY.out.below HBZ.out).rt.below bD) HSM.out.lt HSM.out.lc).mono ?_
        rintro e wC ⟨hbC, hact⟩
        obtain ⟨pa2, pl2, pc2, b2, rfl, _, hact⟩ := hact.parts
        have HAC := hid hact
        have bC := bt bD hbC
        clear hact
        refine hK.out _ _ (fun _ => HSS _ bC) (fun _ => ?_)
        clear hK K
        try simp only [gX]
        change K 7 _
        iterate 3
         refine Lt.ti (v := ?_) (HSS _ bC) ?_ ?_
         rotate_left 1
         ·rintro w ⟨s1, s2⟩; obtain ⟨c0, c1⟩ := blk_c s1; go_simp; first | done | with_reducible rfl
         simp only [gX]
        refine Lt.sp (i := 10) (fun K hK => ?_)
        go_simp
        obtain ⟨wP, eP⟩ : ∃ y, wC.alloc (.cells #[.slice none 0 0] 37) = y := ⟨_, rfl⟩
        rw [eP]
        have hbP : Below wC.heap.size wC wP := by rw [<- eP]; exact (Below.refl _ _).alloc (Nat.le_refl _) _
        have zP : wP.heap[wC.heap.size]? = some (.cells #[.slice none 0 0] 37 (0, 0)) := by rw [<- eP]; exact heapW_new _ _
        have bP := bt bC hbP
        have hPl : wZ.heap.size <= wC.heap.size := bC.size
        clear eP
        refine hK.out _ _ (fun _ => HSS _ bP) (fun _ => ?_)
        clear hK K
        try simp only [gX]
        have k0 := blk_c1 zP
        have kf := fun j => Lib.frozen_of_heap zP j
        refine Lt.sp (i := 11) (fun K hK => ?_)
        go_simp
        have bS : Below wZ.heap.size wZ _ := bP.setCell (p := ⟨wC.heap.size, 0, none⟩) hPl (.slice pa2 pl2 pc2)
        refine hK.out _ _ (fun _ => HSS _ bS) (fun _ => ?_)
        clear hK K
        try simp only [gX]
        refine Lt.sp (i := 12) (fun K hK => ?_)
        go_simp
        refine hK.out _ _ (fun h => absurd rfl h) (fun _ => ?_)
        clear hK K
        refine Lt.done (by kernel_rfl) ?_ _
        go_wp2_with fail
        go_meet
        case rel => exact ⟨b2, rfl, HAC, bS⟩
       ·go_simp
        obtain ⟨wP, eP⟩ : ∃ y, wD.alloc (.cells #[.slice none 0 0] 37) = y := ⟨_, rfl⟩
        rw [eP]
        have hbP : Below wD.heap.size wD wP := by rw [<- eP]; exact (Below.refl _ _).alloc (Nat.le_refl _) _
        have zP : wP.heap[wD.heap.size]? = some (.cells #[.slice none 0 0] 37 (0, 0)) := by rw [<- eP]; exact heapW_new _ _
        have bP := bt bD hbP
        have hPl : wZ.heap.size <= wD.heap.size := bD.size
        clear eP
        refine hK.out _ _ (fun _ => HSS _ bP) (fun _ => ?_)
        clear hK K
        try simp only [gX]
        refine Lt.sp (i := 6) (fun K hK => ?_)
        go_simp
        refine (wAction_any _ ta c2 ts x wP ((HOKY.out.below HBZ.out).rt.below bP) HSM.out.lt HSM.out.lc).mono ?_
        rintro e wC ⟨hbC, hact⟩
        obtain ⟨pa2, pl2, pc2, b2, rfl, _, hact⟩ := hact.parts
        have HAC := hid hact
        have bC := bt bP hbC
        clear hact
        replace zP := blk_below zP hbC
        refine hK.out _ _ (fun _ => HSS _ bC) (fun _ => ?_)
        clear hK K
        try simp only [gX]
        change K 7 _
        iterate 3
         refine Lt.ti (v := ?_) (HSS _ bC) ?_ ?_
         rotate_left 1
         ·rintro w ⟨s1, s2⟩; obtain ⟨c0, c1⟩ := blk_c s1; go_simp; first | done | with_reducible rfl
         simp only [gX]
        have k0 := blk_c1 zP
        have kf := fun j => Lib.frozen_of_heap zP j
        refine Lt.sp (i := 11) (fun K hK => ?_)
        go_simp
        have bS : Below wZ.heap.size wZ _ := bC.setCell (p := ⟨wD.heap.size, 0, none⟩) hPl (.slice pa2 pl2 pc2)
        refine hK.out _ _ (fun _ => HSS _ bS) (fun _ => ?_)
        clear hK K
        try simp only [gX]
        refine Lt.sp (i := 12) (fun K hK => ?_)
        go_simp
        refine hK.out _ _ (fun h => absurd rfl h) (fun _ => ?_)
        clear hK K
        refine Lt.done (by kernel_rfl) ?_ _
        go_wp2_with fail
        go_meet
        case rel => exact ⟨b2, rfl, HAC, bS⟩
      case rest =>
       obtain ⟨b2, rfl, HB2, HBX⟩ := hcut
       obtain ⟨j0, j5, jt, jc, jr⟩ := HYE.out (by trivial) _ _ _ HCL.out
       have HJR := hid (jr b2 HB2.out)
       have HOK2 : Hid (repOk ⟨b2 || decide (c' = 0), c', t'⟩ = true) := by show _ = _; simp only [repOk, Bool.and_eq_true, decide_eq_true_eq]; exact ⟨⟨jt, j0⟩, by omega⟩
       obtain ⟨m0, m1, m2, mf⟩ := bk3 (blk_below HZ.out HBX.out)
       have HYX := hid (blk_below (blk_below HY.out HBZ.out) HBX.out)
       obtain ⟨q0, q1, q2, qf⟩ := bk3 HYX.out
       have HBRX := hid (bN (bN HBR.out HBZ.out) HBX.out)
       have hYP := HYP.out
       clear jc jr
       cases b2
       ·obtain ⟨cb, ecb⟩ : ∃ cb, decide (c' = 0) = cb := ⟨_, rfl⟩
        rw [ecb] at HJR HOK2
        have ec2 : (c' == 0) = cb := by rw [<- ecb]; by_cases h : c' = 0 <;> simp [h]
        go_wp2_with fail
        go_meet
        case rel => exact ⟨⟨cb, c', t'⟩, rfl, set3_at HYX.out _ _ _, HJR, HOK2, below_set3 HBRX.out hYP _ _ _⟩
       ·go_wp2_with fail
        go_meet
        case rel => exact ⟨⟨true, c', t'⟩, rfl, set3_at HYX.out _ _ _, HJR, HOK2, below_set3 HBRX.out hYP _ _ _⟩
   case rest =>
    obtain ⟨y', rfl, HYX, HEQ, HRE, HBX⟩ := hcut
    obtain ⟨m0, m1, m2, mf⟩ := bk3 HYX.out
    have HRX := hid (ownsRow_below HRO.out HBX.out)
    have hszx : wr.heap.size <= wc.heap.size := HBX.out.size
    obtain ⟨yh, eyh⟩ : ∃ v, y'.has = v := ⟨_, rfl⟩
    obtain ⟨yc, eyc⟩ : ∃ v, y'.code = v := ⟨_, rfl⟩
    obtain ⟨yt, eyt⟩ : ∃ v, y'.text = v := ⟨_, rfl⟩
    rw [eyh] at m0; rw [eyc] at m1; rw [eyt] at m2
    have EYS := hid (And.intro eyh (And.intro eyc eyt))
    clear eyh eyc eyt HYX mf
    go_wp2_with (first | (at_builtin; refine wpList_append_own _ rfl (.tmp 129) (.tmp 131) 42 rfl w7.heap.size 49 i0 (.agg #[.bool false, .int .i64 0, .string ⟨#[]⟩]) 3 32 Tryz.underlying42 hi0 hz0 hzz1 hzz2 rfl (by decide) _ _ _ rfl (HRX.out.alloc _) ⟨wc.heap.size, 0, none⟩ 1 1 [.bool yh, .int .i64 yc, .string yt] rfl rfl (cell_three _ _ _ _ _) (by intro u hu; simp at hu; rcases hu with rfl | rfl | rfl <;> rfl) (by unfold maxLen; omega) (by omega) (by simp; omega) ?_; intro v4 w4 hown4 hgrow4 hnil4))
    obtain ⟨g4, cp4, rfl⟩ : ∃ g cp, v4 = .slice (some ⟨g, 0, none⟩) (R.length + 1) cp := by
     rcases hown4.2 with ⟨e, h0⟩ | ⟨g, cap, cur, e, _⟩
     ·omega
     ·exact ⟨g, cap, e⟩
    have HR4 : Hid (w4.ownsRow w7.heap.size 49 3 (.slice (some ⟨g4, 0, none⟩) (R ++ [y']).length cp4) (R ++ [y']).length (repCells (R ++ [y']))) := by
     show World.ownsRow _ _ _ _ _ _ _; rw [List.length_append, List.length_singleton, repCells_snoc, EYS.out.1, EYS.out.2.1, EYS.out.2.2]; exact hown4
    have HW4 : Hid (Below w7.heap.size w7 w4) := ((HW.out.trans (HBX.out.mono hszr)).alloc (by omega) _).grown hgrow4 (by simp; omega) (fun j hj => (HRO.out.lt j hj).1)
    have HRR4 := hid (HRR.out.snoc (by rw [HRP.out.len, EN.out]; exact hlt) HEQ.out HRE.out)
    clear hown4 hgrow4 hnil4
    go_wp2_with fail
    go_roundw
    case rel => exact ⟨R ++ [y'], some ⟨g4, 0, none⟩, cp4, by simp; omega, by rw [List.length_append]; go_num, by rw [List.length_append]; rfl, HRR4, HR4, HW4⟩
    case measure => simp [intOf]; omega
  ·have hkI : ¬ (R.length : Int) < (n : Int) := by omega
   obtain ⟨m, hfin⟩ := HRP.out.fin
   have HFM : Hid (Full is R s00 (.over c t m)) := HRR.out.full (by rw [List.take_of_length_le (by rw [HRP.out.len, EN.out]; omega)]; exact hfin)
   clear hfin
   go_wp2_with fail
   refine HNX.out.mono ?_
   rintro e w1 ⟨hb1, r, hf, rfl⟩
   cases HFM.out.unique hf
   have HBR := hid hb1
   clear hb1 hf y7 HNX
   obtain ⟨X, eX⟩ : ∃ P, w1.heap.size = P := ⟨_, rfl⟩
   obtain ⟨wX, ewX⟩ : ∃ V, w1.alloc (.cells #[.bool true, .int .i64 c, .string t, .bool false, .string ⟨#[]⟩, .int .i64 m] 44) = V := ⟨_, rfl⟩
   have hbwX : Below w1.heap.size w1 wX := by rw [<- ewX]; exact (Below.refl _ _).alloc (Nat.le_refl _) _
   have HX : Hid (wX.heap[X]? = some (.cells #[.bool true, .int .i64 c, .string t, .bool false, .string ⟨#[]⟩, .int .i64 m] 44 (0, 0))) := by show _ = _; rw [<- ewX, <- eX]; exact heapW_new _ _
   replace HBR := hid (bN HBR.out hbwX)
   obtain ⟨Y, eY⟩ : ∃ P, wX.heap.size = P := ⟨_, rfl⟩
   obtain ⟨wY, ewY⟩ : ∃ V, wX.alloc (.cells #[.bool true, .int .i64 c, .string t, .bool false, .string ⟨#[]⟩, .int .i64 m] 44) = V := ⟨_, rfl⟩
   have hbwY : Below wX.heap.size wX wY := by rw [<- ewY]; exact (Below.refl _ _).alloc (Nat.le_refl _) _
   have HY : Hid (wY.heap[Y]? = some (.cells #[.bool true, .int .i64 c, .string t, .bool false, .string ⟨#[]⟩, .int .i64 m] 44 (0, 0))) := by show _ = _; rw [<- ewY, <- eY]; exact heapW_new _ _
   have HXY := hid (blk_below HX.out hbwY)
   obtain ⟨k0, k1, k2, k3, k4, k5, kf⟩ := six_cells HX.out
   unfold resT turnV
   go_upto_if 139 with fail
   clear ewX eX ewY k0 k1 k2 k3 k4 k5 kf
   go_cut [17] (fun p wx => p = .pointer (some ⟨Y, 0, none⟩) /\ Hid (wx.heap[X]? = some (.cells #[.bool true, .int .i64 c, .string t, .bool false, .string ⟨#[]⟩, .int .i64 m] 44 (0, 0))) /\ Hid (wx.heap[Y]? = some (.cells #[.bool true, .int .i64 c, .string t, .bool false, .string ⟨#[]⟩, .int .i64 m] 44 (0, 0))) /\ Hid (Below w7.heap.size w7 wx))
   case first =>
    have H7Y := hid (blk_below H7.out (bN HW.out (bN HBR.out hbwY)))
    have HRY := hid (ownsRow_below HRO.out (bN HBR.out hbwY))
    have HBY := hid (bN HW.out (bN HBR.out hbwY))
    have hXY : X ≠ Y := by have := blk_lt HX.out; omega
    have hY7 : w7.heap.size <= Y := by rw [<- eY]; exact (bN HW.out HBR.out).size
    clear eY
    by_cases h200 : R.length < 200
    ·have h2I : (R.length : Int) < 200 := by omega
     go_wp2_with fail
     refine Lt.begin 6 (fun w' => w'.heap[Q7]? = some (.cells #[.slice pa is.length pc] 37 (0, 0))) (by kernel_rfl) ?_
     obtain ⟨wD, eD⟩ : ∃ y, wY.drew = y := ⟨_, rfl⟩
     rw [eD]
     have hbD : Below wY.heap.size wY wD := by rw [<- eD]; exact (Below.refl _ _).drew
     clear eD
     replace H7Y := hid (blk_below H7Y.out hbD)
     replace HRY := hid (ownsRow_below HRY.out hbD)
     replace HBY := hid (bt HBY.out hbD)
     replace HXY := hid (blk_below HXY.out hbD)
     replace HY := hid (blk_below HY.out hbD)
     have hS0 : (fun w' => w'.heap[Q7]? = some (.cells #[.slice pa is.length pc] 37 (0, 0))) wD := H7Y.out
     change K 0 _
     iterate 3
      refine Lt.ti (v := ?_) hS0 ?_ ?_
      rotate_left 1
      ·rintro w s2; have p0 := blk_c1 s2; go_simp; first | done | with_reducible rfl
      simp only [gX]
     refine Lt.sp (i := 3) (fun K hK => ?_)
     go_simp
     refine name_alloc (Q := fun x => K _ x) ?_
     intro wL hbL HL
     try dsimp only
     obtain ⟨dL, edL⟩ : ∃ d, wD.heap.size = d := ⟨_, rfl⟩
     rw [edL] at HL ⊢
     replace H7Y := hid (blk_below H7Y.out hbL)
     replace HRY := hid (ownsRow_below HRY.out hbL)
     replace HBY := hid (bt HBY.out hbL)
     replace HXY := hid (blk_below HXY.out hbL)
     replace HY := hid (blk_below HY.out hbL)
     have hS1 : (fun w' => w'.heap[Q7]? = some (.cells #[.slice pa is.length pc] 37 (0, 0))) wL := H7Y.out
     refine hK.out _ _ (fun _ => hS1) (fun _ => ?_)
     clear hK K
     try simp only [gX]
     refine Lt.sp (i := 4) (fun K hK => ?_)
     refine step_appY rfl (by rfl) w7.heap.size _ _ (repCells R) (by rfl) HRY.out dL true 0 ⟨#[109, 111, 114, 101]⟩ (by rfl) HL.out HBY.out.size (by omega) ?_
     intro g' cap' w8 hown8 hgrow
     have H7YN := hid (blk_grow H7Y.out hgrow (HasT.ne ⟨_, H7Y.out⟩ HRY.out (by decide)))
     have HXYN := hid (blk_grow HXY.out hgrow (HasT.ne ⟨_, HXY.out⟩ HRY.out (by decide)))
     have HYN := hid (blk_grow HY.out hgrow (HasT.ne ⟨_, HY.out⟩ HRY.out (by decide)))
     have HBN := hid (HBY.out.grown hgrow HBY.out.size (fun j hj => (HRY.out.lt j hj).1))
     have HRN : RowR w8 (some ⟨g', 0, none⟩) (R ++ [⟨true, 0, ⟨#[109, 111, 114, 101]⟩⟩]) := rowR_of (B := w7.heap.size) (cap := cap') (by rw [List.length_append, List.length_singleton, repCells_snoc]; exact hown8)
     have hvm : repsOk (R ++ [⟨true, 0, ⟨#[109, 111, 114, 101]⟩⟩]) = true := by simp only [repsOk, Bool.and_eq_true, decide_eq_true_eq]; exact ⟨by simp; omega, rx_snoc HRR.out.ok (by decide)⟩
     have hn2 := implNext_yes pa (some ⟨g', 0, none⟩) pc cap' is _ w8 (HT.out.below HBN.out) (HP.out.below HBN.out) (HC.out.below HBN.out) HRN HIX.out HPR.out hvm
     rw [List.length_append, List.length_singleton] at hn2
     have HN2 := hid hn2
     have hS8 : (fun w' => w'.heap[Q7]? = some (.cells #[.slice pa is.length pc] 37 (0, 0))) w8 := H7YN.out
     refine hK.out _ _ (fun _ => hS8) (fun _ => ?_)
     clear hK K hgrow hown8 hn2 hvm HRN
     try simp only [gX]
     refine Lt.sp (i := 5) (fun K hK => ?_)
     go_simp
     refine HN2.out.mono ?_
     rintro e w9 ⟨hb9, r, hf, rfl⟩
     cases (HFM.out.more [_] rfl).unique hf
     have hS9 : (fun w' => w'.heap[Q7]? = some (.cells #[.slice pa is.length pc] 37 (0, 0))) w9 := blk_below H7YN.out hb9
     have HX9 := hid (blk_below HXYN.out hb9)
     have HY9 := hid (blk_below HYN.out hb9)
     have HB9 := hid (bN HBN.out hb9)
     refine hK.out _ _ (fun _ => hS9) (fun _ => ?_)
     clear hK K hf HN2 hb9
     try simp only [gX]
     obtain ⟨k0, k1, k2, k3, k4, k5, kf⟩ := six_cells HY9.out
     unfold resT turnV
     refine Lt.sp (i := 6) (fun K hK => ?_)
     go_simp
     refine hK.out _ _ (fun h => absurd rfl h) (fun _ => ?_)
     clear hK K
     refine Lt.done (by kernel_rfl) ?_ _
     go_wp2_with fail
     go_meet
     case rel => exact ⟨rfl, (set6_ne hXY _ _ _ _ _ _).trans HX9.out, (storeT rfl HY9.out _ _ _ _ _ _).1, below_set6 HB9.out hY7 _ _ _ _ _ _⟩
    ·have h2I : ¬ (R.length : Int) < 200 := by omega
     go_wp2_with fail
     go_meet
     case rel => exact ⟨rfl, HXY, HY, HBY⟩
   case rest =>
    obtain ⟨rfl, HXc, HYc, HBc⟩ := hcut
    obtain ⟨k0, k1, k2, k3, k4, k5, kf⟩ := six_cells HXc.out
    obtain ⟨j0, j1, j2, j3, j4, j5, jf⟩ := six_cells HYc.out
    obtain ⟨x0, x1, x2⟩ := blk_c3 (blk_below H6.out HBc.out)
    have heq := strEq (rfl : t = t)
    go_wp2_with fail
    go_ret
    exact ⟨rfl, bN HB.out HBc.out⟩
end Go.Proofs.YtmanoabocelpeaaGreatDoor
