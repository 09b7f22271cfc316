import Derived.Test.YtbbfboikigmghaaGreatDoorDbK
namespace Go.Proofs.YtbbfboikigmghaaGreatDoor
open Go.RowKit
set_option linter.unusedVariables false
set_option maxHeartbeats 32000000
set_option maxRecDepth 100000
section
open Go.Deep
theorem step_call3 {f : Nat} {xi yi zi : Nat} {ty ty' ty'' : TypeId} {W : World} {ops : Array Oper} {o : Oper} {a : Act} {K : Act -> World -> Prop} {Q : Exit -> Act -> World -> Prop} {E : Prop} (hgd : o.guard = none)
    (ho : o.op = .call { callee := .value (.func f), args := #[.tmp xi, .tmp yi, .tmp zi], argTypes := #[ty, ty', ty''] }) (v1 v2 v3 : Value) (hx : a.eval (.tmp xi) = v1) (hy : a.eval (.tmp yi) = v2) (hz : a.eval (.tmp zi) = v3) {P : Value -> World -> Prop} (hc : Calls Tryz.prog f #[v1, v2, v3] W fun e w' => ∃ v, e = .returned v /\ P v w') (hfn : ∀ W : World, (callFunc f #[v1, v2, v3]).run Tryz.prog W = .ok (.enter f #[v1, v2, v3]) W) (h : ∀ v w', P v w' -> K (a.put o.dst v) w') :
    if Region.wanted o (yielded ops a.tmps) = true then Oper.wp Tryz.prog o a W K Q else E := by
  have hw : Region.wanted o (yielded ops a.tmps) = true := by simp [Region.wanted, hgd]
  have hrun : (execOp a.eval o).run Tryz.prog W = .ok (.enter f #[v1, v2, v3]) W := by
    unfold execOp
    rw [ho]
    simp [Act.eval] at hx hy hz
    simp [go_sem, Act.eval, hx, hy, hz]
    exact hfn W
  rw [if_pos hw]
  unfold Oper.wp
  rw [hrun, Oper.upon_enter]
  refine hc.mono ?_
  rintro e w' ⟨v, rfl, hp⟩
  exact h v w' hp
theorem toStore_c (n : Int) (ta ra : Option Addr) (tc rc : Nat) (ts : List ByteArray) (rs : List T3) (w : World) (st : Strs w ta ts) (rq : RowQ w ra rs) (hl : ts.length <= 1048576) (hq : QsSmall rs) :
    Calls Tryz.prog 7 #[.agg #[.int .i64 n, .slice ta ts.length tc, .slice ra rs.length rc]] w fun e w' => ∃ v, e = .returned v /\ (Below w.heap.size w w' /\ ∃ g1 g2 : Nat, v = .agg #[.int .i64 n, .slice (some ⟨g1, 0, none⟩) ts.length ts.length, .slice (some ⟨g2, 0, none⟩) rs.length rs.length] /\ Strs w' (some ⟨g1, 0, none⟩) ts /\ RowQ w' (some ⟨g2, 0, none⟩) rs) := by
  refine (toStore_any n ta ra tc rc ts rs w st rq hl hq).mono ?_
  rintro e w' ⟨hb, g1, g2, rfl, r⟩
  exact ⟨_, rfl, hb, g1, g2, rfl, r⟩
theorem toSpace_c (sa ta : Option Addr) (c1 c2 : Nat) (ss : List S2) (ts : List T2) (w : World) (rs : RowS w sa ss) (rt : RowT w ta ts) (h : SpSmall ss ts) :
    Calls Tryz.prog 8 #[.agg #[.slice sa ss.length c1, .slice ta ts.length c2]] w fun e w' => ∃ v, e = .returned v /\ (Below w.heap.size w w' /\ ∃ g1 g2 : Nat, v = .agg #[.slice (some ⟨g1, 0, none⟩) ss.length ss.length, .slice (some ⟨g2, 0, none⟩) ts.length ts.length] /\ RowS w' (some ⟨g1, 0, none⟩) ss /\ RowT w' (some ⟨g2, 0, none⟩) ts) := by
  refine (toSpace_any sa ta c1 c2 ss ts w rs rt h).mono ?_
  rintro e w' ⟨hb, g1, g2, rfl, r⟩
  exact ⟨_, rfl, hb, g1, g2, rfl, r⟩
theorem eqStore_c (n : Int) (ta ra ta' ra' : Option Addr) (tc rc tc' rc' : Nat) (ts : List ByteArray) (rs : List T3) (w : World) (st : Strs w ta ts) (st' : Strs w ta' ts) (rq : RowQ w ra rs) (rq' : RowQ w ra' rs) (hl : ts.length <= 1048576) (hq : QsSmall rs) :
    Calls Tryz.prog 10 #[.agg #[.int .i64 n, .slice ta ts.length tc, .slice ra rs.length rc], .agg #[.int .i64 n, .slice ta' ts.length tc', .slice ra' rs.length rc']] w fun e w' => ∃ v, e = .returned v /\ (Below w.heap.size w w' /\ v = .bool true) := by
  refine (eqStore_same n ta ra ta' ra' tc rc tc' rc' ts rs w st st' rq rq' hl hq).mono ?_
  rintro e w' ⟨hb, rfl⟩
  exact ⟨_, rfl, hb, rfl⟩
theorem eqSpace_c (sa ta sa' ta' : Option Addr) (c1 c2 c1' c2' : Nat) (ss : List S2) (ts : List T2) (w : World) (rs : RowS w sa ss) (rt : RowT w ta ts) (rs' : RowS w sa' ss) (rt' : RowT w ta' ts) (h : SpSmall ss ts) :
    Calls Tryz.prog 11 #[.agg #[.slice sa ss.length c1, .slice ta ts.length c2], .agg #[.slice sa' ss.length c1', .slice ta' ts.length c2']] w fun e w' => ∃ v, e = .returned v /\ (Below w.heap.size w w' /\ v = .bool true) := by
  refine (eqSpace_same sa ta sa' ta' c1 c2 c1' c2' ss ts w rs rt rs' rt' h).mono ?_
  rintro e w' ⟨hb, rfl⟩
  exact ⟨_, rfl, hb, rfl⟩
theorem specDoubt_c (n : Int) (tb : Nat) (ra sa ua : Option Addr) (tc rc c1 c2 : Nat) (ts : List ByteArray) (rs : List T3) (ss : List S2) (tp : List T2) (nm : ByteArray) (w : World) (hns : nm.size <= 9223372036854775807) (hst : StIn w (some ⟨tb, 0, none⟩) ts ra rs) (hsp : SpOk w sa ss ua tp) (hsm : SpSmall ss tp) :
    Calls Tryz.prog 6 #[.agg #[.int .i64 n, .slice (some ⟨tb, 0, none⟩) ts.length tc, .slice ra rs.length rc], .agg #[.slice sa ss.length c1, .slice ua tp.length c2], .string nm] w fun e w' => ∃ v, e = .returned v /\ (Below w.heap.size w w' /\ ∃ A B ok, v = .tuple #[.string A, .string B, .bool ok] /\ DoubtP n ts rs ss tp nm A B ok) := by
  refine (specDoubt_any n tb ra sa ua tc rc c1 c2 ts rs ss tp nm w hns hst hsp hsm).mono ?_
  rintro e w' ⟨hb, A, B, ok, rfl, r⟩
  exact ⟨_, rfl, hb, A, B, ok, rfl, r⟩
theorem doubtLaw (n : Int) (ta ra sa ua : Option Addr) (tc rc c1 c2 : Nat) (ts : List ByteArray) (rs : List T3) (ss : List S2) (tp : List T2) (nm : ByteArray) (w : World) (hT : Tab w) (hP : P10 w) (h : SoOk w ta ts ra rs) (hs : SpOk w sa ss ua tp) (hnm : nm.size <= 9223372036854775807) :
    Calls Tryz.prog 3 #[.agg #[.int .i64 n, .slice ta ts.length tc, .slice ra rs.length rc], .agg #[.slice sa ss.length c1, .slice ua tp.length c2], .string nm] w fun e w' => e = .returned (.bool true) /\ Below w.heap.size w w' := by
  obtain ⟨W, eW⟩ : ∃ W, (w.alloc (.cells #[.int .i64 n, .slice ta ts.length tc, .slice ra rs.length rc] 25)).alloc (.cells #[.slice sa ss.length c1, .slice ua tp.length c2] 29) = W := ⟨_, rfl⟩
  have hbW : Below w.heap.size w W := by rw [<- eW]; exact ((Below.refl _ _).alloc (Nat.le_refl _) _).alloc (by simp) _
  have hWa : W.heap[w.heap.size]? = some (.cells #[.int .i64 n, .slice ta ts.length tc, .slice ra rs.length rc] 25 (0, 0)) := by
    rw [<- eW, Lib.alloc_old _ _ _ (by simp)]; exact heap_new _ _
  have hWb : W.heap[w.heap.size + 1]? = some (.cells #[.slice sa ss.length c1, .slice ua tp.length c2] 29 (0, 0)) := by
    rw [<- eW]
    have h := heap_new (w.alloc (.cells #[.int .i64 n, .slice ta ts.length tc, .slice ra rs.length rc] 25)) (.cells #[.slice sa ss.length c1, .slice ua tp.length c2] 29)
    rw [show (w.alloc (.cells #[.int .i64 n, .slice ta ts.length tc, .slice ra rs.length rc] 25)).heap.size = w.heap.size + 1 from by simp] at h
    exact h
  have HX : Hid (∀ V, Below W.heap.size W V -> (V.cell? ⟨w.heap.size, 0, none⟩ = some (.int .i64 n) /\ V.cell? ⟨w.heap.size, 1, none⟩ = some (.slice ta ts.length tc) /\ V.cell? ⟨w.heap.size, 2, none⟩ = some (.slice ra rs.length rc)) /\ V.cell? ⟨w.heap.size + 1, 0, none⟩ = some (.slice sa ss.length c1) /\ V.cell? ⟨w.heap.size + 1, 1, none⟩ = some (.slice ua tp.length c2)) := fun V hV => by
    have e1 := blk_keep hV hWa
    have e2 := blk_keep hV hWb
    refine ⟨⟨?_, ?_, ?_⟩, ?_, ?_⟩
    · rw [Lib.cell_of_heap e1]; rfl
    · rw [Lib.cell_of_heap e1]; rfl
    · rw [Lib.cell_of_heap e1]; rfl
    · rw [Lib.cell_of_heap e2]; rfl
    · rw [Lib.cell_of_heap e2]; rfl
  have HB : Hid (Below w.heap.size w W) := hbW
  have HT : Hid (Tab w /\ P10 w) := ⟨hT, hP⟩
  have HO : Hid (SoOk w ta ts ra rs) := h
  have HS : Hid (SpOk w sa ss ua tp) := hs
  have HUN : Hid (chk ss tp = 0 -> SpV ss tp) := fun e => (env_of HS.out e).v
  obtain ⟨⟨c0, c1', c2'⟩, d0, d1⟩ := HX.out W (Below.refl _ _)
  clear hT hP h hs hWa hWb hbW
  by_cases hbig : (1048576 : Int) < (nm.size : Int)
  · go_enter Tryz.func3, Tryz.ntmps3
    go_wp2_with fail
    exact bodyPost_ret (v := .bool true) (by simp [results, Tryz.results3, go_sem]) rfl ⟨rfl, HB.out⟩
  · go_enter Tryz.func3, Tryz.ntmps3
    go_wp2_with fail
    refine (szStore_le n ta ra tc rc ts rs _ (HO.out.below HB.out)).mono ?_
    rintro e w1 ⟨hb1, r, rfl, hr⟩
    have HB1 : Hid (Below W.heap.size W w1) := hb1
    rcases hr with hr | ⟨⟨hr0, hr1⟩, hl, hq⟩
    · go_wp2_with fail
      exact bodyPost_ret (v := .bool true) (by simp [results, Tryz.results3, go_sem]) rfl ⟨rfl, bt HB.out HB1.out⟩
    · have HQ : Hid (QsSmall rs) := hq
      have hrI : ¬ r < 0 := by omega
      clear c0 c1' c2' d0 d1 hq hb1
      obtain ⟨⟨c0, c1', c2'⟩, d0, d1⟩ := HX.out w1 HB1.out
      go_wp2_with fail
      refine (szSpace_l r hr0 hr1 sa ua c1 c2 ss tp _ (HS.out.below (bt HB.out HB1.out))).mono ?_
      rintro e w2 ⟨hb2, r2, rfl, hr2⟩
      have HB2 : Hid (Below W.heap.size W w2) := bt HB1.out hb2
      rcases hr2 with hr2 | ⟨hsm, hr2⟩
      · go_wp2_with fail
        exact bodyPost_ret (v := .bool true) (by simp [results, Tryz.results3, go_sem]) rfl ⟨rfl, bt HB.out HB2.out⟩
      · have HSM : Hid (SpSmall ss tp) := hsm
        have hr2I : ¬ r2 < 0 := by omega
        clear c0 c1' c2' d0 d1 hsm hb2
        go_upto_region 10 with fail
        obtain ⟨U, eU⟩ : ∃ U, w2.drew = U := ⟨_, rfl⟩
        have hbU : Below w2.heap.size w2 U := by rw [<- eU]; exact (Below.refl _ _).drew
        have HBU : Hid (Below W.heap.size W U) := bt HB2.out hbU
        obtain ⟨⟨c0, c1', c2'⟩, d0, d1⟩ := HX.out U HBU.out
        clear hbU
        go_cut [8, 9, 10] (fun p q r wx => ∃ (A B : ByteArray) (ok : Bool), p = .string A /\ q = .string B /\ r = .bool ok /\ Hid (DoubtP n ts rs ss tp nm A B ok) /\ Hid (Below W.heap.size W wx))
        case first =>
          go_region_law (first | (refine step_call1 (f := 7) rfl rfl (.agg #[.int .i64 n, .slice ta ts.length tc, .slice ra rs.length rc]) ?_ (toStore_c n ta ra tc rc ts rs _ (HO.out.st.below (bt HB.out HBU.out)) (HO.out.rq.below (bt HB.out HBU.out)) hl HQ.out) (fun W => by simp [go_sem]) ?_; (focus (first | rfl | (simp [Act.eval]; done))); rintro v w3 ⟨hb3x, g1, g2, rfl, hs3, hq3⟩; have HB3 : Hid (Below W.heap.size W w3) := bt HBU.out ⟨hb3x.os, hb3x.tape, hb3x.output, hb3x.size, hb3x.block⟩; have HS3 : Hid (Strs w3 (some ⟨g1, 0, none⟩) ts /\ RowQ w3 (some ⟨g2, 0, none⟩) rs) := ⟨hs3, hq3⟩; obtain ⟨_, f0, f1⟩ := HX.out w3 HB3.out; clear hb3x hs3 hq3) | (refine step_call1 (f := 8) rfl rfl (.agg #[.slice sa ss.length c1, .slice ua tp.length c2]) ?_ (toSpace_c sa ua c1 c2 ss tp _ (HS.out.rs.below (bt HB.out HB3.out)) (HS.out.rt.below (bt HB.out HB3.out)) HSM.out) (fun W => by simp [go_sem]) ?_; (focus (first | rfl | (simp [Act.eval]; done))); rintro v w4 ⟨hb4x, g3, g4, rfl, hs4, ht4⟩; have HB34 : Hid (Below w3.heap.size w3 w4) := ⟨hb4x.os, hb4x.tape, hb4x.output, hb4x.size, hb4x.block⟩; have HS4 : Hid (RowS w4 (some ⟨g3, 0, none⟩) ss /\ RowT w4 (some ⟨g4, 0, none⟩) tp) := ⟨hs4, ht4⟩; clear hb4x hs4 ht4) | (refine step_call3 (f := 6) rfl rfl (.agg #[.int .i64 n, .slice (some ⟨g1, 0, none⟩) ts.length ts.length, .slice (some ⟨g2, 0, none⟩) rs.length rs.length]) (.agg #[.slice (some ⟨g3, 0, none⟩) ss.length ss.length, .slice (some ⟨g4, 0, none⟩) tp.length tp.length]) (.string nm) ?_ ?_ ?_ (specDoubt_c n g1 _ _ _ _ _ _ _ ts rs ss tp nm _ hnm ⟨HS3.out.1.below HB34.out, hl, fun i => HO.out.xn i, HS3.out.2.below HB34.out, HO.out.ok, HQ.out⟩ ⟨HS4.out.1, HS4.out.2, HS.out.ls, HS.out.lt, HS.out.ns, HS.out.xs, HS.out.nt, HS.out.lc, HS.out.xt⟩ HSM.out) (fun W => by simp [go_sem]) ?_; (focus (first | rfl | (simp [Act.eval]; done))); (focus (first | rfl | (simp [Act.eval]; done))); (focus (first | rfl | (simp [Act.eval]; done))); rintro v w5 ⟨hb5x, A, B, ok, rfl, hdp⟩; have HB5 : Hid (Below W.heap.size W w5) := bt (bt HB3.out HB34.out) ⟨hb5x.os, hb5x.tape, hb5x.output, hb5x.size, hb5x.block⟩; have HDP : Hid (DoubtP n ts rs ss tp nm A B ok) := hdp; clear hb5x hdp))
          all_goals
            simp [Act.put]
            go_wp2_with fail
            go_meet
            exact ⟨A, B, ok, rfl, rfl, rfl, HDP, HB5⟩
        case rest =>
          obtain ⟨A, B, ok, rfl, rfl, rfl, HDP, HBC⟩ := hcut
          obtain ⟨w5, ew5⟩ : ∃ w5, w5 = wc := ⟨_, rfl⟩
          subst ew5
          clear c0 c1' c2' d0 d1 HBU HB2 HB1 eU
          obtain ⟨⟨c0, c1', c2'⟩, d0, d1⟩ := HX.out _ HBC.out
          go_wp2_with fail
          refine (toStore_any n ta ra tc rc ts rs _ (HO.out.st.below (bt HB.out HBC.out)) (HO.out.rq.below (bt HB.out HBC.out)) hl HQ.out).mono ?_
          rintro e w6 ⟨hb6, g5, g6, rfl, hs6, hq6⟩
          obtain ⟨X6, eX6⟩ : ∃ X6, w6.alloc (.cells #[.int .i64 n, .slice (some ⟨g5, 0, none⟩) ts.length ts.length, .slice (some ⟨g6, 0, none⟩) rs.length rs.length] 36) = X6 := ⟨_, rfl⟩
          have hbX6 : Below w6.heap.size w6 X6 := by rw [<- eX6]; exact (Below.refl _ _).alloc (Nat.le_refl _) _
          have HX6 : Hid (X6.heap[w6.heap.size]? = some (.cells #[.int .i64 n, .slice (some ⟨g5, 0, none⟩) ts.length ts.length, .slice (some ⟨g6, 0, none⟩) rs.length rs.length] 36 (0, 0))) := by
            show _ = _
            rw [<- eX6]; exact heap_new _ _
          have HS6 : Hid (Strs X6 (some ⟨g5, 0, none⟩) ts /\ RowQ X6 (some ⟨g6, 0, none⟩) rs) := ⟨hs6.below hbX6, hq6.below hbX6⟩
          have HBX : Hid (Below W.heap.size W X6) := bt (bt HBC.out hb6) hbX6
          clear c0 c1' c2' d0 d1 hb6 hs6 hq6 hbX6
          obtain ⟨_, d0, d1⟩ := HX.out _ HBX.out
          go_wp2_with fail
          refine (toSpace_any sa ua c1 c2 ss tp _ (HS.out.rs.below (bt HB.out HBX.out)) (HS.out.rt.below (bt HB.out HBX.out)) HSM.out).mono ?_
          rintro e w7 ⟨hb7, g7, g8, rfl, hs7, ht7⟩
          obtain ⟨X7, eX7⟩ : ∃ X7, w7.alloc (.cells #[.slice (some ⟨g7, 0, none⟩) ss.length ss.length, .slice (some ⟨g8, 0, none⟩) tp.length tp.length] 41) = X7 := ⟨_, rfl⟩
          have hbX7 : Below w7.heap.size w7 X7 := by rw [<- eX7]; exact (Below.refl _ _).alloc (Nat.le_refl _) _
          have HX7 : Hid (X7.heap[w7.heap.size]? = some (.cells #[.slice (some ⟨g7, 0, none⟩) ss.length ss.length, .slice (some ⟨g8, 0, none⟩) tp.length tp.length] 41 (0, 0))) := by
            show _ = _
            rw [<- eX7]; exact heap_new _ _
          have HB67 : Hid (Below X6.heap.size X6 X7) := bt hb7 hbX7
          have HS7 : Hid (RowS X7 (some ⟨g7, 0, none⟩) ss /\ RowT X7 (some ⟨g8, 0, none⟩) tp) := ⟨hs7.below hbX7, ht7.below hbX7⟩
          have HB7 : Hid (Below W.heap.size W X7) := bt HBX.out HB67.out
          have HY : Hid (∀ V, Below X7.heap.size X7 V -> (V.cell? ⟨w6.heap.size, 0, none⟩ = some (.int .i64 n) /\ V.cell? ⟨w6.heap.size, 1, none⟩ = some (.slice (some ⟨g5, 0, none⟩) ts.length ts.length) /\ V.cell? ⟨w6.heap.size, 2, none⟩ = some (.slice (some ⟨g6, 0, none⟩) rs.length rs.length)) /\ V.cell? ⟨w7.heap.size, 0, none⟩ = some (.slice (some ⟨g7, 0, none⟩) ss.length ss.length) /\ V.cell? ⟨w7.heap.size, 1, none⟩ = some (.slice (some ⟨g8, 0, none⟩) tp.length tp.length)) := fun V hV => by
            have e1 := blk_keep (bt HB67.out hV) HX6.out
            have e2 := blk_keep hV HX7.out
            refine ⟨⟨?_, ?_, ?_⟩, ?_, ?_⟩
            · rw [Lib.cell_of_heap e1]; rfl
            · rw [Lib.cell_of_heap e1]; rfl
            · rw [Lib.cell_of_heap e1]; rfl
            · rw [Lib.cell_of_heap e2]; rfl
            · rw [Lib.cell_of_heap e2]; rfl
          clear d0 d1 hb7 hs7 ht7 hbX7
          obtain ⟨⟨y0, y1, y2⟩, z0, z1⟩ := HY.out X7 (Below.refl _ _)
          go_wp2_with fail
          refine (implDoubt_any n g5 _ _ _ _ _ _ _ ts rs ss tp nm _ (HT.out.1.below (bt HB.out HB7.out)) (HT.out.2.below (bt HB.out HB7.out)) hnm ⟨HS6.out.1.below HB67.out, hl, fun i => HO.out.xn i, HS6.out.2.below HB67.out, HO.out.ok, HQ.out⟩ ⟨HS7.out.1, HS7.out.2, HS.out.ls, HS.out.lt, HS.out.ns, HS.out.xs, HS.out.nt, HS.out.lc, HS.out.xt⟩ HSM.out).mono ?_
          rintro e w8 ⟨hb8, A', B', ok', rfl, hdp⟩
          obtain ⟨rfl, rfl, rfl⟩ := DoubtP.unique HUN.out HDP.out hdp
          have HB8 : Hid (Below X7.heap.size X7 w8) := hb8
          clear y0 y1 y2 z0 z1 hb8 hdp eX6 eX7
          go_wp2_with fail
          obtain ⟨U, eU⟩ : ∃ U, w8.drew = U := ⟨_, rfl⟩
          have hbU : Below w8.heap.size w8 U := by rw [<- eU]; exact (Below.refl _ _).drew
          have HBU : Hid (Below X7.heap.size X7 U) := bt HB8.out hbU
          obtain ⟨⟨y0, y1, y2⟩, _⟩ := HY.out U HBU.out
          obtain ⟨⟨c0, c1', c2'⟩, _⟩ := HX.out U (bt HB7.out HBU.out)
          clear hbU
          go_cut [68] (fun p wx => p = .bool false /\ Hid (Below X7.heap.size X7 wx))
          case first =>
            go_region_law (first | (refine step_call1 (f := 7) rfl rfl (.agg #[.int .i64 n, .slice ta ts.length tc, .slice ra rs.length rc]) ?_ (toStore_c n ta ra tc rc ts rs _ (HO.out.st.below (bt HB.out (bt HB7.out HBU.out))) (HO.out.rq.below (bt HB.out (bt HB7.out HBU.out))) hl HQ.out) (fun W => by simp [go_sem]) ?_; (focus (first | rfl | (simp [Act.eval]; done))); rintro v w9 ⟨hb9x, g9, g10, rfl, hs9, hq9⟩; have HB9 : Hid (Below X7.heap.size X7 w9) := bt HBU.out ⟨hb9x.os, hb9x.tape, hb9x.output, hb9x.size, hb9x.block⟩; have HS9 : Hid (Strs w9 (some ⟨g9, 0, none⟩) ts /\ RowQ w9 (some ⟨g10, 0, none⟩) rs) := ⟨hs9, hq9⟩; obtain ⟨⟨f0, f1, f2⟩, _⟩ := HY.out w9 HB9.out; clear hb9x hs9 hq9) | (refine step_call2 (f := 10) rfl rfl (.agg #[.int .i64 n, .slice (some ⟨g5, 0, none⟩) ts.length ts.length, .slice (some ⟨g6, 0, none⟩) rs.length rs.length]) (.agg #[.int .i64 n, .slice (some ⟨g9, 0, none⟩) ts.length ts.length, .slice (some ⟨g10, 0, none⟩) rs.length rs.length]) ?_ ?_ (eqStore_c n _ _ _ _ _ _ _ _ ts rs _ (HS6.out.1.below (bt HB67.out HB9.out)) HS9.out.1 (HS6.out.2.below (bt HB67.out HB9.out)) HS9.out.2 hl HQ.out) (fun W => by simp [go_sem]) ?_; (focus (first | rfl | (simp [Act.eval]; done))); (focus (first | rfl | (simp [Act.eval]; done))); rintro v w10 ⟨hb10x, rfl⟩; have HB10 : Hid (Below X7.heap.size X7 w10) := bt HB9.out ⟨hb10x.os, hb10x.tape, hb10x.output, hb10x.size, hb10x.block⟩; clear hb10x))
            all_goals
              simp [Act.put]
              go_wp2_with fail
              go_meet
              exact ⟨rfl, HB10⟩
          case rest =>
            obtain ⟨rfl, HBD⟩ := hcut
            obtain ⟨wD, ewD⟩ : ∃ wD, wD = wc := ⟨_, rfl⟩
            subst ewD
            clear c0 c1' c2' y0 y1 y2 HBU eU
            go_wp2_with fail
            obtain ⟨U, eU⟩ : ∃ U, wD.drew = U := ⟨_, rfl⟩
            have hbU : Below wD.heap.size wD U := by rw [<- eU]; exact (Below.refl _ _).drew
            have HBU : Hid (Below X7.heap.size X7 U) := bt HBD.out hbU
            obtain ⟨_, z0, z1⟩ := HY.out U HBU.out
            obtain ⟨_, d0, d1⟩ := HX.out U (bt HB7.out HBU.out)
            clear hbU
            go_region_law (first | (refine step_call1 (f := 8) rfl rfl (.agg #[.slice sa ss.length c1, .slice ua tp.length c2]) ?_ (toSpace_c sa ua c1 c2 ss tp _ (HS.out.rs.below (bt HB.out (bt HB7.out HBU.out))) (HS.out.rt.below (bt HB.out (bt HB7.out HBU.out))) HSM.out) (fun W => by simp [go_sem]) ?_; (focus (first | rfl | (simp [Act.eval]; done))); rintro v w9 ⟨hb9x, g9, g10, rfl, hs9, ht9⟩; have HB9 : Hid (Below X7.heap.size X7 w9) := bt HBU.out ⟨hb9x.os, hb9x.tape, hb9x.output, hb9x.size, hb9x.block⟩; have HS9 : Hid (RowS w9 (some ⟨g9, 0, none⟩) ss /\ RowT w9 (some ⟨g10, 0, none⟩) tp) := ⟨hs9, ht9⟩; obtain ⟨_, f0, f1⟩ := HY.out w9 HB9.out; clear hb9x hs9 ht9) | (refine step_call2 (f := 11) rfl rfl (.agg #[.slice (some ⟨g7, 0, none⟩) ss.length ss.length, .slice (some ⟨g8, 0, none⟩) tp.length tp.length]) (.agg #[.slice (some ⟨g9, 0, none⟩) ss.length ss.length, .slice (some ⟨g10, 0, none⟩) tp.length tp.length]) ?_ ?_ (eqSpace_c _ _ _ _ _ _ _ _ ss tp _ (HS7.out.1.below HB9.out) (HS7.out.2.below HB9.out) HS9.out.1 HS9.out.2 HSM.out) (fun W => by simp [go_sem]) ?_; (focus (first | rfl | (simp [Act.eval]; done))); (focus (first | rfl | (simp [Act.eval]; done))); rintro v w10 ⟨hb10x, rfl⟩; have HB10 : Hid (Below X7.heap.size X7 w10) := bt HB9.out ⟨hb10x.os, hb10x.tape, hb10x.output, hb10x.size, hb10x.block⟩; clear hb10x))
            all_goals
              simp [Act.put]
              go_wp2_with fail
              exact bodyPost_ret (v := .bool true) (by simp [results, Tryz.results3, go_sem]) rfl ⟨rfl, bt HB.out (bt HB7.out HB10.out)⟩
end
end Go.Proofs.YtbbfboikigmghaaGreatDoor
