import Derived.Test.YtllhbgmadiclcaaGreatDoorMgC
import Derived.BigQuiet
import Derived.WalkSmall
import Derived.Deep.Cut
namespace Go.Proofs.YtllhbgmadiclcaaGreatDoor
open Go.RowKit Go.Deep
set_option linter.unusedVariables false

theorem cell_belowB {B b o : Nat} {w w' : World} {v : Value} (h : Below B w w') (hc : b < B ∧ w.cell? ⟨b, o, none⟩ = some v) : w'.cell? ⟨b, o, none⟩ = some v := (h.cell (p := ⟨b, o, none⟩) hc.1).trans hc.2

/-- A call of one argument at a step of a region. -/
theorem step_call1 {f : Nat} {xi : Nat} {ty : TypeId} {W : World} {ops : Array Oper} {o : Oper} {a : Act} {K : Act → World → Prop} {Q : Exit → Act → World → Prop} {E : Prop} (hgd : o.guard = none)
    (ho : o.op = .call { callee := .value (.func f), args := #[.tmp xi], argTypes := #[ty] }) (v1 : Value) (hx : a.eval (.tmp xi) = v1) {P : Value → World → Prop} (hc : Calls Tryz.prog f #[v1] W fun e w' => ∃ v, e = .returned v ∧ P v w') (hfn : ∀ W : World, (callFunc f #[v1]).run Tryz.prog W = .ok (.enter f #[v1]) W) (h : ∀ v w', P v w' → K (a.put o.dst v) w') :
    if Region.wanted o (yielded ops a.tmps) = true then Oper.wp Tryz.prog o a W K Q else E := by
  have hw : Region.wanted o (yielded ops a.tmps) = true := by simp [Region.wanted, hgd]
  have hrun : (execOp a.eval o).run Tryz.prog W = .ok (.enter f #[v1]) W := by
    unfold execOp
    rw [ho]
    simp [Act.eval] at hx
    simp [go_sem, Act.eval, hx]
    exact hfn W
  rw [if_pos hw]
  unfold Oper.wp
  rw [hrun, Oper.upon_enter]
  refine hc.mono ?_
  rintro e w' ⟨v, rfl, hp⟩
  exact h v w' hp

set_option maxRecDepth 100000 in
set_option maxHeartbeats 16000000 in
theorem specMerge_any (wn wm : Int) (ab ao ac bb bo bc rc rc' : Nat) (ra rb : Option Addr) (A B : List ByteArray) (RA RB : List T3) (w : World) (hA : StIn w (some ⟨ab, ao, none⟩) A ra RA) (pA : RowP w ra RA) (hB : StIn w (some ⟨bb, bo, none⟩) B rb RB) (pB : RowP w rb RB) (hac : A.length ≤ ac) :
    Calls Tryz.prog 5 #[.agg #[.int .i64 wn, .slice (some ⟨ab, ao, none⟩) A.length ac, .slice ra RA.length rc], .agg #[.int .i64 wm, .slice (some ⟨bb, bo, none⟩) B.length bc, .slice rb RB.length rc']] w fun e w' => Below w.heap.size w w' ∧ KmOut w.heap.size w' e wn A RA wm B RB := by
  obtain ⟨W, eW⟩ : ∃ W, ((w.alloc (.cells #[.int .i64 wn, .slice (some ⟨ab, ao, none⟩) A.length ac, .slice ra RA.length rc] 29)).alloc (.cells #[.int .i64 wm, .slice (some ⟨bb, bo, none⟩) B.length bc, .slice rb RB.length rc'] 29)).alloc (.cells #[.int .i64 0, .int .i64 0, .slice none 0 0, .slice none 0 0, .string ⟨#[]⟩, .string ⟨#[]⟩] 31) = W := ⟨_, rfl⟩
  have hbW : Below w.heap.size w W := eW ▸ (((Below.refl _ _).alloc (Nat.le_refl _) _).alloc (by simp) _).alloc (by simp; omega) _
  have hWs : W.heap.size = w.heap.size + 3 := by rw [← eW]; simp
  have HWS := hid hWs
  clear hWs
  obtain ⟨a0, a1, a2⟩ : W.cell? ⟨w.heap.size, 0, none⟩ = some (.int .i64 wn) ∧ W.cell? ⟨w.heap.size, 1, none⟩ = some (.slice (some ⟨ab, ao, none⟩) A.length ac) ∧ W.cell? ⟨w.heap.size, 2, none⟩ = some (.slice ra RA.length rc) := by rw [← eW]; exact ⟨by simp [go_sem], by simp [go_sem], by simp [go_sem]⟩
  obtain ⟨b0, b1, b2⟩ : W.cell? ⟨w.heap.size + 1, 0, none⟩ = some (.int .i64 wm) ∧ W.cell? ⟨w.heap.size + 1, 1, none⟩ = some (.slice (some ⟨bb, bo, none⟩) B.length bc) ∧ W.cell? ⟨w.heap.size + 1, 2, none⟩ = some (.slice rb RB.length rc') := by rw [← eW]; exact ⟨by simp [go_sem], by simp [go_sem], by simp [go_sem]⟩
  have hK0 : W.heap[w.heap.size + 2]? = some (.cells #[.int .i64 0, .int .i64 0, .slice none 0 0, .slice none 0 0, .string ⟨#[]⟩, .string ⟨#[]⟩] 31 (0, 0)) := by
    have h := heapW_new ((w.alloc (.cells #[.int .i64 wn, .slice (some ⟨ab, ao, none⟩) A.length ac, .slice ra RA.length rc] 29)).alloc (.cells #[.int .i64 wm, .slice (some ⟨bb, bo, none⟩) B.length bc, .slice rb RB.length rc'] 29)) (.cells #[.int .i64 0, .int .i64 0, .slice none 0 0, .slice none 0 0, .string ⟨#[]⟩, .string ⟨#[]⟩] 31)
    rw [eW] at h
    simpa using h
  have HA := hid (hA.below hbW)
  have HB := hid (hB.below hbW)
  have HPA := hid (pA.below hbW)
  have HPB := hid (pB.below hbW)
  have HK0 := hid hK0
  have HVA := hid (fun w h => specValidStore_any wn (some ⟨ab, ao, none⟩) ra ac rc A RA w h)
  have HVB := hid (fun w h => specValidStore_any wm (some ⟨bb, bo, none⟩) rb bc rc' B RB w h)
  clear hA hB pA pB hK0
  go_enter Tryz.func5, Tryz.ntmps5
  go_wp2_with fail
  clear eW
  refine (HVA.out _ HA.out).mono ?_
  rintro e w1 ⟨hb1, va, rfl, hva⟩
  have HBV1 := hid hb1
  cases va with
  | false =>
    have HM : Hid (MgP wn A RA wm B RB 1 0 [] [] ⟨#[]⟩ ⟨#[]⟩) := Or.inl ⟨(fun h => by have := hva.2 h.1; cases this), rfl, rfl, rfl, rfl, rfl, rfl⟩
    obtain ⟨k0, k1, k2, k3, k4, k5⟩ := blk_c6 (blk_below HK0.out hb1)
    have kf := fun j => Lib.frozen_of_heap (blk_below HK0.out hb1) j
    have hB1 := hbW.trans (hb1.mono hbW.size)
    clear hva hb1 HVA HVB a0 a1 a2 b0 b1 b2
    go_wp2_with fail
    exact bodyPost_ret (v := .agg #[.int .i64 1, .int .i64 0, .slice none 0 0, .slice none 0 0, .string ⟨#[]⟩, .string ⟨#[]⟩]) (by simp [results, Tryz.results5, go_sem, k0, k1, k2, k3, k4, k5]) rfl ⟨below_set6P hB1 (by omega) _ _ _ _ _ _, KmOut.zero HM.out⟩
  | true =>
    have hwa := hva.1 rfl
    replace a0 := cell_below hb1 a0
    replace a1 := cell_below hb1 a1
    replace a2 := cell_below hb1 a2
    replace b0 := cell_below hb1 b0
    replace b1 := cell_below hb1 b1
    replace b2 := cell_below hb1 b2
    have HWA := hid hwa
    clear hva hwa HVA
    go_wp2_with fail
    refine (HVB.out _ (HB.out.below HBV1.out)).mono ?_
    rintro e w2 ⟨hb2, vb, rfl, hvb⟩
    have hbW2 := hb1.trans (hb2.mono hb1.size)
    replace a0 := cell_below hb2 a0
    replace a1 := cell_below hb2 a1
    replace a2 := cell_below hb2 a2
    replace b0 := cell_below hb2 b0
    replace b1 := cell_below hb2 b1
    replace b2 := cell_below hb2 b2
    obtain ⟨k0, k1, k2, k3, k4, k5⟩ := blk_c6 (blk_below HK0.out hbW2)
    have kf := fun j => Lib.frozen_of_heap (blk_below HK0.out hbW2) j
    have hB2 := hbW.trans (hbW2.mono hbW.size)
    have HBW2 := hid hbW2
    clear hb1 hb2 hbW2 HVB HBV1
    cases vb with
    | false =>
      have HM : Hid (MgP wn A RA wm B RB 1 0 [] [] ⟨#[]⟩ ⟨#[]⟩) := Or.inl ⟨(fun h => by have := hvb.2 h.2.1; cases this), rfl, rfl, rfl, rfl, rfl, rfl⟩
      clear hvb a0 a1 a2 b0 b1 b2
      go_wp2_with fail
      exact bodyPost_ret (v := .agg #[.int .i64 1, .int .i64 0, .slice none 0 0, .slice none 0 0, .string ⟨#[]⟩, .string ⟨#[]⟩]) (by simp [results, Tryz.results5, go_sem, k0, k1, k2, k3, k4, k5]) rfl ⟨below_set6P hB2 (by omega) _ _ _ _ _ _, KmOut.zero HM.out⟩
    | true =>
      have hwb := hvb.1 rfl
      by_cases hnm : wn = wm
      · subst hnm
        obtain ⟨n, rfl⟩ := Int.eq_ofNat_of_zero_le (show 0 ≤ wn by have := HWA.out.1; omega)
        have hnn : ((n : Int) != (n : Int)) = false := by simp
        have h1 : 1 ≤ n := by have := HWA.out.1; omega
        have h8 : n ≤ 8 := by have := HWA.out.2.1; omega
        have HWB := hid hwb
        have HSA : Hid (So (sumB n) A) := HWA.out.so
        have HSB : Hid (So (sumB n) B) := HWB.out.so
        have hAl : A.length ≤ 5000 := HWA.out.2.2.1.1
        have hBl : B.length ≤ 5000 := HWB.out.2.2.1.1
        have HXA : Hid (∀ i, i < A.length → (nx A i).size ≤ 2002) := HWA.out.2.2.1.2.1
        have HXB : Hid (∀ i, i < B.length → (nx B i).size ≤ 2002) := HWB.out.2.2.1.2.1
        have hRAl : RA.length ≤ 2000 := HWA.out.2.2.2.1
        have hRBl : RB.length ≤ 2000 := HWB.out.2.2.2.1
        have HCP := hid (fun w h1 h2 => l4Copy_any (n : Int) ab ao ac ra rc A RA w h1 h2 (by omega) hRAl HWA.out.recs)
        clear hvb hwb
        go_wp2_with fail
        refine (HCP.out w2 (HA.out.below HBW2.out).st (HPA.out.below HBW2.out)).mono ?_
        rintro e w3 ⟨hb3, g1, p1, v2, rfl, hox, hoq⟩
        obtain ⟨q2a, q2c, rfl, _⟩ := hoq.sl
        obtain ⟨X, eX⟩ : ∃ X, w3.alloc (.cells #[.int .i64 (n : Int), .slice (some ⟨g1, 0, none⟩) A.length p1, .slice q2a RA.length q2c] 29) = X := ⟨_, rfl⟩
        have hbX : Below w3.heap.size w3 X := eX ▸ (Below.refl _ _).alloc (Nat.le_refl _) _
        have hP0 : X.heap[w3.heap.size]? = some (.cells #[.int .i64 (n : Int), .slice (some ⟨g1, 0, none⟩) A.length p1, .slice q2a RA.length q2c] 29 (0, 0)) := by rw [← eX]; exact heapW_new _ _
        have HC0 := hid (CS.of_own (hox.below hbX) (hoq.below hbX) (B := w2.heap.size) (Nat.le_refl _) hP0 (newR RA RB))
        have hbX2 : Below w2.heap.size w2 X := hb3.trans (hbX.mono hb3.size)
        have HEX := hid eX
        obtain ⟨P, eP⟩ : ∃ P, w3.heap.size = P := ⟨_, rfl⟩
        have hPB : w2.heap.size ≤ P := by rw [← eP]; exact hb3.size
        have hPX : P < X.heap.size := by rw [← eP]; exact blkW_lt hP0
        clear hb3 hox hoq eX hbX hP0 HCP
        go_upto_region 4 with fail
        rw [HEX.out]
        try rw [eP]
        rw [eP] at HC0
        clear HEX eP
        obtain ⟨Y, eY⟩ : ∃ Y, X.alloc (.cells #[] 9) = Y := ⟨_, rfl⟩
        have hbY : Below X.heap.size X Y := eY ▸ (Below.refl _ _).alloc (Nat.le_refl _) _
        have hgY : X.grownBy Y (Value.slice (some ⟨g1, 0, none⟩) A.length p1).ownBlock := eY ▸ World.grownBy_alloc X _ _
        have HC1 := hid (HC0.out.putT (us := []) hgY (eY ▸ lit_own X w2.heap.size 9 1 (by have := hbX2.size; omega)))
        have hPY : Y.heap[P]? = _ := blk_below HC0.out.blk hbY
        obtain ⟨y0, y1, y2⟩ := blk_c3 hPY
        have yf := fun j => Lib.frozen_of_heap hPY j
        obtain ⟨mg, emg⟩ : ∃ mg, X.heap.size = mg := ⟨_, rfl⟩
        rw [emg] at HC1
        have hbYS : Below w2.heap.size w2 (Y.setCell ⟨P, 1, none⟩ (.slice (some ⟨mg, 0, none⟩) 0 0)) := (hbX2.trans (hbY.mono hbX2.size)).setCell (p := ⟨P, 1, none⟩) hPB _
        have HBY := hid hbYS
        clear hbY hgY hPY HC0 hbX2 hbYS
        go_wp2_with fail
        clear eY y0 y1 y2 yf
        have A0 : w.heap.size < w2.heap.size ∧ w2.cell? ⟨w.heap.size, 0, none⟩ = some (.int .i64 (n : Int)) := ⟨World.block_lt_of_cell? _ _ a0, a0⟩
        have A1 : w.heap.size < w2.heap.size ∧ w2.cell? ⟨w.heap.size, 1, none⟩ = some (.slice (some ⟨ab, ao, none⟩) A.length ac) := ⟨World.block_lt_of_cell? _ _ a1, a1⟩
        have A2 : w.heap.size < w2.heap.size ∧ w2.cell? ⟨w.heap.size, 2, none⟩ = some (.slice ra RA.length rc) := ⟨World.block_lt_of_cell? _ _ a2, a2⟩
        have B1 : w.heap.size + 1 < w2.heap.size ∧ w2.cell? ⟨w.heap.size + 1, 1, none⟩ = some (.slice (some ⟨bb, bo, none⟩) B.length bc) := ⟨World.block_lt_of_cell? _ _ b1, b1⟩
        have B2 : w.heap.size + 1 < w2.heap.size ∧ w2.cell? ⟨w.heap.size + 1, 2, none⟩ = some (.slice rb RB.length rc') := ⟨World.block_lt_of_cell? _ _ b2, b2⟩
        have HA0 := hid A0
        have HA1 := hid A1
        have HA2 := hid A2
        have HB1 := hid B1
        have HB2 := hid B2
        have HTA : Hid (∀ i, i < A.length → ab < w2.heap.size ∧ w2.cell? ⟨ab, ao + i, none⟩ = some (.string (nx A i))) := fun i hi => by
          obtain ⟨b', o', e, c⟩ := (HA.out.below HBW2.out).st i hi
          cases e
          exact ⟨World.block_lt_of_cell? _ _ c, c⟩
        have HTB : Hid (∀ i, i < B.length → bb < w2.heap.size ∧ w2.cell? ⟨bb, bo + i, none⟩ = some (.string (nx B i))) := fun i hi => by
          obtain ⟨b', o', e, c⟩ := (HB.out.below HBW2.out).st i hi
          cases e
          exact ⟨World.block_lt_of_cell? _ _ c, c⟩
        have HKK : Hid (w2.heap[w.heap.size + 2]? = some (.cells #[.int .i64 0, .int .i64 0, .slice none 0 0, .slice none 0 0, .string ⟨#[]⟩, .string ⟨#[]⟩] 31 (0, 0))) := blk_below HK0.out HBW2.out
        have hKl : w.heap.size + 2 < w2.heap.size := blkW_lt HKK.out
        have HBW := hid hB2
        clear a0 a1 a2 b0 b1 b2 k0 k1 k2 k3 k4 k5 kf A0 A1 A2 B1 B2 hbW HK0 hB2
        obtain ⟨i0, hi, hz0, hz1, hz2⟩ := info_parts Tryz.info9b
        obtain ⟨BB, eBB⟩ : ∃ BB, BB = w2.heap.size := ⟨_, rfl⟩
        obtain ⟨WW, eWW⟩ : ∃ WW, WW = w2 := ⟨_, rfl⟩
        rw [← eBB] at HC1 HBY HA0 HA1 HA2 HB1 HB2 HTA HTB hPB hKl
        rw [← eWW] at HBY HA0 HA1 HA2 HB1 HB2 HTA HTB HKK HBW
        have hBBW : BB = WW.heap.size := by rw [eWW]; exact eBB
        have HPA2 := hid (HPA.out.below HBW2.out)
        have HPB2 := hid (HPB.out.below HBW2.out)
        rw [← eWW] at HPA2 HPB2
        clear eBB eWW HA HB HPA HPB HBW2
        go_loopw [6, 7] (fun va vi wr => ∃ (a i mg mp : Nat) (M : List ByteArray), i ≤ B.length ∧ a ≤ A.length ∧ va = .int .i64 a ∧ vi = .int .i64 i ∧ Hid (CurAt (sumB n) A B a i M) ∧ Hid (CS wr P BB (n : Int) (.slice (some ⟨mg, 0, none⟩) M.length mp) (.slice q2a RA.length q2c) M (RA ++ newR RA RB) RA.length) ∧ Below BB WW wr) (fun _ vi _ => B.length - (intOf vi).toNat)
        case atStart => exact ⟨0, 0, mg, 0, [], Nat.zero_le _, Nat.zero_le _, rfl, rfl, CurAt.start A B, HC1.out, HBY.out⟩
        case round =>
          clear HC1 HBY hPX emg
          obtain ⟨a, i, mg, mp, M, hib, haa, rfl, rfl, HCU, HC, hbr⟩ := hrel
          have hszr := hbr.size
          have hMl : M.length ≤ 10000 := by have := HCU.out.len; omega
          by_cases hlt : i < B.length
          · have dI : decide ((i : Int) < (B.length : Int)) = true := by simp; omega
            have hiI : (i : Int) < (B.length : Int) := by omega
            have hi0 : (0 : Int) ≤ (i : Int) := by omega
            obtain ⟨y, ey⟩ : ∃ y, nx B i = y := ⟨_, rfl⟩
            have hyB := HTB.out i hlt
            have hys := HXB.out i hlt
            rw [ey] at hyB hys
            have HYB := hid hyB
            have HBI : Hid (B[i] = y) := by show _ = _; rw [← ey, nx_get hlt]
            obtain ⟨q, eq⟩ : ∃ q, sumB n y = q := ⟨_, rfl⟩
            have HSUM : Hid (∀ W : World, Calls Tryz.prog 17 #[.string y, .int .i64 (n : Int)] W fun e w' => e = .returned (.string q) ∧ Below W.heap.size W w') := fun W => by rw [← eq]; exact specSum_yes y n W (by omega) h1 h8
            have HQ := hid eq
            have c1 := cell_belowB hbr HB1.out
            have c2 := cell_belowB hbr HA0.out
            have c3 := cell_belowB hbr hyB
            have hbD : Below wr.heap.size wr wr.drew := (Below.refl _ _).drew
            clear hyB ey eq
            go_wp2_with fail
            go_region_held3 (fun w' => w'.cell? ⟨w.heap.size + 1, 1, none⟩ = some (.slice (some ⟨bb, bo, none⟩) B.length bc) ∧ w'.cell? ⟨w.heap.size, 0, none⟩ = some (.int .i64 (n : Int)) ∧ w'.cell? ⟨bb, bo + i, none⟩ = some (.string y))
              (first | assumption | (simp [*]; done) | (refine ⟨?_, ?_, ?_⟩ <;> exact cell_below hb2 (by simp [*])))
              (first | (go_at_call 17; refine (HSUM.out _).mono ?_; rintro e w2 ⟨rfl, hb2⟩))
            all_goals
              have HC2 := hid (HC.out.below (hbD.trans (hb2.mono hbD.size)))
              have hbr2 : Below BB WW w2 := hbr.trans ((hbD.trans (hb2.mono hbD.size)).mono (by omega))
              clear c1 c2 c3 HC hbr hbD hb2 HSUM hszr
              go_wp2_with fail
              obtain ⟨V, eV⟩ : ∃ V, V = w2 := ⟨_, rfl⟩
              rw [← eV] at HC2 hbr2 ⊢
              clear eV
              go_loopw [6] (fun va wr => ∃ (a mg mp : Nat) (M : List ByteArray), a ≤ A.length ∧ va = .int .i64 a ∧ Hid (CurAt (sumB n) A B a i M) ∧ Hid (CS wr P BB (n : Int) (.slice (some ⟨mg, 0, none⟩) M.length mp) (.slice q2a RA.length q2c) M (RA ++ newR RA RB) RA.length) ∧ Below BB WW wr) (fun va _ => A.length - (intOf va).toNat)
              case atStart => exact ⟨a, mg, mp, M, haa, rfl, HCU.out, HC2.out, hbr2⟩
              case round =>
                clear HC2 hbr2 HCU hMl haa
                obtain ⟨a, mg, mp, M, haa, rfl, HCU, HC, hbr⟩ := hrel
                have hMl : M.length ≤ 10000 := by have := HCU.out.len; omega
                by_cases hla : a < A.length
                · have dA : decide ((a : Int) < (A.length : Int)) = true := by simp; omega
                  have haI : (a : Int) < (A.length : Int) := by omega
                  have ha0 : (0 : Int) ≤ (a : Int) := by omega
                  obtain ⟨x, ex⟩ : ∃ x, nx A a = x := ⟨_, rfl⟩
                  have hxA := HTA.out a hla
                  have hxs := HXA.out a hla
                  rw [ex] at hxA hxs
                  have HXAt := hid hxA
                  have HAI : Hid (A[a] = x) := by show _ = _; rw [← ex, nx_get hla]
                  obtain ⟨sx, esx⟩ : ∃ sx, sumB n x = sx := ⟨_, rfl⟩
                  have HSX : Hid (∀ W : World, Calls Tryz.prog 17 #[.string x, .int .i64 (n : Int)] W fun e w' => e = .returned (.string sx) ∧ Below W.heap.size W w') := fun W => by rw [← esx]; exact specSum_yes x n W (by omega) h1 h8
                  have HSXE := hid esx
                  have c1 := cell_belowB hbr HA1.out
                  have c2 := cell_belowB hbr HA0.out
                  have c3 := cell_belowB hbr hxA
                  have hbD : Below wr.heap.size wr wr.drew := (Below.refl _ _).drew
                  have hszr := hbr.size
                  clear hxA ex esx
                  obtain ⟨v, hv⟩ : ∃ v, lessB sx q = v := ⟨_, rfl⟩
                  have HV := hid hv
                  unfold lessB at hv
                  cases v with
                  | true =>
                    go_wp2_with fail
                    go_region_held3 (fun w' => w'.cell? ⟨w.heap.size, 1, none⟩ = some (.slice (some ⟨ab, ao, none⟩) A.length ac) ∧ w'.cell? ⟨w.heap.size, 0, none⟩ = some (.int .i64 (n : Int)) ∧ w'.cell? ⟨ab, ao + a, none⟩ = some (.string x))
                      (first | assumption | (simp [*]; done) | (refine ⟨?_, ?_, ?_⟩ <;> exact cell_below hb2 (by simp [*])))
                      (first | (go_at_call 17; refine (HSX.out _).mono ?_; rintro e w2 ⟨rfl, hb2⟩))
                    all_goals
                      have HC3 := hid (HC.out.below (hbD.trans (hb2.mono hbD.size)))
                      have hbr3 : Below BB WW w2 := hbr.trans ((hbD.trans (hb2.mono hbD.size)).mono (by omega))
                      obtain ⟨w5, e5⟩ : ∃ w5, w5 = w2 := ⟨_, rfl⟩
                      rw [← e5] at HC3 hbr3 ⊢
                      have hHC := hid HC3.out
                      clear c1 c2 c3 HC hbr hbD hb2 hszr e5 HC3
                      have HC := hHC
                      have hbr := hbr3
                      clear hHC hbr3 HSX
                      have HCU2 : Hid (CurAt (sumB n) A B (a + 1) i (M ++ [x])) := by
                        have h := HCU.out.step HSA.out HSB.out hla hlt (by unfold Lt1; rw [HAI.out, HBI.out, HSXE.out, HQ.out]; exact HV.out)
                        rw [HAI.out] at h; exact h
                      have v2' := cell_belowB hbr HA1.out
                      have v3' := cell_belowB hbr HXAt.out
                      have hszr := hbr.size
                      have u1 : w5.drew.cell? ⟨P, 1, none⟩ = some (.slice (some ⟨mg, 0, none⟩) M.length mp) := HC.out.cell.2.1
                      have u2 : w5.drew.cell? ⟨w.heap.size, 1, none⟩ = some (.slice (some ⟨ab, ao, none⟩) A.length ac) := v2'
                      have u3 : w5.drew.cell? ⟨ab, ao + a, none⟩ = some (.string x) := v3'
                      go_wp2_with fail
                      refine Lt.begin 10 (fun w' => w'.cell? ⟨P, 1, none⟩ = some (.slice (some ⟨mg, 0, none⟩) M.length mp) ∧ w'.cell? ⟨w.heap.size, 1, none⟩ = some (.slice (some ⟨ab, ao, none⟩) A.length ac) ∧ w'.cell? ⟨ab, ao + a, none⟩ = some (.string x)) (by kernel_rfl) ?_
                      have hS0 : w5.drew.cell? ⟨P, 1, none⟩ = some (.slice (some ⟨mg, 0, none⟩) M.length mp) ∧ w5.drew.cell? ⟨w.heap.size, 1, none⟩ = some (.slice (some ⟨ab, ao, none⟩) A.length ac) ∧ w5.drew.cell? ⟨ab, ao + a, none⟩ = some (.string x) := ⟨u1, u2, u3⟩
                      refine Lt.take (i := 0) (oi := { dst := some 64, op := Op.fieldAddr 29 (Operand.tmp 5) 1, type := 0, pos := "l6_keep.go:74", after := #[], guard := none }) (v := ?_) rfl (by kernel_rfl) (by kernel_rfl) (by kernel_rfl) (by kernel_rfl) (fun _ _ _ h => h) hS0 (Or.inl ⟨by rfl, ?_⟩) ?_
                      rotate_left 1
                      · rintro w ⟨s1, s2, s3⟩
                        go_simp
                        first | done | with_reducible rfl
                      try simp only [Act.put, List.setIfInBounds_toArray, List.set_cons_zero, List.set_cons_succ]
                      refine Lt.take (i := 1) (oi := { dst := some 65, op := Op.load 22 (Operand.tmp 64), type := 22, pos := "l6_keep.go:74", after := #[{ on := 0, ground := Ground.data }], guard := none }) (v := ?_) rfl (by kernel_rfl) (by kernel_rfl) (by kernel_rfl) (by kernel_rfl) (fun _ _ _ h => h) hS0 (Or.inl ⟨by rfl, ?_⟩) ?_
                      rotate_left 1
                      · rintro w ⟨s1, s2, s3⟩
                        go_simp
                        first | done | with_reducible rfl
                      try simp only [Act.put, List.setIfInBounds_toArray, List.set_cons_zero, List.set_cons_succ]
                      refine Lt.take (i := 2) (oi := { dst := some 66, op := Op.fieldAddr 29 (Operand.tmp 2) 1, type := 0, pos := "l6_keep.go:74", after := #[], guard := none }) (v := ?_) rfl (by kernel_rfl) (by kernel_rfl) (by kernel_rfl) (by kernel_rfl) (fun _ _ _ h => h) hS0 (Or.inl ⟨by rfl, ?_⟩) ?_
                      rotate_left 1
                      · rintro w ⟨s1, s2, s3⟩
                        go_simp
                        first | done | with_reducible rfl
                      try simp only [Act.put, List.setIfInBounds_toArray, List.set_cons_zero, List.set_cons_succ]
                      refine Lt.take (i := 3) (oi := { dst := some 67, op := Op.load 22 (Operand.tmp 66), type := 22, pos := "l6_keep.go:74", after := #[{ on := 2, ground := Ground.data }], guard := none }) (v := ?_) rfl (by kernel_rfl) (by kernel_rfl) (by kernel_rfl) (by kernel_rfl) (fun _ _ _ h => h) hS0 (Or.inl ⟨by rfl, ?_⟩) ?_
                      rotate_left 1
                      · rintro w ⟨s1, s2, s3⟩
                        go_simp
                        first | done | with_reducible rfl
                      try simp only [Act.put, List.setIfInBounds_toArray, List.set_cons_zero, List.set_cons_succ]
                      refine Lt.take (i := 4) (oi := { dst := some 68, op := Op.move (Operand.tmp 6), type := 3, pos := "l6_keep.go:74", after := #[], guard := none }) (v := ?_) rfl (by kernel_rfl) (by kernel_rfl) (by kernel_rfl) (by kernel_rfl) (fun _ _ _ h => h) hS0 (Or.inl ⟨by rfl, ?_⟩) ?_
                      rotate_left 1
                      · rintro w ⟨s1, s2, s3⟩
                        go_simp
                        first | done | with_reducible rfl
                      try simp only [Act.put, List.setIfInBounds_toArray, List.set_cons_zero, List.set_cons_succ]
                      refine Lt.take (i := 5) (oi := { dst := some 69, op := Op.indexAddr 22 (Operand.tmp 67) (Operand.tmp 68), type := 0, pos := "l6_keep.go:74", after := #[{ on := 3, ground := Ground.data }, { on := 4, ground := Ground.data }], guard := none }) (v := ?_) rfl (by kernel_rfl) (by kernel_rfl) (by kernel_rfl) (by kernel_rfl) (fun _ _ _ h => h) hS0 (Or.inl ⟨by rfl, ?_⟩) ?_
                      rotate_left 1
                      · rintro w ⟨s1, s2, s3⟩
                        go_simp
                        first | done | with_reducible rfl
                      try simp only [Act.put, List.setIfInBounds_toArray, List.set_cons_zero, List.set_cons_succ]
                      refine Lt.take (i := 6) (oi := { dst := some 70, op := Op.load 9 (Operand.tmp 69), type := 9, pos := "l6_keep.go:74", after := #[{ on := 5, ground := Ground.data }], guard := none }) (v := ?_) rfl (by kernel_rfl) (by kernel_rfl) (by kernel_rfl) (by kernel_rfl) (fun _ _ _ h => h) hS0 (Or.inl ⟨by rfl, ?_⟩) ?_
                      rotate_left 1
                      · rintro w ⟨s1, s2, s3⟩
                        go_simp
                        first | done | with_reducible rfl
                      try simp only [Act.put, List.setIfInBounds_toArray, List.set_cons_zero, List.set_cons_succ]
                      refine Lt.step (i := 7) (o := { dst := some 71, op := Op.buildSlice 22 1 #[(0, Operand.tmp 70)], type := 22, pos := "l6_keep.go:74", after := #[{ on := 6, ground := Ground.data }], guard := none }) (by kernel_rfl) rfl (fun K hK => ?_)
                      go_simp
                      have hbA : Below w5.heap.size w5 (w5.alloc (.cells #[.string x] 9)).drew := ((Below.refl _ _).alloc (Nat.le_refl _) _).drew
                      have HC3 := hid (HC.out.below hbA)
                      have k1 := HC3.out.cell.2.1
                      have k2 := cell_below hbA v2'
                      have k3 := cell_below hbA v3'
                      refine hK.out _ _ (fun _ => ⟨k1, k2, k3⟩) (fun _ => ?_)
                      clear hK K
                      try simp only [Act.put, List.setIfInBounds_toArray, List.set_cons_zero, List.set_cons_succ]
                      refine Lt.step (i := 8) (o := { dst := some 72, op := Op.call { callee := Callee.builtin Builtin.append, args := #[Operand.tmp 65, Operand.tmp 71], argTypes := #[22, 22] }, type := 22, pos := "l6_keep.go:74", after := #[{ on := 1, ground := Ground.data }, { on := 7, ground := Ground.data }], guard := none }) (by kernel_rfl) rfl (fun K hK => ?_)
                      refine step_append_lies _ (by rfl) _ _ 22 (by rfl) BB 9 i0 (.string ⟨#[]⟩) 1 16 Tryz.underlying22 hi hz0 hz1 hz2 (by rfl) (by decide) (.slice (some ⟨mg, 0, none⟩) M.length mp) M.length (M.map Value.string) (by rfl) HC3.out.s ⟨w5.heap.size, 0, none⟩ 1 1 [.string x] (by rfl) (by rfl) (World.news_of_block (cs := #[.string x]) (t := 9) (fr := (0, 0)) (heapW_new w5 _)) (by intro u hu; simp at hu; subst hu; rfl) (by decide) (by unfold maxLen; omega) (by omega) (by have := hbA.size; omega) _ rfl ?_
                      intro g' cap2 w4 hown' hgrow hlie hlt3
                      have HC4 := hid (HC3.out.putT (us := M ++ [x]) hgrow (by rw [List.map_append, List.length_append]; exact hown'))
                      have hb4 : Below BB WW w4 := (hbr.trans (hbA.mono (by omega))).grown hgrow (by have := hbA.size; omega) (fun k hk => (HC3.out.s.lt k hk).1)
                      have hP4 : w4.heap[P]? = some (.cells #[.int .i64 (n : Int), .slice (some ⟨mg, 0, none⟩) M.length mp, .slice q2a RA.length q2c] 29 (0, 0)) := by
                        rw [hgrow.block P (blkW_lt HC3.out.blk) (fun e => HasT.ne (T := 29) ⟨_, HC3.out.blk⟩ HC3.out.s (by decide) e.symm)]; exact HC3.out.blk
                      have n1 : w4.cell? ⟨P, 1, none⟩ = some (.slice (some ⟨mg, 0, none⟩) M.length mp) := (blk_c3 hP4).2.1
                      have nf1 : w4.frozen? ⟨P, 1, none⟩ = false := Lib.frozen_of_heap hP4 1
                      have n2 := cell_belowB hb4 HA1.out
                      have n3 := cell_belowB hb4 HXAt.out
                      have hb5 : Below BB WW (w4.setCell ⟨P, 1, none⟩ (.slice (some ⟨g', 0, none⟩) (M.length + 1) cap2)) := hb4.setCell (p := ⟨P, 1, none⟩) hPB _
                      refine hK.out _ _ (fun _ => ⟨n1, n2, n3⟩) (fun hS5 => ?_)
                      replace hS5 := hS5 (by decide)
                      clear hK K hown' hgrow hlie hlt3 HC3 k1 k2 k3 hP4
                      try simp only [Act.put, List.setIfInBounds_toArray, List.set_cons_zero, List.set_cons_succ]
                      refine Lt.take (i := 9) (oi := { dst := some 73, op := Op.fieldAddr 29 (Operand.tmp 5) 1, type := 0, pos := "l6_keep.go:74", after := #[{ on := 0, ground := Ground.phase }, { on := 1, ground := Ground.phase }, { on := 2, ground := Ground.phase }, { on := 3, ground := Ground.phase }, { on := 4, ground := Ground.phase }, { on := 5, ground := Ground.phase }, { on := 6, ground := Ground.phase }, { on := 7, ground := Ground.phase }, { on := 8, ground := Ground.phase }], guard := none }) (v := ?_) rfl (by kernel_rfl) (by kernel_rfl) (by kernel_rfl) (by kernel_rfl) (fun _ _ _ h => h) hS5 (Or.inl ⟨by rfl, ?_⟩) ?_
                      rotate_left 1
                      · rintro w ⟨s1, s2, s3⟩
                        go_simp
                        first | done | with_reducible rfl
                      try simp only [Act.put, List.setIfInBounds_toArray, List.set_cons_zero, List.set_cons_succ]
                      refine Lt.step (i := 10) (o := { dst := none, op := Op.store 22 (Operand.tmp 73) (Operand.tmp 72), type := 0, pos := "l6_keep.go:74", after := #[{ on := 9, ground := Ground.data }, { on := 8, ground := Ground.data }, { on := 8, ground := Ground.chain }, { on := 0, ground := Ground.phase }, { on := 1, ground := Ground.phase }, { on := 2, ground := Ground.phase }, { on := 3, ground := Ground.phase }, { on := 4, ground := Ground.phase }, { on := 5, ground := Ground.phase }, { on := 6, ground := Ground.phase }, { on := 7, ground := Ground.phase }, { on := 8, ground := Ground.phase }], guard := none }) (by kernel_rfl) rfl (fun K hK => ?_)
                      go_simp
                      refine hK.out _ _ (fun h => absurd rfl h) (fun _ => ?_)
                      clear hK K hS5
                      refine Lt.done (by kernel_rfl) ?_ _
                      clear u1 u2 u3 v2' v3' n1 n2 n3 nf1
                      go_wp2
                      go_roundw
                      case rel => exact ⟨a + 1, g', cap2, M ++ [x], by omega, by go_num, HCU2.out, (by have h := HC4.out; rw [List.length_append]; exact h), hb5⟩
                      case measure => simp [intOf]; omega
                  | false =>
                    go_wp2_with fail
                    go_region_held3 (fun w' => w'.cell? ⟨w.heap.size, 1, none⟩ = some (.slice (some ⟨ab, ao, none⟩) A.length ac) ∧ w'.cell? ⟨w.heap.size, 0, none⟩ = some (.int .i64 (n : Int)) ∧ w'.cell? ⟨ab, ao + a, none⟩ = some (.string x))
                      (first | assumption | (simp [*]; done) | (refine ⟨?_, ?_, ?_⟩ <;> exact cell_below hb2 (by simp [*])))
                      (first | (go_at_call 17; refine (HSX.out _).mono ?_; rintro e w2 ⟨rfl, hb2⟩))
                    all_goals
                      have HC3 := hid (HC.out.below (hbD.trans (hb2.mono hbD.size)))
                      have hbr3 : Below BB WW w2 := hbr.trans ((hbD.trans (hb2.mono hbD.size)).mono (by omega))
                      obtain ⟨w4, e5⟩ : ∃ w4, w4 = w2 := ⟨_, rfl⟩
                      rw [← e5] at HC3 hbr3 ⊢
                      clear c1 c2 c3 HC hbr hbD hb2 hszr e5
                      have HC := hid HC3.out
                      have hbr := hbr3
                      clear hbr3 HC3
                      have c1 := cell_belowB hbr HA1.out
                      have c2 := cell_belowB hbr HA0.out
                      have c3 := cell_belowB hbr HXAt.out
                      have hbD : Below w4.heap.size w4 w4.drew := (Below.refl _ _).drew
                      have hszr := hbr.size
                      by_cases hsq : sx = q
                      · have eqq : (sx.toList == q.toList) = true := str_eq hsq
                        have HSQ := hid hsq
                        clear hsq
                        go_wp2_with fail
                        go_region_held3 (fun w' => w'.cell? ⟨w.heap.size, 1, none⟩ = some (.slice (some ⟨ab, ao, none⟩) A.length ac) ∧ w'.cell? ⟨w.heap.size, 0, none⟩ = some (.int .i64 (n : Int)) ∧ w'.cell? ⟨ab, ao + a, none⟩ = some (.string x))
                          (first | assumption | (simp [*]; done) | (refine ⟨?_, ?_, ?_⟩ <;> exact cell_below hb2 (by simp [*])))
                          (first | (go_at_call 17; refine (HSX.out _).mono ?_; rintro e w2 ⟨rfl, hb2⟩))
                        all_goals
                          have HC3 := hid (HC.out.below (hbD.trans (hb2.mono hbD.size)))
                          have hbr5 : Below BB WW w2 := hbr.trans ((hbD.trans (hb2.mono hbD.size)).mono (by omega))
                          obtain ⟨w5, e5⟩ : ∃ w5, w5 = w2 := ⟨_, rfl⟩
                          rw [← e5] at HC3 hbr5 ⊢
                          clear c1 c2 c3 HC hbr hbD hb2 hszr e5 eqq hv HSX
                          have d1 := cell_belowB hbr5 HA1.out
                          have d2 := cell_belowB hbr5 HXAt.out
                          have d3 := cell_belowB hbr5 HB1.out
                          have d4 := cell_belowB hbr5 HYB.out
                          have hszr := hbr5.size
                          by_cases hxy : x = y
                          · have exy : (x.toList == y.toList) = true := str_eq hxy
                            have HXY := hid hxy
                            clear hxy
                            go_wp2_with fail
                            go_region_held3 (fun w' => w'.cell? ⟨w.heap.size, 1, none⟩ = some (.slice (some ⟨ab, ao, none⟩) A.length ac) ∧ w'.cell? ⟨ab, ao + a, none⟩ = some (.string x) ∧ w'.cell? ⟨w.heap.size + 1, 1, none⟩ = some (.slice (some ⟨bb, bo, none⟩) B.length bc) ∧ w'.cell? ⟨bb, bo + i, none⟩ = some (.string y))
                              (first | assumption | (simp [*]; done)) (fail)
                            all_goals
                              have HC := hid (HC3.out.below ((Below.refl _ _).drew))
                              have hbr : Below BB WW w5.drew := hbr5.drew
                              obtain ⟨w6, e6⟩ : ∃ w6, w6 = w5.drew := ⟨_, rfl⟩
                              rw [← e6] at HC hbr ⊢
                              clear HC3 hbr5 d1 d2 d3 d4 hszr e6 exy
                              have v2' := cell_belowB hbr HB1.out
                              have v3' := cell_belowB hbr HYB.out
                              have hszr := hbr.size
                              have u1 : w6.drew.cell? ⟨P, 1, none⟩ = some (.slice (some ⟨mg, 0, none⟩) M.length mp) := HC.out.cell.2.1
                              have u2 : w6.drew.cell? ⟨w.heap.size + 1, 1, none⟩ = some (.slice (some ⟨bb, bo, none⟩) B.length bc) := v2'
                              have u3 : w6.drew.cell? ⟨bb, bo + i, none⟩ = some (.string y) := v3'
                              go_wp2_with fail
                              refine Lt.begin 10 (fun w' => w'.cell? ⟨P, 1, none⟩ = some (.slice (some ⟨mg, 0, none⟩) M.length mp) ∧ w'.cell? ⟨w.heap.size + 1, 1, none⟩ = some (.slice (some ⟨bb, bo, none⟩) B.length bc) ∧ w'.cell? ⟨bb, bo + i, none⟩ = some (.string y)) (by kernel_rfl) ?_
                              have hS0 : w6.drew.cell? ⟨P, 1, none⟩ = some (.slice (some ⟨mg, 0, none⟩) M.length mp) ∧ w6.drew.cell? ⟨w.heap.size + 1, 1, none⟩ = some (.slice (some ⟨bb, bo, none⟩) B.length bc) ∧ w6.drew.cell? ⟨bb, bo + i, none⟩ = some (.string y) := ⟨u1, u2, u3⟩
                              refine Lt.take (i := 0) (oi := { dst := some 117, op := Op.fieldAddr 29 (Operand.tmp 5) 1, type := 0, pos := "l6_keep.go:83", after := #[], guard := none }) (v := ?_) rfl (by kernel_rfl) (by kernel_rfl) (by kernel_rfl) (by kernel_rfl) (fun _ _ _ h => h) hS0 (Or.inl ⟨by rfl, ?_⟩) ?_
                              rotate_left 1
                              · rintro w ⟨s1, s2, s3⟩
                                go_simp
                                first | done | with_reducible rfl
                              try simp only [Act.put, List.setIfInBounds_toArray, List.set_cons_zero, List.set_cons_succ]
                              refine Lt.take (i := 1) (oi := { dst := some 118, op := Op.load 22 (Operand.tmp 117), type := 22, pos := "l6_keep.go:83", after := #[{ on := 0, ground := Ground.data }], guard := none }) (v := ?_) rfl (by kernel_rfl) (by kernel_rfl) (by kernel_rfl) (by kernel_rfl) (fun _ _ _ h => h) hS0 (Or.inl ⟨by rfl, ?_⟩) ?_
                              rotate_left 1
                              · rintro w ⟨s1, s2, s3⟩
                                go_simp
                                first | done | with_reducible rfl
                              try simp only [Act.put, List.setIfInBounds_toArray, List.set_cons_zero, List.set_cons_succ]
                              refine Lt.take (i := 2) (oi := { dst := some 119, op := Op.fieldAddr 29 (Operand.tmp 3) 1, type := 0, pos := "l6_keep.go:83", after := #[], guard := none }) (v := ?_) rfl (by kernel_rfl) (by kernel_rfl) (by kernel_rfl) (by kernel_rfl) (fun _ _ _ h => h) hS0 (Or.inl ⟨by rfl, ?_⟩) ?_
                              rotate_left 1
                              · rintro w ⟨s1, s2, s3⟩
                                go_simp
                                first | done | with_reducible rfl
                              try simp only [Act.put, List.setIfInBounds_toArray, List.set_cons_zero, List.set_cons_succ]
                              refine Lt.take (i := 3) (oi := { dst := some 120, op := Op.load 22 (Operand.tmp 119), type := 22, pos := "l6_keep.go:83", after := #[{ on := 2, ground := Ground.data }], guard := none }) (v := ?_) rfl (by kernel_rfl) (by kernel_rfl) (by kernel_rfl) (by kernel_rfl) (fun _ _ _ h => h) hS0 (Or.inl ⟨by rfl, ?_⟩) ?_
                              rotate_left 1
                              · rintro w ⟨s1, s2, s3⟩
                                go_simp
                                first | done | with_reducible rfl
                              try simp only [Act.put, List.setIfInBounds_toArray, List.set_cons_zero, List.set_cons_succ]
                              refine Lt.take (i := 4) (oi := { dst := some 121, op := Op.move (Operand.tmp 7), type := 3, pos := "l6_keep.go:83", after := #[], guard := none }) (v := ?_) rfl (by kernel_rfl) (by kernel_rfl) (by kernel_rfl) (by kernel_rfl) (fun _ _ _ h => h) hS0 (Or.inl ⟨by rfl, ?_⟩) ?_
                              rotate_left 1
                              · rintro w ⟨s1, s2, s3⟩
                                go_simp
                                first | done | with_reducible rfl
                              try simp only [Act.put, List.setIfInBounds_toArray, List.set_cons_zero, List.set_cons_succ]
                              refine Lt.take (i := 5) (oi := { dst := some 122, op := Op.indexAddr 22 (Operand.tmp 120) (Operand.tmp 121), type := 0, pos := "l6_keep.go:83", after := #[{ on := 3, ground := Ground.data }, { on := 4, ground := Ground.data }], guard := none }) (v := ?_) rfl (by kernel_rfl) (by kernel_rfl) (by kernel_rfl) (by kernel_rfl) (fun _ _ _ h => h) hS0 (Or.inl ⟨by rfl, ?_⟩) ?_
                              rotate_left 1
                              · rintro w ⟨s1, s2, s3⟩
                                go_simp
                                first | done | with_reducible rfl
                              try simp only [Act.put, List.setIfInBounds_toArray, List.set_cons_zero, List.set_cons_succ]
                              refine Lt.take (i := 6) (oi := { dst := some 123, op := Op.load 9 (Operand.tmp 122), type := 9, pos := "l6_keep.go:83", after := #[{ on := 5, ground := Ground.data }], guard := none }) (v := ?_) rfl (by kernel_rfl) (by kernel_rfl) (by kernel_rfl) (by kernel_rfl) (fun _ _ _ h => h) hS0 (Or.inl ⟨by rfl, ?_⟩) ?_
                              rotate_left 1
                              · rintro w ⟨s1, s2, s3⟩
                                go_simp
                                first | done | with_reducible rfl
                              try simp only [Act.put, List.setIfInBounds_toArray, List.set_cons_zero, List.set_cons_succ]
                              refine Lt.step (i := 7) (o := { dst := some 124, op := Op.buildSlice 22 1 #[(0, Operand.tmp 123)], type := 22, pos := "l6_keep.go:83", after := #[{ on := 6, ground := Ground.data }], guard := none }) (by kernel_rfl) rfl (fun K hK => ?_)
                              go_simp
                              have hbA : Below w6.heap.size w6 (w6.alloc (.cells #[.string y] 9)).drew := ((Below.refl _ _).alloc (Nat.le_refl _) _).drew
                              have HC3 := hid (HC.out.below hbA)
                              have k1 := HC3.out.cell.2.1
                              have k2 := cell_below hbA v2'
                              have k3 := cell_below hbA v3'
                              refine hK.out _ _ (fun _ => ⟨k1, k2, k3⟩) (fun _ => ?_)
                              clear hK K
                              try simp only [Act.put, List.setIfInBounds_toArray, List.set_cons_zero, List.set_cons_succ]
                              refine Lt.step (i := 8) (o := { dst := some 125, op := Op.call { callee := Callee.builtin Builtin.append, args := #[Operand.tmp 118, Operand.tmp 124], argTypes := #[22, 22] }, type := 22, pos := "l6_keep.go:83", after := #[{ on := 1, ground := Ground.data }, { on := 7, ground := Ground.data }], guard := none }) (by kernel_rfl) rfl (fun K hK => ?_)
                              refine step_append_lies _ (by rfl) _ _ 22 (by rfl) BB 9 i0 (.string ⟨#[]⟩) 1 16 Tryz.underlying22 hi hz0 hz1 hz2 (by rfl) (by decide) (.slice (some ⟨mg, 0, none⟩) M.length mp) M.length (M.map Value.string) (by rfl) HC3.out.s ⟨w6.heap.size, 0, none⟩ 1 1 [.string y] (by rfl) (by rfl) (World.news_of_block (cs := #[.string y]) (t := 9) (fr := (0, 0)) (heapW_new w6 _)) (by intro u hu; simp at hu; subst hu; rfl) (by decide) (by unfold maxLen; omega) (by omega) (by have := hbA.size; omega) _ rfl ?_
                              intro g' cap2 w4 hown' hgrow hlie hlt3
                              have HC4 := hid (HC3.out.putT (us := M ++ [y]) hgrow (by rw [List.map_append, List.length_append]; exact hown'))
                              have hb4 : Below BB WW w4 := (hbr.trans (hbA.mono (by omega))).grown hgrow (by have := hbA.size; omega) (fun k hk => (HC3.out.s.lt k hk).1)
                              have hP4 : w4.heap[P]? = some (.cells #[.int .i64 (n : Int), .slice (some ⟨mg, 0, none⟩) M.length mp, .slice q2a RA.length q2c] 29 (0, 0)) := by
                                rw [hgrow.block P (blkW_lt HC3.out.blk) (fun e => HasT.ne (T := 29) ⟨_, HC3.out.blk⟩ HC3.out.s (by decide) e.symm)]; exact HC3.out.blk
                              have n1 : w4.cell? ⟨P, 1, none⟩ = some (.slice (some ⟨mg, 0, none⟩) M.length mp) := (blk_c3 hP4).2.1
                              have nf1 : w4.frozen? ⟨P, 1, none⟩ = false := Lib.frozen_of_heap hP4 1
                              have n2 := cell_belowB hb4 HB1.out
                              have n3 := cell_belowB hb4 HYB.out
                              have hb5 : Below BB WW (w4.setCell ⟨P, 1, none⟩ (.slice (some ⟨g', 0, none⟩) (M.length + 1) cap2)) := hb4.setCell (p := ⟨P, 1, none⟩) hPB _
                              refine hK.out _ _ (fun _ => ⟨n1, n2, n3⟩) (fun hS5 => ?_)
                              replace hS5 := hS5 (by decide)
                              clear hK K hown' hgrow hlie hlt3 HC3 k1 k2 k3 hP4
                              try simp only [Act.put, List.setIfInBounds_toArray, List.set_cons_zero, List.set_cons_succ]
                              refine Lt.take (i := 9) (oi := { dst := some 126, op := Op.fieldAddr 29 (Operand.tmp 5) 1, type := 0, pos := "l6_keep.go:83", after := #[{ on := 0, ground := Ground.phase }, { on := 1, ground := Ground.phase }, { on := 2, ground := Ground.phase }, { on := 3, ground := Ground.phase }, { on := 4, ground := Ground.phase }, { on := 5, ground := Ground.phase }, { on := 6, ground := Ground.phase }, { on := 7, ground := Ground.phase }, { on := 8, ground := Ground.phase }], guard := none }) (v := ?_) rfl (by kernel_rfl) (by kernel_rfl) (by kernel_rfl) (by kernel_rfl) (fun _ _ _ h => h) hS5 (Or.inl ⟨by rfl, ?_⟩) ?_
                              rotate_left 1
                              · rintro w ⟨s1, s2, s3⟩
                                go_simp
                                first | done | with_reducible rfl
                              try simp only [Act.put, List.setIfInBounds_toArray, List.set_cons_zero, List.set_cons_succ]
                              refine Lt.step (i := 10) (o := { dst := none, op := Op.store 22 (Operand.tmp 126) (Operand.tmp 125), type := 0, pos := "l6_keep.go:83", after := #[{ on := 9, ground := Ground.data }, { on := 8, ground := Ground.data }, { on := 8, ground := Ground.chain }, { on := 0, ground := Ground.phase }, { on := 1, ground := Ground.phase }, { on := 2, ground := Ground.phase }, { on := 3, ground := Ground.phase }, { on := 4, ground := Ground.phase }, { on := 5, ground := Ground.phase }, { on := 6, ground := Ground.phase }, { on := 7, ground := Ground.phase }, { on := 8, ground := Ground.phase }], guard := none }) (by kernel_rfl) rfl (fun K hK => ?_)
                              go_simp
                              refine hK.out _ _ (fun h => absurd rfl h) (fun _ => ?_)
                              clear hK K hS5
                              refine Lt.done (by kernel_rfl) ?_ _
                              clear u1 u2 u3 v2' v3' n1 n2 n3 nf1
                              go_wp2
                              go_roundw
                              case rel => exact ⟨a + 1, i + 1, g', cap2, M ++ [y], by omega, by omega, by go_num, by go_num, (by have h := HCU.out.putS HSA.out HSB.out hla hlt (by rw [HAI.out, HBI.out]; exact HXY.out); rw [HBI.out] at h; exact h), (by have h := HC4.out; rw [List.length_append]; exact h), hb5⟩
                              case measure => simp [intOf]; omega
                          · have exy : (x.toList == y.toList) = false := str_ne hxy
                            have HMP : Hid (MgP (n : Int) A RA (n : Int) B RB 2 0 [] [] x y) := Or.inr ⟨⟨HWA.out, HWB.out, rfl⟩, Or.inl ⟨by
                              have h := HCU.out.clash hla hlt (by rw [HAI.out, HBI.out, HSXE.out, HQ.out]; exact HSQ.out) (by rw [HAI.out, HBI.out]; exact hxy)
                              rw [HAI.out, HBI.out] at h; exact h, rfl, rfl, rfl, rfl⟩⟩
                            clear hxy
                            go_wp2_with fail
                            go_region_held3 (fun w' => w'.cell? ⟨w.heap.size, 1, none⟩ = some (.slice (some ⟨ab, ao, none⟩) A.length ac) ∧ w'.cell? ⟨ab, ao + a, none⟩ = some (.string x) ∧ w'.cell? ⟨w.heap.size + 1, 1, none⟩ = some (.slice (some ⟨bb, bo, none⟩) B.length bc) ∧ w'.cell? ⟨bb, bo + i, none⟩ = some (.string y))
                              (first | assumption | (simp [*]; done)) (fail)
                            all_goals
                              have hbr6 : Below BB WW w5.drew := hbr5.drew
                              obtain ⟨w6, e6⟩ : ∃ w6, w6 = w5.drew := ⟨_, rfl⟩
                              rw [← e6] at hbr6 ⊢
                              clear HC3 hbr5 d1 d2 d3 d4 hszr e6
                              have d1 := cell_belowB hbr6 HA1.out
                              have d2 := cell_belowB hbr6 HXAt.out
                              have d3 := cell_belowB hbr6 HB1.out
                              have d4 := cell_belowB hbr6 HYB.out
                              go_wp2_with fail
                              refine Lt.begin 11 (fun w' => w'.cell? ⟨w.heap.size, 1, none⟩ = some (.slice (some ⟨ab, ao, none⟩) A.length ac) ∧ w'.cell? ⟨ab, ao + a, none⟩ = some (.string x) ∧ w'.cell? ⟨w.heap.size + 1, 1, none⟩ = some (.slice (some ⟨bb, bo, none⟩) B.length bc) ∧ w'.cell? ⟨bb, bo + i, none⟩ = some (.string y)) (by kernel_rfl) ?_
                              obtain ⟨w7, e7⟩ : ∃ w7, w7 = w6.drew := ⟨_, rfl⟩
                              have hbr7 : Below BB WW w7 := e7 ▸ hbr6.drew
                              rw [← e7]
                              clear e7 hbr6 d1 d2 d3 d4
                              have hS0 : w7.cell? ⟨w.heap.size, 1, none⟩ = some (.slice (some ⟨ab, ao, none⟩) A.length ac) ∧ w7.cell? ⟨ab, ao + a, none⟩ = some (.string x) ∧ w7.cell? ⟨w.heap.size + 1, 1, none⟩ = some (.slice (some ⟨bb, bo, none⟩) B.length bc) ∧ w7.cell? ⟨bb, bo + i, none⟩ = some (.string y) := ⟨cell_belowB hbr7 HA1.out, cell_belowB hbr7 HXAt.out, cell_belowB hbr7 HB1.out, cell_belowB hbr7 HYB.out⟩
                              refine Lt.take (i := 0) (oi := { dst := some 104, op := Op.fieldAddr 29 (Operand.tmp 2) 1, type := 0, pos := "l6_keep.go:79", after := #[], guard := none }) (v := ?_) rfl (by kernel_rfl) (by kernel_rfl) (by kernel_rfl) (by kernel_rfl) (fun _ _ _ h => h) hS0 (Or.inl ⟨by rfl, ?_⟩) ?_
                              rotate_left 1
                              · rintro w ⟨s1, s2, s3, s4⟩
                                go_simp
                                first | done | with_reducible rfl
                              try simp only [Act.put, List.setIfInBounds_toArray, List.set_cons_zero, List.set_cons_succ]
                              refine Lt.take (i := 1) (oi := { dst := some 105, op := Op.load 22 (Operand.tmp 104), type := 22, pos := "l6_keep.go:79", after := #[{ on := 0, ground := Ground.data }], guard := none }) (v := ?_) rfl (by kernel_rfl) (by kernel_rfl) (by kernel_rfl) (by kernel_rfl) (fun _ _ _ h => h) hS0 (Or.inl ⟨by rfl, ?_⟩) ?_
                              rotate_left 1
                              · rintro w ⟨s1, s2, s3, s4⟩
                                go_simp
                                first | done | with_reducible rfl
                              try simp only [Act.put, List.setIfInBounds_toArray, List.set_cons_zero, List.set_cons_succ]
                              refine Lt.take (i := 2) (oi := { dst := some 106, op := Op.move (Operand.tmp 6), type := 3, pos := "l6_keep.go:79", after := #[], guard := none }) (v := ?_) rfl (by kernel_rfl) (by kernel_rfl) (by kernel_rfl) (by kernel_rfl) (fun _ _ _ h => h) hS0 (Or.inl ⟨by rfl, ?_⟩) ?_
                              rotate_left 1
                              · rintro w ⟨s1, s2, s3, s4⟩
                                go_simp
                                first | done | with_reducible rfl
                              try simp only [Act.put, List.setIfInBounds_toArray, List.set_cons_zero, List.set_cons_succ]
                              refine Lt.take (i := 3) (oi := { dst := some 107, op := Op.indexAddr 22 (Operand.tmp 105) (Operand.tmp 106), type := 0, pos := "l6_keep.go:79", after := #[{ on := 1, ground := Ground.data }, { on := 2, ground := Ground.data }], guard := none }) (v := ?_) rfl (by kernel_rfl) (by kernel_rfl) (by kernel_rfl) (by kernel_rfl) (fun _ _ _ h => h) hS0 (Or.inl ⟨by rfl, ?_⟩) ?_
                              rotate_left 1
                              · rintro w ⟨s1, s2, s3, s4⟩
                                go_simp
                                first | done | with_reducible rfl
                              try simp only [Act.put, List.setIfInBounds_toArray, List.set_cons_zero, List.set_cons_succ]
                              refine Lt.take (i := 4) (oi := { dst := some 108, op := Op.load 9 (Operand.tmp 107), type := 9, pos := "l6_keep.go:79", after := #[{ on := 3, ground := Ground.data }], guard := none }) (v := ?_) rfl (by kernel_rfl) (by kernel_rfl) (by kernel_rfl) (by kernel_rfl) (fun _ _ _ h => h) hS0 (Or.inl ⟨by rfl, ?_⟩) ?_
                              rotate_left 1
                              · rintro w ⟨s1, s2, s3, s4⟩
                                go_simp
                                first | done | with_reducible rfl
                              try simp only [Act.put, List.setIfInBounds_toArray, List.set_cons_zero, List.set_cons_succ]
                              refine Lt.take (i := 5) (oi := { dst := some 109, op := Op.fieldAddr 29 (Operand.tmp 3) 1, type := 0, pos := "l6_keep.go:79", after := #[], guard := none }) (v := ?_) rfl (by kernel_rfl) (by kernel_rfl) (by kernel_rfl) (by kernel_rfl) (fun _ _ _ h => h) hS0 (Or.inl ⟨by rfl, ?_⟩) ?_
                              rotate_left 1
                              · rintro w ⟨s1, s2, s3, s4⟩
                                go_simp
                                first | done | with_reducible rfl
                              try simp only [Act.put, List.setIfInBounds_toArray, List.set_cons_zero, List.set_cons_succ]
                              refine Lt.take (i := 6) (oi := { dst := some 110, op := Op.load 22 (Operand.tmp 109), type := 22, pos := "l6_keep.go:79", after := #[{ on := 5, ground := Ground.data }], guard := none }) (v := ?_) rfl (by kernel_rfl) (by kernel_rfl) (by kernel_rfl) (by kernel_rfl) (fun _ _ _ h => h) hS0 (Or.inl ⟨by rfl, ?_⟩) ?_
                              rotate_left 1
                              · rintro w ⟨s1, s2, s3, s4⟩
                                go_simp
                                first | done | with_reducible rfl
                              try simp only [Act.put, List.setIfInBounds_toArray, List.set_cons_zero, List.set_cons_succ]
                              refine Lt.take (i := 7) (oi := { dst := some 111, op := Op.move (Operand.tmp 7), type := 3, pos := "l6_keep.go:79", after := #[], guard := none }) (v := ?_) rfl (by kernel_rfl) (by kernel_rfl) (by kernel_rfl) (by kernel_rfl) (fun _ _ _ h => h) hS0 (Or.inl ⟨by rfl, ?_⟩) ?_
                              rotate_left 1
                              · rintro w ⟨s1, s2, s3, s4⟩
                                go_simp
                                first | done | with_reducible rfl
                              try simp only [Act.put, List.setIfInBounds_toArray, List.set_cons_zero, List.set_cons_succ]
                              refine Lt.take (i := 8) (oi := { dst := some 112, op := Op.indexAddr 22 (Operand.tmp 110) (Operand.tmp 111), type := 0, pos := "l6_keep.go:79", after := #[{ on := 6, ground := Ground.data }, { on := 7, ground := Ground.data }], guard := none }) (v := ?_) rfl (by kernel_rfl) (by kernel_rfl) (by kernel_rfl) (by kernel_rfl) (fun _ _ _ h => h) hS0 (Or.inl ⟨by rfl, ?_⟩) ?_
                              rotate_left 1
                              · rintro w ⟨s1, s2, s3, s4⟩
                                go_simp
                                first | done | with_reducible rfl
                              try simp only [Act.put, List.setIfInBounds_toArray, List.set_cons_zero, List.set_cons_succ]
                              refine Lt.take (i := 9) (oi := { dst := some 113, op := Op.load 9 (Operand.tmp 112), type := 9, pos := "l6_keep.go:79", after := #[{ on := 8, ground := Ground.data }], guard := none }) (v := ?_) rfl (by kernel_rfl) (by kernel_rfl) (by kernel_rfl) (by kernel_rfl) (fun _ _ _ h => h) hS0 (Or.inl ⟨by rfl, ?_⟩) ?_
                              rotate_left 1
                              · rintro w ⟨s1, s2, s3, s4⟩
                                go_simp
                                first | done | with_reducible rfl
                              try simp only [Act.put, List.setIfInBounds_toArray, List.set_cons_zero, List.set_cons_succ]
                              refine Lt.take (i := 10) (oi := { dst := some 114, op := Op.build 31 #[(0, Operand.const (Value.int IntKind.i64 2)), (2, Operand.tmp 108), (3, Operand.tmp 113)], type := 31, pos := "l6_keep.go:79", after := #[{ on := 4, ground := Ground.data }, { on := 9, ground := Ground.data }], guard := none }) (v := ?_) rfl (by kernel_rfl) (by kernel_rfl) (by kernel_rfl) (by kernel_rfl) (fun _ _ _ h => h) hS0 (Or.inl ⟨by rfl, ?_⟩) ?_
                              rotate_left 1
                              · rintro w ⟨s1, s2, s3, s4⟩
                                go_simp
                                first | done | with_reducible rfl
                              try simp only [Act.put, List.setIfInBounds_toArray, List.set_cons_zero, List.set_cons_succ]
                              have HKB := hid ((hbr7.block (w.heap.size + 2) hKl).trans HKK.out)
                              obtain ⟨k0, k1, k2, k3, k4, k5⟩ := blk_c6 HKB.out
                              have kf := fun j => Lib.frozen_of_heap HKB.out j
                              clear hS0
                              refine Lt.step (i := 11) (o := { dst := none, op := Op.store 31 (Operand.tmp 4) (Operand.tmp 114), type := 0, pos := "l6_keep.go:79", after := #[{ on := 10, ground := Ground.data }, { on := 0, ground := Ground.phase }, { on := 1, ground := Ground.phase }, { on := 2, ground := Ground.phase }, { on := 3, ground := Ground.phase }, { on := 4, ground := Ground.phase }, { on := 5, ground := Ground.phase }, { on := 6, ground := Ground.phase }, { on := 7, ground := Ground.phase }, { on := 8, ground := Ground.phase }, { on := 9, ground := Ground.phase }, { on := 10, ground := Ground.phase }], guard := none }) (by kernel_rfl) rfl (fun K hK => ?_)
                              go_simp
                              refine hK.out _ _ (fun h => absurd rfl h) (fun _ => ?_)
                              clear hK K
                              refine Lt.done (by kernel_rfl) ?_ _
                              go_wp2_with fail
                              exact bodyPost_ret (v := .agg #[.int .i64 2, .int .i64 0, .slice none 0 0, .slice none 0 0, .string x, .string y]) (by simp [results, Tryz.results5, go_sem, k0, k1, k2, k3, k4, k5]) rfl ⟨below_set6P (HBW.out.trans (hbr7.mono (by have := HBW.out.size; omega))) (by omega) _ _ _ _ _ _, KmOut.zero HMP.out⟩
                      · have eqq : (sx.toList == q.toList) = false := str_ne hsq
                        have HLO : Hid (∀ z ∈ A.drop a, Lt1 (sumB n) B[i] z) := HCU.out.behind HSA.out hla hlt (Lt1.tot (by rw [HAI.out, HBI.out, HSXE.out, HQ.out]; exact HV.out) (by rw [HAI.out, HBI.out, HSXE.out, HQ.out]; exact hsq))
                        clear hsq
                        go_wp2_with fail
                        go_region_held3 (fun w' => w'.cell? ⟨w.heap.size, 1, none⟩ = some (.slice (some ⟨ab, ao, none⟩) A.length ac) ∧ w'.cell? ⟨w.heap.size, 0, none⟩ = some (.int .i64 (n : Int)) ∧ w'.cell? ⟨ab, ao + a, none⟩ = some (.string x))
                          (first | assumption | (simp [*]; done) | (refine ⟨?_, ?_, ?_⟩ <;> exact cell_below hb2 (by simp [*])))
                          (first | (go_at_call 17; refine (HSX.out _).mono ?_; rintro e w2 ⟨rfl, hb2⟩))
                        all_goals
                          have HC3 := hid (HC.out.below (hbD.trans (hb2.mono hbD.size)))
                          have hbr5 : Below BB WW w2 := hbr.trans ((hbD.trans (hb2.mono hbD.size)).mono (by omega))
                          obtain ⟨w5, e5⟩ : ∃ w5, w5 = w2 := ⟨_, rfl⟩
                          rw [← e5] at HC3 hbr5 ⊢
                          clear c1 c2 c3 HC hbr hbD hb2 hszr e5 eqq hv HSX
                          have HC := hid HC3.out
                          have hbr := hbr5
                          clear HC3 hbr5
                          have v2' := cell_belowB hbr HB1.out
                          have v3' := cell_belowB hbr HYB.out
                          have hszr := hbr.size
                          have u1 : w5.drew.cell? ⟨P, 1, none⟩ = some (.slice (some ⟨mg, 0, none⟩) M.length mp) := HC.out.cell.2.1
                          have u2 : w5.drew.cell? ⟨w.heap.size + 1, 1, none⟩ = some (.slice (some ⟨bb, bo, none⟩) B.length bc) := v2'
                          have u3 : w5.drew.cell? ⟨bb, bo + i, none⟩ = some (.string y) := v3'
                          go_wp2_with fail
                          refine Lt.begin 10 (fun w' => w'.cell? ⟨P, 1, none⟩ = some (.slice (some ⟨mg, 0, none⟩) M.length mp) ∧ w'.cell? ⟨w.heap.size + 1, 1, none⟩ = some (.slice (some ⟨bb, bo, none⟩) B.length bc) ∧ w'.cell? ⟨bb, bo + i, none⟩ = some (.string y)) (by kernel_rfl) ?_
                          have hS0 : w5.drew.cell? ⟨P, 1, none⟩ = some (.slice (some ⟨mg, 0, none⟩) M.length mp) ∧ w5.drew.cell? ⟨w.heap.size + 1, 1, none⟩ = some (.slice (some ⟨bb, bo, none⟩) B.length bc) ∧ w5.drew.cell? ⟨bb, bo + i, none⟩ = some (.string y) := ⟨u1, u2, u3⟩
                          refine Lt.take (i := 0) (oi := { dst := some 117, op := Op.fieldAddr 29 (Operand.tmp 5) 1, type := 0, pos := "l6_keep.go:83", after := #[], guard := none }) (v := ?_) rfl (by kernel_rfl) (by kernel_rfl) (by kernel_rfl) (by kernel_rfl) (fun _ _ _ h => h) hS0 (Or.inl ⟨by rfl, ?_⟩) ?_
                          rotate_left 1
                          · rintro w ⟨s1, s2, s3⟩
                            go_simp
                            first | done | with_reducible rfl
                          try simp only [Act.put, List.setIfInBounds_toArray, List.set_cons_zero, List.set_cons_succ]
                          refine Lt.take (i := 1) (oi := { dst := some 118, op := Op.load 22 (Operand.tmp 117), type := 22, pos := "l6_keep.go:83", after := #[{ on := 0, ground := Ground.data }], guard := none }) (v := ?_) rfl (by kernel_rfl) (by kernel_rfl) (by kernel_rfl) (by kernel_rfl) (fun _ _ _ h => h) hS0 (Or.inl ⟨by rfl, ?_⟩) ?_
                          rotate_left 1
                          · rintro w ⟨s1, s2, s3⟩
                            go_simp
                            first | done | with_reducible rfl
                          try simp only [Act.put, List.setIfInBounds_toArray, List.set_cons_zero, List.set_cons_succ]
                          refine Lt.take (i := 2) (oi := { dst := some 119, op := Op.fieldAddr 29 (Operand.tmp 3) 1, type := 0, pos := "l6_keep.go:83", after := #[], guard := none }) (v := ?_) rfl (by kernel_rfl) (by kernel_rfl) (by kernel_rfl) (by kernel_rfl) (fun _ _ _ h => h) hS0 (Or.inl ⟨by rfl, ?_⟩) ?_
                          rotate_left 1
                          · rintro w ⟨s1, s2, s3⟩
                            go_simp
                            first | done | with_reducible rfl
                          try simp only [Act.put, List.setIfInBounds_toArray, List.set_cons_zero, List.set_cons_succ]
                          refine Lt.take (i := 3) (oi := { dst := some 120, op := Op.load 22 (Operand.tmp 119), type := 22, pos := "l6_keep.go:83", after := #[{ on := 2, ground := Ground.data }], guard := none }) (v := ?_) rfl (by kernel_rfl) (by kernel_rfl) (by kernel_rfl) (by kernel_rfl) (fun _ _ _ h => h) hS0 (Or.inl ⟨by rfl, ?_⟩) ?_
                          rotate_left 1
                          · rintro w ⟨s1, s2, s3⟩
                            go_simp
                            first | done | with_reducible rfl
                          try simp only [Act.put, List.setIfInBounds_toArray, List.set_cons_zero, List.set_cons_succ]
                          refine Lt.take (i := 4) (oi := { dst := some 121, op := Op.move (Operand.tmp 7), type := 3, pos := "l6_keep.go:83", after := #[], guard := none }) (v := ?_) rfl (by kernel_rfl) (by kernel_rfl) (by kernel_rfl) (by kernel_rfl) (fun _ _ _ h => h) hS0 (Or.inl ⟨by rfl, ?_⟩) ?_
                          rotate_left 1
                          · rintro w ⟨s1, s2, s3⟩
                            go_simp
                            first | done | with_reducible rfl
                          try simp only [Act.put, List.setIfInBounds_toArray, List.set_cons_zero, List.set_cons_succ]
                          refine Lt.take (i := 5) (oi := { dst := some 122, op := Op.indexAddr 22 (Operand.tmp 120) (Operand.tmp 121), type := 0, pos := "l6_keep.go:83", after := #[{ on := 3, ground := Ground.data }, { on := 4, ground := Ground.data }], guard := none }) (v := ?_) rfl (by kernel_rfl) (by kernel_rfl) (by kernel_rfl) (by kernel_rfl) (fun _ _ _ h => h) hS0 (Or.inl ⟨by rfl, ?_⟩) ?_
                          rotate_left 1
                          · rintro w ⟨s1, s2, s3⟩
                            go_simp
                            first | done | with_reducible rfl
                          try simp only [Act.put, List.setIfInBounds_toArray, List.set_cons_zero, List.set_cons_succ]
                          refine Lt.take (i := 6) (oi := { dst := some 123, op := Op.load 9 (Operand.tmp 122), type := 9, pos := "l6_keep.go:83", after := #[{ on := 5, ground := Ground.data }], guard := none }) (v := ?_) rfl (by kernel_rfl) (by kernel_rfl) (by kernel_rfl) (by kernel_rfl) (fun _ _ _ h => h) hS0 (Or.inl ⟨by rfl, ?_⟩) ?_
                          rotate_left 1
                          · rintro w ⟨s1, s2, s3⟩
                            go_simp
                            first | done | with_reducible rfl
                          try simp only [Act.put, List.setIfInBounds_toArray, List.set_cons_zero, List.set_cons_succ]
                          refine Lt.step (i := 7) (o := { dst := some 124, op := Op.buildSlice 22 1 #[(0, Operand.tmp 123)], type := 22, pos := "l6_keep.go:83", after := #[{ on := 6, ground := Ground.data }], guard := none }) (by kernel_rfl) rfl (fun K hK => ?_)
                          go_simp
                          have hbA : Below w5.heap.size w5 (w5.alloc (.cells #[.string y] 9)).drew := ((Below.refl _ _).alloc (Nat.le_refl _) _).drew
                          have HC3 := hid (HC.out.below hbA)
                          have k1 := HC3.out.cell.2.1
                          have k2 := cell_below hbA v2'
                          have k3 := cell_below hbA v3'
                          refine hK.out _ _ (fun _ => ⟨k1, k2, k3⟩) (fun _ => ?_)
                          clear hK K
                          try simp only [Act.put, List.setIfInBounds_toArray, List.set_cons_zero, List.set_cons_succ]
                          refine Lt.step (i := 8) (o := { dst := some 125, op := Op.call { callee := Callee.builtin Builtin.append, args := #[Operand.tmp 118, Operand.tmp 124], argTypes := #[22, 22] }, type := 22, pos := "l6_keep.go:83", after := #[{ on := 1, ground := Ground.data }, { on := 7, ground := Ground.data }], guard := none }) (by kernel_rfl) rfl (fun K hK => ?_)
                          refine step_append_lies _ (by rfl) _ _ 22 (by rfl) BB 9 i0 (.string ⟨#[]⟩) 1 16 Tryz.underlying22 hi hz0 hz1 hz2 (by rfl) (by decide) (.slice (some ⟨mg, 0, none⟩) M.length mp) M.length (M.map Value.string) (by rfl) HC3.out.s ⟨w5.heap.size, 0, none⟩ 1 1 [.string y] (by rfl) (by rfl) (World.news_of_block (cs := #[.string y]) (t := 9) (fr := (0, 0)) (heapW_new w5 _)) (by intro u hu; simp at hu; subst hu; rfl) (by decide) (by unfold maxLen; omega) (by omega) (by have := hbA.size; omega) _ rfl ?_
                          intro g' cap2 w4 hown' hgrow hlie hlt3
                          have HC4 := hid (HC3.out.putT (us := M ++ [y]) hgrow (by rw [List.map_append, List.length_append]; exact hown'))
                          have hb4 : Below BB WW w4 := (hbr.trans (hbA.mono (by omega))).grown hgrow (by have := hbA.size; omega) (fun k hk => (HC3.out.s.lt k hk).1)
                          have hP4 : w4.heap[P]? = some (.cells #[.int .i64 (n : Int), .slice (some ⟨mg, 0, none⟩) M.length mp, .slice q2a RA.length q2c] 29 (0, 0)) := by
                            rw [hgrow.block P (blkW_lt HC3.out.blk) (fun e => HasT.ne (T := 29) ⟨_, HC3.out.blk⟩ HC3.out.s (by decide) e.symm)]; exact HC3.out.blk
                          have n1 : w4.cell? ⟨P, 1, none⟩ = some (.slice (some ⟨mg, 0, none⟩) M.length mp) := (blk_c3 hP4).2.1
                          have nf1 : w4.frozen? ⟨P, 1, none⟩ = false := Lib.frozen_of_heap hP4 1
                          have n2 := cell_belowB hb4 HB1.out
                          have n3 := cell_belowB hb4 HYB.out
                          have hb5 : Below BB WW (w4.setCell ⟨P, 1, none⟩ (.slice (some ⟨g', 0, none⟩) (M.length + 1) cap2)) := hb4.setCell (p := ⟨P, 1, none⟩) hPB _
                          refine hK.out _ _ (fun _ => ⟨n1, n2, n3⟩) (fun hS5 => ?_)
                          replace hS5 := hS5 (by decide)
                          clear hK K hown' hgrow hlie hlt3 HC3 k1 k2 k3 hP4
                          try simp only [Act.put, List.setIfInBounds_toArray, List.set_cons_zero, List.set_cons_succ]
                          refine Lt.take (i := 9) (oi := { dst := some 126, op := Op.fieldAddr 29 (Operand.tmp 5) 1, type := 0, pos := "l6_keep.go:83", after := #[{ on := 0, ground := Ground.phase }, { on := 1, ground := Ground.phase }, { on := 2, ground := Ground.phase }, { on := 3, ground := Ground.phase }, { on := 4, ground := Ground.phase }, { on := 5, ground := Ground.phase }, { on := 6, ground := Ground.phase }, { on := 7, ground := Ground.phase }, { on := 8, ground := Ground.phase }], guard := none }) (v := ?_) rfl (by kernel_rfl) (by kernel_rfl) (by kernel_rfl) (by kernel_rfl) (fun _ _ _ h => h) hS5 (Or.inl ⟨by rfl, ?_⟩) ?_
                          rotate_left 1
                          · rintro w ⟨s1, s2, s3⟩
                            go_simp
                            first | done | with_reducible rfl
                          try simp only [Act.put, List.setIfInBounds_toArray, List.set_cons_zero, List.set_cons_succ]
                          refine Lt.step (i := 10) (o := { dst := none, op := Op.store 22 (Operand.tmp 126) (Operand.tmp 125), type := 0, pos := "l6_keep.go:83", after := #[{ on := 9, ground := Ground.data }, { on := 8, ground := Ground.data }, { on := 8, ground := Ground.chain }, { on := 0, ground := Ground.phase }, { on := 1, ground := Ground.phase }, { on := 2, ground := Ground.phase }, { on := 3, ground := Ground.phase }, { on := 4, ground := Ground.phase }, { on := 5, ground := Ground.phase }, { on := 6, ground := Ground.phase }, { on := 7, ground := Ground.phase }, { on := 8, ground := Ground.phase }], guard := none }) (by kernel_rfl) rfl (fun K hK => ?_)
                          go_simp
                          refine hK.out _ _ (fun h => absurd rfl h) (fun _ => ?_)
                          clear hK K hS5
                          refine Lt.done (by kernel_rfl) ?_ _
                          clear u1 u2 u3 v2' v3' n1 n2 n3 nf1
                          go_wp2
                          go_roundw
                          case rel => exact ⟨a, i + 1, g', cap2, M ++ [y], by omega, by omega, by go_num, by go_num, (by have h := HCU.out.putB HSB.out hlt HLO.out; rw [HBI.out] at h; exact h), (by have h := HC4.out; rw [List.length_append]; exact h), hb5⟩
                          case measure => simp [intOf]; omega
                · have dA : decide ((a : Int) < (A.length : Int)) = false := by simp; omega
                  have HLO : Hid (∀ z ∈ A.drop a, Lt1 (sumB n) B[i] z) := fun z hz => by rw [List.drop_eq_nil_of_le (by omega)] at hz; cases hz
                  have c1 := cell_belowB hbr HA1.out
                  go_wp2_with fail
                  go_quiet (fail)
                  have hbq : Below BB WW (wr.drewN nq) := below_drewN hbr nq
                  have HCq := hid (HC.out.below (below_drewN (Below.refl wr.heap.size wr) nq))
                  obtain ⟨w4, e4⟩ : ∃ w4, w4 = wr.drewN nq := ⟨_, rfl⟩
                  rw [← e4] at hbq HCq ⊢
                  replace c1 := cell_belowB hbq HA1.out
                  clear HC hbr e4
                  go_wp2_with fail
                  go_quiet (fail)
                  have hbr : Below BB WW (w4.drewN nq) := below_drewN hbq nq
                  have HC := hid (HCq.out.below (below_drewN (Below.refl w4.heap.size w4) nq))
                  obtain ⟨w5, e5⟩ : ∃ w5, w5 = w4.drewN nq := ⟨_, rfl⟩
                  rw [← e5] at hbr HC ⊢
                  clear hbq HCq e5
                  have v2' := cell_belowB hbr HB1.out
                  have v3' := cell_belowB hbr HYB.out
                  have hszr := hbr.size
                  have u1 : w5.drew.cell? ⟨P, 1, none⟩ = some (.slice (some ⟨mg, 0, none⟩) M.length mp) := HC.out.cell.2.1
                  have u2 : w5.drew.cell? ⟨w.heap.size + 1, 1, none⟩ = some (.slice (some ⟨bb, bo, none⟩) B.length bc) := v2'
                  have u3 : w5.drew.cell? ⟨bb, bo + i, none⟩ = some (.string y) := v3'
                  go_wp2_with fail
                  refine Lt.begin 10 (fun w' => w'.cell? ⟨P, 1, none⟩ = some (.slice (some ⟨mg, 0, none⟩) M.length mp) ∧ w'.cell? ⟨w.heap.size + 1, 1, none⟩ = some (.slice (some ⟨bb, bo, none⟩) B.length bc) ∧ w'.cell? ⟨bb, bo + i, none⟩ = some (.string y)) (by kernel_rfl) ?_
                  have hS0 : w5.drew.cell? ⟨P, 1, none⟩ = some (.slice (some ⟨mg, 0, none⟩) M.length mp) ∧ w5.drew.cell? ⟨w.heap.size + 1, 1, none⟩ = some (.slice (some ⟨bb, bo, none⟩) B.length bc) ∧ w5.drew.cell? ⟨bb, bo + i, none⟩ = some (.string y) := ⟨u1, u2, u3⟩
                  refine Lt.take (i := 0) (oi := { dst := some 117, op := Op.fieldAddr 29 (Operand.tmp 5) 1, type := 0, pos := "l6_keep.go:83", after := #[], guard := none }) (v := ?_) rfl (by kernel_rfl) (by kernel_rfl) (by kernel_rfl) (by kernel_rfl) (fun _ _ _ h => h) hS0 (Or.inl ⟨by rfl, ?_⟩) ?_
                  rotate_left 1
                  · rintro w ⟨s1, s2, s3⟩
                    go_simp
                    first | done | with_reducible rfl
                  try simp only [Act.put, List.setIfInBounds_toArray, List.set_cons_zero, List.set_cons_succ]
                  refine Lt.take (i := 1) (oi := { dst := some 118, op := Op.load 22 (Operand.tmp 117), type := 22, pos := "l6_keep.go:83", after := #[{ on := 0, ground := Ground.data }], guard := none }) (v := ?_) rfl (by kernel_rfl) (by kernel_rfl) (by kernel_rfl) (by kernel_rfl) (fun _ _ _ h => h) hS0 (Or.inl ⟨by rfl, ?_⟩) ?_
                  rotate_left 1
                  · rintro w ⟨s1, s2, s3⟩
                    go_simp
                    first | done | with_reducible rfl
                  try simp only [Act.put, List.setIfInBounds_toArray, List.set_cons_zero, List.set_cons_succ]
                  refine Lt.take (i := 2) (oi := { dst := some 119, op := Op.fieldAddr 29 (Operand.tmp 3) 1, type := 0, pos := "l6_keep.go:83", after := #[], guard := none }) (v := ?_) rfl (by kernel_rfl) (by kernel_rfl) (by kernel_rfl) (by kernel_rfl) (fun _ _ _ h => h) hS0 (Or.inl ⟨by rfl, ?_⟩) ?_
                  rotate_left 1
                  · rintro w ⟨s1, s2, s3⟩
                    go_simp
                    first | done | with_reducible rfl
                  try simp only [Act.put, List.setIfInBounds_toArray, List.set_cons_zero, List.set_cons_succ]
                  refine Lt.take (i := 3) (oi := { dst := some 120, op := Op.load 22 (Operand.tmp 119), type := 22, pos := "l6_keep.go:83", after := #[{ on := 2, ground := Ground.data }], guard := none }) (v := ?_) rfl (by kernel_rfl) (by kernel_rfl) (by kernel_rfl) (by kernel_rfl) (fun _ _ _ h => h) hS0 (Or.inl ⟨by rfl, ?_⟩) ?_
                  rotate_left 1
                  · rintro w ⟨s1, s2, s3⟩
                    go_simp
                    first | done | with_reducible rfl
                  try simp only [Act.put, List.setIfInBounds_toArray, List.set_cons_zero, List.set_cons_succ]
                  refine Lt.take (i := 4) (oi := { dst := some 121, op := Op.move (Operand.tmp 7), type := 3, pos := "l6_keep.go:83", after := #[], guard := none }) (v := ?_) rfl (by kernel_rfl) (by kernel_rfl) (by kernel_rfl) (by kernel_rfl) (fun _ _ _ h => h) hS0 (Or.inl ⟨by rfl, ?_⟩) ?_
                  rotate_left 1
                  · rintro w ⟨s1, s2, s3⟩
                    go_simp
                    first | done | with_reducible rfl
                  try simp only [Act.put, List.setIfInBounds_toArray, List.set_cons_zero, List.set_cons_succ]
                  refine Lt.take (i := 5) (oi := { dst := some 122, op := Op.indexAddr 22 (Operand.tmp 120) (Operand.tmp 121), type := 0, pos := "l6_keep.go:83", after := #[{ on := 3, ground := Ground.data }, { on := 4, ground := Ground.data }], guard := none }) (v := ?_) rfl (by kernel_rfl) (by kernel_rfl) (by kernel_rfl) (by kernel_rfl) (fun _ _ _ h => h) hS0 (Or.inl ⟨by rfl, ?_⟩) ?_
                  rotate_left 1
                  · rintro w ⟨s1, s2, s3⟩
                    go_simp
                    first | done | with_reducible rfl
                  try simp only [Act.put, List.setIfInBounds_toArray, List.set_cons_zero, List.set_cons_succ]
                  refine Lt.take (i := 6) (oi := { dst := some 123, op := Op.load 9 (Operand.tmp 122), type := 9, pos := "l6_keep.go:83", after := #[{ on := 5, ground := Ground.data }], guard := none }) (v := ?_) rfl (by kernel_rfl) (by kernel_rfl) (by kernel_rfl) (by kernel_rfl) (fun _ _ _ h => h) hS0 (Or.inl ⟨by rfl, ?_⟩) ?_
                  rotate_left 1
                  · rintro w ⟨s1, s2, s3⟩
                    go_simp
                    first | done | with_reducible rfl
                  try simp only [Act.put, List.setIfInBounds_toArray, List.set_cons_zero, List.set_cons_succ]
                  refine Lt.step (i := 7) (o := { dst := some 124, op := Op.buildSlice 22 1 #[(0, Operand.tmp 123)], type := 22, pos := "l6_keep.go:83", after := #[{ on := 6, ground := Ground.data }], guard := none }) (by kernel_rfl) rfl (fun K hK => ?_)
                  go_simp
                  have hbA : Below w5.heap.size w5 (w5.alloc (.cells #[.string y] 9)).drew := ((Below.refl _ _).alloc (Nat.le_refl _) _).drew
                  have HC3 := hid (HC.out.below hbA)
                  have k1 := HC3.out.cell.2.1
                  have k2 := cell_below hbA v2'
                  have k3 := cell_below hbA v3'
                  refine hK.out _ _ (fun _ => ⟨k1, k2, k3⟩) (fun _ => ?_)
                  clear hK K
                  try simp only [Act.put, List.setIfInBounds_toArray, List.set_cons_zero, List.set_cons_succ]
                  refine Lt.step (i := 8) (o := { dst := some 125, op := Op.call { callee := Callee.builtin Builtin.append, args := #[Operand.tmp 118, Operand.tmp 124], argTypes := #[22, 22] }, type := 22, pos := "l6_keep.go:83", after := #[{ on := 1, ground := Ground.data }, { on := 7, ground := Ground.data }], guard := none }) (by kernel_rfl) rfl (fun K hK => ?_)
                  refine step_append_lies _ (by rfl) _ _ 22 (by rfl) BB 9 i0 (.string ⟨#[]⟩) 1 16 Tryz.underlying22 hi hz0 hz1 hz2 (by rfl) (by decide) (.slice (some ⟨mg, 0, none⟩) M.length mp) M.length (M.map Value.string) (by rfl) HC3.out.s ⟨w5.heap.size, 0, none⟩ 1 1 [.string y] (by rfl) (by rfl) (World.news_of_block (cs := #[.string y]) (t := 9) (fr := (0, 0)) (heapW_new w5 _)) (by intro u hu; simp at hu; subst hu; rfl) (by decide) (by unfold maxLen; omega) (by omega) (by have := hbA.size; omega) _ rfl ?_
                  intro g' cap2 w4 hown' hgrow hlie hlt3
                  have HC4 := hid (HC3.out.putT (us := M ++ [y]) hgrow (by rw [List.map_append, List.length_append]; exact hown'))
                  have hb4 : Below BB WW w4 := (hbr.trans (hbA.mono (by omega))).grown hgrow (by have := hbA.size; omega) (fun k hk => (HC3.out.s.lt k hk).1)
                  have hP4 : w4.heap[P]? = some (.cells #[.int .i64 (n : Int), .slice (some ⟨mg, 0, none⟩) M.length mp, .slice q2a RA.length q2c] 29 (0, 0)) := by
                    rw [hgrow.block P (blkW_lt HC3.out.blk) (fun e => HasT.ne (T := 29) ⟨_, HC3.out.blk⟩ HC3.out.s (by decide) e.symm)]; exact HC3.out.blk
                  have n1 : w4.cell? ⟨P, 1, none⟩ = some (.slice (some ⟨mg, 0, none⟩) M.length mp) := (blk_c3 hP4).2.1
                  have nf1 : w4.frozen? ⟨P, 1, none⟩ = false := Lib.frozen_of_heap hP4 1
                  have n2 := cell_belowB hb4 HB1.out
                  have n3 := cell_belowB hb4 HYB.out
                  have hb5 : Below BB WW (w4.setCell ⟨P, 1, none⟩ (.slice (some ⟨g', 0, none⟩) (M.length + 1) cap2)) := hb4.setCell (p := ⟨P, 1, none⟩) hPB _
                  refine hK.out _ _ (fun _ => ⟨n1, n2, n3⟩) (fun hS5 => ?_)
                  replace hS5 := hS5 (by decide)
                  clear hK K hown' hgrow hlie hlt3 HC3 k1 k2 k3 hP4
                  try simp only [Act.put, List.setIfInBounds_toArray, List.set_cons_zero, List.set_cons_succ]
                  refine Lt.take (i := 9) (oi := { dst := some 126, op := Op.fieldAddr 29 (Operand.tmp 5) 1, type := 0, pos := "l6_keep.go:83", after := #[{ on := 0, ground := Ground.phase }, { on := 1, ground := Ground.phase }, { on := 2, ground := Ground.phase }, { on := 3, ground := Ground.phase }, { on := 4, ground := Ground.phase }, { on := 5, ground := Ground.phase }, { on := 6, ground := Ground.phase }, { on := 7, ground := Ground.phase }, { on := 8, ground := Ground.phase }], guard := none }) (v := ?_) rfl (by kernel_rfl) (by kernel_rfl) (by kernel_rfl) (by kernel_rfl) (fun _ _ _ h => h) hS5 (Or.inl ⟨by rfl, ?_⟩) ?_
                  rotate_left 1
                  · rintro w ⟨s1, s2, s3⟩
                    go_simp
                    first | done | with_reducible rfl
                  try simp only [Act.put, List.setIfInBounds_toArray, List.set_cons_zero, List.set_cons_succ]
                  refine Lt.step (i := 10) (o := { dst := none, op := Op.store 22 (Operand.tmp 126) (Operand.tmp 125), type := 0, pos := "l6_keep.go:83", after := #[{ on := 9, ground := Ground.data }, { on := 8, ground := Ground.data }, { on := 8, ground := Ground.chain }, { on := 0, ground := Ground.phase }, { on := 1, ground := Ground.phase }, { on := 2, ground := Ground.phase }, { on := 3, ground := Ground.phase }, { on := 4, ground := Ground.phase }, { on := 5, ground := Ground.phase }, { on := 6, ground := Ground.phase }, { on := 7, ground := Ground.phase }, { on := 8, ground := Ground.phase }], guard := none }) (by kernel_rfl) rfl (fun K hK => ?_)
                  go_simp
                  refine hK.out _ _ (fun h => absurd rfl h) (fun _ => ?_)
                  clear hK K hS5
                  refine Lt.done (by kernel_rfl) ?_ _
                  clear u1 u2 u3 v2' v3' n1 n2 n3 nf1
                  go_wp2
                  go_roundw
                  case rel => exact ⟨a, i + 1, g', cap2, M ++ [y], by omega, by omega, by go_num, by go_num, (by have h := HCU.out.putB HSB.out hlt HLO.out; rw [HBI.out] at h; exact h), (by have h := HC4.out; rw [List.length_append]; exact h), hb5⟩
                  case measure => simp [intOf]; omega
          · have dI : decide ((i : Int) < (B.length : Int)) = false := by simp; omega
            obtain rfl : i = B.length := by omega
            obtain ⟨hno, huni⟩ := HCU.out.done HSA.out
            have HNO := hid hno
            have HUNI := hid huni
            have c1 := cell_belowB hbr HB1.out
            have haI : (a : Int) ≤ (A.length : Int) := by omega
            have ha0 : (0 : Int) ≤ (a : Int) := by omega
            obtain ⟨ad, had, HAD⟩ : ∃ ad : Addr, (if ac = a then some (⟨ab, ao, none⟩ : Addr) else some ⟨ab, ao + a, none⟩) = some ad ∧ Hid (a < A.length → ad = ⟨ab, ao + a, none⟩) := by
              by_cases e : ac = a
              · exact ⟨_, if_pos e, fun h => by omega⟩
              · exact ⟨_, if_neg e, fun _ => rfl⟩
            clear hno huni
            go_wp2_with fail
            refine Lt.begin 8 (fun w' => w'.cell? ⟨P, 1, none⟩ = some (.slice (some ⟨mg, 0, none⟩) M.length mp) ∧ w'.cell? ⟨w.heap.size, 1, none⟩ = some (.slice (some ⟨ab, ao, none⟩) A.length ac)) (by kernel_rfl) ?_
            obtain ⟨w3, e3⟩ : ∃ w3, w3 = wr.drew := ⟨_, rfl⟩
            have hbr3 : Below BB WW w3 := e3 ▸ hbr.drew
            have HC3 := hid (HC.out.below ((Below.refl _ _).drew))
            rw [← e3] at HC3 ⊢
            clear e3 HC c1
            have hS0 : w3.cell? ⟨P, 1, none⟩ = some (.slice (some ⟨mg, 0, none⟩) M.length mp) ∧ w3.cell? ⟨w.heap.size, 1, none⟩ = some (.slice (some ⟨ab, ao, none⟩) A.length ac) := ⟨HC3.out.cell.2.1, cell_belowB hbr3 HA1.out⟩
            have hsz3 := hbr3.size
            refine Lt.take (i := 0) (oi := { dst := some 127, op := Op.fieldAddr 29 (Operand.tmp 5) 1, type := 0, pos := "l6_keep.go:85", after := #[], guard := none }) (v := ?_) rfl (by kernel_rfl) (by kernel_rfl) (by kernel_rfl) (by kernel_rfl) (fun _ _ _ h => h) hS0 (Or.inl ⟨by rfl, ?_⟩) ?_
            rotate_left 1
            · rintro w ⟨s1, s2⟩
              go_simp
              first | done | with_reducible rfl
            try simp only [Act.put, List.setIfInBounds_toArray, List.set_cons_zero, List.set_cons_succ]
            refine Lt.take (i := 1) (oi := { dst := some 128, op := Op.load 22 (Operand.tmp 127), type := 22, pos := "l6_keep.go:85", after := #[{ on := 0, ground := Ground.data }], guard := none }) (v := ?_) rfl (by kernel_rfl) (by kernel_rfl) (by kernel_rfl) (by kernel_rfl) (fun _ _ _ h => h) hS0 (Or.inl ⟨by rfl, ?_⟩) ?_
            rotate_left 1
            · rintro w ⟨s1, s2⟩
              go_simp
              first | done | with_reducible rfl
            try simp only [Act.put, List.setIfInBounds_toArray, List.set_cons_zero, List.set_cons_succ]
            refine Lt.take (i := 2) (oi := { dst := some 129, op := Op.fieldAddr 29 (Operand.tmp 2) 1, type := 0, pos := "l6_keep.go:85", after := #[], guard := none }) (v := ?_) rfl (by kernel_rfl) (by kernel_rfl) (by kernel_rfl) (by kernel_rfl) (fun _ _ _ h => h) hS0 (Or.inl ⟨by rfl, ?_⟩) ?_
            rotate_left 1
            · rintro w ⟨s1, s2⟩
              go_simp
              first | done | with_reducible rfl
            try simp only [Act.put, List.setIfInBounds_toArray, List.set_cons_zero, List.set_cons_succ]
            refine Lt.take (i := 3) (oi := { dst := some 130, op := Op.load 22 (Operand.tmp 129), type := 22, pos := "l6_keep.go:85", after := #[{ on := 2, ground := Ground.data }], guard := none }) (v := ?_) rfl (by kernel_rfl) (by kernel_rfl) (by kernel_rfl) (by kernel_rfl) (fun _ _ _ h => h) hS0 (Or.inl ⟨by rfl, ?_⟩) ?_
            rotate_left 1
            · rintro w ⟨s1, s2⟩
              go_simp
              first | done | with_reducible rfl
            try simp only [Act.put, List.setIfInBounds_toArray, List.set_cons_zero, List.set_cons_succ]
            refine Lt.take (i := 4) (oi := { dst := some 131, op := Op.move (Operand.tmp 6), type := 3, pos := "l6_keep.go:85", after := #[], guard := none }) (v := ?_) rfl (by kernel_rfl) (by kernel_rfl) (by kernel_rfl) (by kernel_rfl) (fun _ _ _ h => h) hS0 (Or.inl ⟨by rfl, ?_⟩) ?_
            rotate_left 1
            · rintro w ⟨s1, s2⟩
              go_simp
              first | done | with_reducible rfl
            try simp only [Act.put, List.setIfInBounds_toArray, List.set_cons_zero, List.set_cons_succ]
            refine Lt.take (i := 5) (oi := { dst := some 132, op := Op.slice 22 (Operand.tmp 130) (some (Operand.tmp 131)) none none, type := 22, pos := "l6_keep.go:85", after := #[{ on := 3, ground := Ground.data }, { on := 4, ground := Ground.data }], guard := none }) (v := ?_) rfl (by kernel_rfl) (by kernel_rfl) (by kernel_rfl) (by kernel_rfl) (fun _ _ _ h => h) hS0 (Or.inl ⟨by rfl, ?_⟩) ?_
            rotate_left 1
            · rintro w ⟨s1, s2⟩
              go_simp
              first | done | with_reducible rfl
            try simp only [Act.put, List.setIfInBounds_toArray, List.set_cons_zero, List.set_cons_succ]
            refine Lt.step (i := 6) (o := { dst := some 133, op := Op.call { callee := Callee.builtin Builtin.append, args := #[Operand.tmp 128, Operand.tmp 132], argTypes := #[22, 22] }, type := 22, pos := "l6_keep.go:85", after := #[{ on := 1, ground := Ground.data }, { on := 5, ground := Ground.data }], guard := none }) (by kernel_rfl) rfl (fun K hK => ?_)
            refine step_appO (w := w3) rfl (.tmp 128) (.tmp 132) 22 rfl BB 9 i0 (.string ⟨#[]⟩) 1 16 Tryz.underlying22 hi hz0 hz1 hz2 rfl (by decide) mg M.length mp (M.map Value.string) (by rfl) HC3.out.s ad (A.length - a) (ac - a) ((A.drop a).map Value.string) (by rfl) (by simp) (fun j u hu => ?_) (by intro u hu; obtain ⟨z, _, rfl⟩ := List.mem_map.1 hu; rfl) (by unfold maxLen; omega) (by omega) (by omega) ?_
            · have hj : j < (A.drop a).length := by
                rcases Nat.lt_or_ge j (A.drop a).length with h | h
                · exact h
                · rw [List.getElem?_eq_none (by simpa using h)] at hu; cases hu
              rw [List.length_drop] at hj
              rw [HAD.out (by omega), Addr.add_lit]
              rw [List.getElem?_map, List.getElem?_drop] at hu
              have hn := nx_get (rs := A) (i := a + j) (by omega)
              rw [List.getElem?_eq_getElem (show a + j < A.length by omega)] at hu
              have hu2 : Value.string A[a + j] = u := by simpa using hu
              rw [← hu2, ← hn]
              have := cell_belowB hbr3 (HTA.out (a + j) (by omega))
              rwa [← Nat.add_assoc] at this
            intro g' cap2 w4 hown' hgrow
            have hUl : (M ++ A.drop a).length = M.length + (A.length - a) := by simp
            have HC4 := hid (HC3.out.putT (us := M ++ A.drop a) hgrow (by rw [List.map_append, hUl]; exact hown'))
            have hb4 : Below BB WW w4 := hbr3.grown hgrow (by omega) (fun k hk => (HC3.out.s.lt k hk).1)
            have hP4 : w4.heap[P]? = some (.cells #[.int .i64 (n : Int), .slice (some ⟨mg, 0, none⟩) M.length mp, .slice q2a RA.length q2c] 29 (0, 0)) := by
              rw [hgrow.block P (blkW_lt HC3.out.blk) (fun e => HasT.ne (T := 29) ⟨_, HC3.out.blk⟩ HC3.out.s (by decide) e.symm)]; exact HC3.out.blk
            have n1 : w4.cell? ⟨P, 1, none⟩ = some (.slice (some ⟨mg, 0, none⟩) M.length mp) := (blk_c3 hP4).2.1
            have nf1 : w4.frozen? ⟨P, 1, none⟩ = false := Lib.frozen_of_heap hP4 1
            have n2 := cell_belowB hb4 HA1.out
            have hb5 : Below BB WW (w4.setCell ⟨P, 1, none⟩ (.slice (some ⟨g', 0, none⟩) (M.length + (A.length - a)) cap2)) := hb4.setCell (p := ⟨P, 1, none⟩) hPB _
            refine hK.out _ _ (fun _ => ⟨n1, n2⟩) (fun hS5 => ?_)
            replace hS5 := hS5 (by decide)
            clear hK K hown' hgrow HC3 hP4 hS0 had
            try simp only [Act.put, List.setIfInBounds_toArray, List.set_cons_zero, List.set_cons_succ]
            refine Lt.take (i := 7) (oi := { dst := some 134, op := Op.fieldAddr 29 (Operand.tmp 5) 1, type := 0, pos := "l6_keep.go:85", after := #[{ on := 0, ground := Ground.phase }, { on := 1, ground := Ground.phase }, { on := 2, ground := Ground.phase }, { on := 3, ground := Ground.phase }, { on := 4, ground := Ground.phase }, { on := 5, ground := Ground.phase }, { on := 6, ground := Ground.phase }], guard := none }) (v := ?_) rfl (by kernel_rfl) (by kernel_rfl) (by kernel_rfl) (by kernel_rfl) (fun _ _ _ h => h) hS5 (Or.inl ⟨by rfl, ?_⟩) ?_
            rotate_left 1
            · rintro w ⟨s1, s2⟩
              go_simp
              first | done | with_reducible rfl
            try simp only [Act.put, List.setIfInBounds_toArray, List.set_cons_zero, List.set_cons_succ]
            refine Lt.step (i := 8) (o := { dst := none, op := Op.store 22 (Operand.tmp 134) (Operand.tmp 133), type := 0, pos := "l6_keep.go:85", after := #[{ on := 7, ground := Ground.data }, { on := 6, ground := Ground.data }, { on := 6, ground := Ground.chain }, { on := 0, ground := Ground.phase }, { on := 1, ground := Ground.phase }, { on := 2, ground := Ground.phase }, { on := 3, ground := Ground.phase }, { on := 4, ground := Ground.phase }, { on := 5, ground := Ground.phase }, { on := 6, ground := Ground.phase }], guard := none }) (by kernel_rfl) rfl (fun K hK => ?_)
            go_simp
            refine hK.out _ _ (fun h => absurd rfl h) (fun _ => ?_)
            clear hK K hS5
            refine Lt.done (by kernel_rfl) ?_ _
            rw [← hUl] at HC4 hb5 ⊢
            obtain ⟨w5, e5⟩ : ∃ w5, w5 = w4.setCell ⟨P, 1, none⟩ (.slice (some ⟨g', 0, none⟩) (M ++ A.drop a).length cap2) := ⟨_, rfl⟩
            rw [← e5] at HC4 hb5 ⊢
            have hUb : (M ++ A.drop a).length ≤ 20000 := by rw [hUl]; omega
            obtain ⟨U, eU⟩ : ∃ U, M ++ A.drop a = U := ⟨_, rfl⟩
            rw [eU] at HC4 HUNI hUb ⊢
            clear e5 n1 n2 nf1 hb4 hbr3 hsz3 eU hUl HCU hMl
            obtain ⟨x0, x1, x2⟩ := HC4.out.cell
            by_cases hU5 : 5000 < U.length
            · have dU : decide ((5000 : Int) < (U.length : Int)) = true := by simp; omega
              have HMP : Hid (MgP (n : Int) A RA (n : Int) B RB 3 0 [] [] ⟨#[]⟩ ⟨#[]⟩) := Or.inr ⟨⟨HWA.out, HWB.out, rfl⟩, Or.inr ⟨HNO.out, rfl, rfl, U, HUNI.out, Or.inl ⟨Or.inl hU5, rfl, rfl, rfl, rfl⟩⟩⟩
              have hKb := (hb5.block (w.heap.size + 2) hKl).trans HKK.out
              obtain ⟨k0, k1, k2, k3, k4, k5⟩ := blk_c6 hKb
              have kf := fun j => Lib.frozen_of_heap hKb j
              have hbF := HBW.out.trans (hb5.mono (by have := HBW.out.size; omega))
              clear hKb
              go_wp2_with fail
              exact bodyPost_ret (v := .agg #[.int .i64 3, .int .i64 0, .slice none 0 0, .slice none 0 0, .string ⟨#[]⟩, .string ⟨#[]⟩]) (by simp [results, Tryz.results5, go_sem, k0, k1, k2, k3, k4, k5]) rfl ⟨below_set6P hbF (by omega) _ _ _ _ _ _, KmOut.zero HMP.out⟩
            · have dU : decide ((5000 : Int) < (U.length : Int)) = false := by simp; omega
              go_wp2_with fail
              clear x0 x1 x2
              go_loopw [9] (fun vi wr => ∃ (i qn : Nat) (qa : Option Addr) (qc : Nat), i ≤ RB.length ∧ vi = .int .i64 i ∧ Hid (qn = RA.length + (newR RA (RB.take i)).length) ∧ Hid (CS wr P BB (n : Int) (.slice (some ⟨g', 0, none⟩) U.length cap2) (.slice qa qn qc) U (RA ++ newR RA RB) qn) ∧ Below BB WW wr) (fun vi _ => RB.length - (intOf vi).toNat)
              case atStart => exact ⟨0, RA.length, q2a, q2c, Nat.zero_le _, rfl, (by show _ = _; simp [newR]), HC4.out, hb5⟩
              case round =>
                clear HC4 hb5
                obtain ⟨i, qn, qa, qc, hir, rfl, HQN, HC, hbr⟩ := hrel
                have hqn : qn ≤ 4000 := by
                  have h1 := HQN.out
                  have h2 := newR_le RA (RB.take i)
                  rw [List.length_take] at h2; omega
                have hszr := hbr.size
                by_cases hlt : i < RB.length
                · have dI : decide ((i : Int) < (RB.length : Int)) = true := by simp; omega
                  have hiI : (i : Int) < (RB.length : Int) := by omega
                  have hi0 : (0 : Int) ≤ (i : Int) := by omega
                  obtain ⟨rbb, rbo, rfl, cb, ccb, lbb, lfb, lcb, d1, d2, d3, rB1, rB2⟩ := HPB2.out i hlt
                  have HRI : Hid (RB[i] = qx RB i) := (qx_get hlt).symm
                  have hrbl : rbb < BB := by rw [hBBW]; exact World.block_lt_of_cell? _ _ d1
                  obtain ⟨sk1, sk2, sk3⟩ := HWB.out.recs i hlt
                  have HQX0 : Hid (RB[i] ∉ RA → qx (RA ++ newR RA RB) qn = RB[i]) := fun h => by rw [HQN.out]; exact newR_at hlt h
                  have HQI : Hid (RB[i] ∈ RA → qn = RA.length + (newR RA (RB.take (i + 1))).length) := fun h => by rw [newR_in hlt h]; exact HQN.out
                  have HQO : Hid (RB[i] ∉ RA → qn + 1 = RA.length + (newR RA (RB.take (i + 1))).length) := fun h => by rw [newR_out hlt h, List.length_append, HQN.out]; rfl
                  rw [HRI.out] at HQX0 HQI HQO
                  generalize qx RB i = s at *
                  have HD1 := hid (show rbb < BB ∧ WW.cell? ⟨rbb, rbo + i * 3, none⟩ = _ from ⟨hrbl, d1⟩)
                  have HD2 := hid (show rbb < BB ∧ WW.cell? ⟨rbb, rbo + i * 3 + 1, none⟩ = _ from ⟨hrbl, d2⟩)
                  have HD3 := hid (show rbb < BB ∧ WW.cell? ⟨rbb, rbo + i * 3 + 2, none⟩ = _ from ⟨hrbl, d3⟩)
                  have HR1 := hid rB1
                  have HR2 := hid rB2
                  have HCPR : Hid (∀ W' : World, Below WW.heap.size WW W' → Calls Tryz.prog 19 #[.agg #[.slice cb s.code.length ccb, .slice (some ⟨lbb, lfb, none⟩) s.looks.length lcb, .string s.out]] W' fun e w' => ∃ v, e = .returned v ∧ (Below W'.heap.size W' w' ∧ ∃ g1 p1 g2 p2, v = .agg #[.slice (some ⟨g1, 0, none⟩) s.code.length p1, .slice (some ⟨g2, 0, none⟩) s.looks.length p2, .string s.out] ∧ w'.ownsRow W'.heap.size 98 3 (.slice (some ⟨g1, 0, none⟩) s.code.length p1) s.code.length (insV s.code) ∧ w'.ownsRow W'.heap.size 90 3 (.slice (some ⟨g2, 0, none⟩) s.looks.length p2) s.looks.length (gloV s.looks))) := fun W' hW' => by
                    refine (l4Record_any cb ccb lbb lfb lcb s.code s.looks s.out W' (HR1.out.below hW') (HR2.out.below hW') sk1 sk2 sk3).mono ?_
                    rintro e w' ⟨hb, g1, p1, g2, p2, rfl, h1, h2⟩
                    exact ⟨_, rfl, hb, g1, p1, g2, p2, rfl, h1, h2⟩
                  have c1 := cell_belowB hbr HB2.out
                  clear d1 d2 d3 rB1 rB2 HQN
                  go_wp2_with fail
                  clear c1
                  go_loopw [10, 11] (fun vt vk wr => ∃ (k : Nat) (t : Bool), k ≤ RA.length ∧ vt = .bool t ∧ vk = .int .i64 k ∧ Hid (t = true ↔ ∃ j, j < k ∧ qx RA j = s) ∧ Hid (CS wr P BB (n : Int) (.slice (some ⟨g', 0, none⟩) U.length cap2) (.slice qa qn qc) U (RA ++ newR RA RB) qn) ∧ Below BB WW wr) (fun _ vk _ => RA.length - (intOf vk).toNat)
                  case atStart => exact ⟨0, false, Nat.zero_le _, rfl, rfl, ⟨fun h => (by cases h), fun ⟨j, hj, _⟩ => by omega⟩, HC.out, hbr⟩
                  case round =>
                    clear HC hbr hszr
                    obtain ⟨k, tt, hkr, rfl, rfl, HT, HC, hbr⟩ := hrel
                    have hszr := hbr.size
                    by_cases hlk : k < RA.length
                    · have dK : decide ((k : Int) < (RA.length : Int)) = true := by simp; omega
                      have hkI : (k : Int) < (RA.length : Int) := by omega
                      have hk0 : (0 : Int) ≤ (k : Int) := by omega
                      have c1 := cell_belowB hbr HA2.out
                      cases tt with
                      | true =>
                        have HT2 : Hid (true = true ↔ ∃ j, j < k + 1 ∧ qx RA j = s) := ⟨fun _ => by obtain ⟨j, h1, h2⟩ := HT.out.1 rfl; exact ⟨j, by omega, h2⟩, fun _ => rfl⟩
                        clear HT
                        go_wp2_with fail
                        go_quiet (fail)
                        have hbq : Below BB WW (wr.drewN nq) := below_drewN hbr nq
                        have HCq := hid (HC.out.below (below_drewN (Below.refl wr.heap.size wr) nq))
                        clear HC hbr c1
                        go_wp2
                        go_roundw
                        case rel => exact ⟨k + 1, true, by omega, rfl, by go_num, (by have h := HT2.out; exact ⟨fun _ => by simpa using h, fun _ => rfl⟩), HCq.out, hbq⟩
                        case measure => simp [intOf]; omega
                      | false =>
                        obtain ⟨rab, rao, rfl, ca, cca, la, lfa, lca, e1, e2, e3, rA1, rA2⟩ := HPA2.out k hlk
                        obtain ⟨sa1, sa2, sa3⟩ := HWA.out.recs k hlk
                        have HTK : Hid (∀ b : Bool, (b = true ↔ qx RA k = s) → (b = true ↔ ∃ j, j < k + 1 ∧ qx RA j = s)) := fun b hb => ⟨fun h => ⟨k, by omega, hb.1 h⟩, fun ⟨j, h1, h2⟩ => by
                          rcases Nat.lt_or_ge j k with h | h
                          · have := HT.out.2 ⟨j, h, h2⟩; cases this
                          · obtain rfl : j = k := by omega
                            exact hb.2 h2⟩
                        have hral : rab < BB := by rw [hBBW]; exact World.block_lt_of_cell? _ _ e1
                        generalize qx RA k = r at *
                        have c2 := cell_belowB hbr (show rab < BB ∧ WW.cell? ⟨rab, rao + k * 3, none⟩ = _ from ⟨hral, e1⟩)
                        have c3 := cell_belowB hbr (show rab < BB ∧ WW.cell? ⟨rab, rao + k * 3 + 1, none⟩ = _ from ⟨hral, e2⟩)
                        have c4 := cell_belowB hbr (show rab < BB ∧ WW.cell? ⟨rab, rao + k * 3 + 2, none⟩ = _ from ⟨hral, e3⟩)
                        have c5 := cell_belowB hbr HB2.out
                        have c6 := cell_belowB hbr HD1.out
                        have c7 := cell_belowB hbr HD2.out
                        have c8 := cell_belowB hbr HD3.out
                        have hbD : Below wr.heap.size wr wr.drew := (Below.refl _ _).drew
                        have HL6 := hid (fun (W' : World) (hW' : Below WW.heap.size WW W') => l6Same_any ca cb (some ⟨la, lfa, none⟩) (some ⟨lbb, lfb, none⟩) cca ccb lca lcb r s W' (rA1.below hW') (HR1.out.below hW') (rA2.below hW') (HR2.out.below hW') sa2 sk2 sa3 sk3)
                        have hbrD : Below WW.heap.size WW wr.drew := hBBW ▸ hbr.drew
                        clear e1 e2 e3 HT rA1 rA2
                        go_wp2_with fail
                        go_region_held3 (fun w' => w'.cell? ⟨w.heap.size, 2, none⟩ = some (.slice (some ⟨rab, rao, none⟩) RA.length rc) ∧ w'.cell? ⟨rab, rao + k * 3, none⟩ = some (.slice ca r.code.length cca) ∧ w'.cell? ⟨rab, rao + k * 3 + 1, none⟩ = some (.slice (some ⟨la, lfa, none⟩) r.looks.length lca) ∧ w'.cell? ⟨rab, rao + k * 3 + 2, none⟩ = some (.string r.out) ∧ w'.cell? ⟨w.heap.size + 1, 2, none⟩ = some (.slice (some ⟨rbb, rbo, none⟩) RB.length rc') ∧ w'.cell? ⟨rbb, rbo + i * 3, none⟩ = some (.slice cb s.code.length ccb) ∧ w'.cell? ⟨rbb, rbo + i * 3 + 1, none⟩ = some (.slice (some ⟨lbb, lfb, none⟩) s.looks.length lcb) ∧ w'.cell? ⟨rbb, rbo + i * 3 + 2, none⟩ = some (.string s.out))
                          (first | assumption | (simp [*]; done) | (refine ⟨?_, ?_, ?_, ?_, ?_, ?_, ?_, ?_⟩ <;> exact cell_below hb2 (by simp [*])))
                          (first | (go_at_call 18; refine (HL6.out _ hbrD).mono ?_; rintro e w2 ⟨hb2, b, rfl, hb⟩))
                        all_goals
                          have HT2 := hid (HTK.out b hb)
                          have HC3 := hid (HC.out.below (hbD.trans (hb2.mono hbD.size)))
                          have hbr3 : Below BB WW w2 := hbr.trans ((hbD.trans (hb2.mono hbD.size)).mono (by omega))
                          clear c1 c2 c3 c4 c5 c6 c7 c8 HC hbr hbD hb2 hb HL6 hbrD HTK
                          go_wp2
                          go_roundw
                          case rel => exact ⟨k + 1, b, by omega, rfl, by go_num, HT2.out, HC3.out, hbr3⟩
                          case measure => simp [intOf]; omega
                    · have dK : decide ((k : Int) < (RA.length : Int)) = false := by simp; omega
                      obtain rfl : k = RA.length := by omega
                      have HIN : Hid (tt = true ↔ s ∈ RA) := HT.out.trans ⟨fun ⟨j, h1, h2⟩ => by rw [← h2, qx_get h1]; exact List.getElem_mem h1, fun h => by
                        obtain ⟨j, hj, e⟩ := List.mem_iff_getElem.1 h
                        exact ⟨j, hj, by rw [qx_get hj, e]⟩⟩
                      have c1 := cell_belowB hbr HA2.out
                      clear HT
                      cases tt with
                      | true =>
                        have HQ2 := hid (HQI.out (HIN.out.1 rfl))
                        go_wp2
                        clear c1
                        go_roundw
                        case rel => exact ⟨i + 1, qn, qa, qc, by omega, by go_num, HQ2.out, HC.out, hbr⟩
                        case measure => simp [intOf]; omega
                      | false =>
                        have hni : s ∉ RA := fun h => by have := HIN.out.2 h; cases this
                        have HQ2 := hid (HQO.out hni)
                        have HQX := hid (HQX0.out hni)
                        clear hni HIN
                        go_wp2_with fail
                        clear c1
                        refine Lt.begin 11 (fun w' => w'.cell? ⟨P, 2, none⟩ = some (.slice qa qn qc) ∧ w'.cell? ⟨w.heap.size + 1, 2, none⟩ = some (.slice (some ⟨rbb, rbo, none⟩) RB.length rc') ∧ w'.cell? ⟨rbb, rbo + i * 3, none⟩ = some (.slice cb s.code.length ccb) ∧ w'.cell? ⟨rbb, rbo + i * 3 + 1, none⟩ = some (.slice (some ⟨lbb, lfb, none⟩) s.looks.length lcb) ∧ w'.cell? ⟨rbb, rbo + i * 3 + 2, none⟩ = some (.string s.out)) (by kernel_rfl) ?_
                        obtain ⟨w3, e3⟩ : ∃ w3, w3 = wr.drew := ⟨_, rfl⟩
                        have hbr3 : Below BB WW w3 := e3 ▸ hbr.drew
                        have HC3 := hid (HC.out.below ((Below.refl _ _).drew))
                        rw [← e3] at HC3 ⊢
                        clear e3 HC
                        have hS0 : w3.cell? ⟨P, 2, none⟩ = some (.slice qa qn qc) ∧ w3.cell? ⟨w.heap.size + 1, 2, none⟩ = some (.slice (some ⟨rbb, rbo, none⟩) RB.length rc') ∧ w3.cell? ⟨rbb, rbo + i * 3, none⟩ = some (.slice cb s.code.length ccb) ∧ w3.cell? ⟨rbb, rbo + i * 3 + 1, none⟩ = some (.slice (some ⟨lbb, lfb, none⟩) s.looks.length lcb) ∧ w3.cell? ⟨rbb, rbo + i * 3 + 2, none⟩ = some (.string s.out) := ⟨HC3.out.cell.2.2, cell_belowB hbr3 HB2.out, cell_belowB hbr3 HD1.out, cell_belowB hbr3 HD2.out, cell_belowB hbr3 HD3.out⟩
                        have hsz3 := hbr3.size
                        refine Lt.take (i := 0) (oi := { dst := some 170, op := Op.fieldAddr 29 (Operand.tmp 5) 2, type := 0, pos := "l6_keep.go:95", after := #[], guard := none }) (v := ?_) rfl (by kernel_rfl) (by kernel_rfl) (by kernel_rfl) (by kernel_rfl) (fun _ _ _ h => h) hS0 (Or.inl ⟨by rfl, ?_⟩) ?_
                        rotate_left 1
                        · rintro w ⟨s1, s2, s3, s4, s5⟩
                          go_simp
                          first | done | with_reducible rfl
                        try simp only [Act.put, List.setIfInBounds_toArray, List.set_cons_zero, List.set_cons_succ]
                        refine Lt.take (i := 1) (oi := { dst := some 171, op := Op.load 27 (Operand.tmp 170), type := 27, pos := "l6_keep.go:95", after := #[{ on := 0, ground := Ground.data }], guard := none }) (v := ?_) rfl (by kernel_rfl) (by kernel_rfl) (by kernel_rfl) (by kernel_rfl) (fun _ _ _ h => h) hS0 (Or.inl ⟨by rfl, ?_⟩) ?_
                        rotate_left 1
                        · rintro w ⟨s1, s2, s3, s4, s5⟩
                          go_simp
                          first | done | with_reducible rfl
                        try simp only [Act.put, List.setIfInBounds_toArray, List.set_cons_zero, List.set_cons_succ]
                        refine Lt.take (i := 2) (oi := { dst := some 172, op := Op.fieldAddr 29 (Operand.tmp 3) 2, type := 0, pos := "l6_keep.go:95", after := #[], guard := none }) (v := ?_) rfl (by kernel_rfl) (by kernel_rfl) (by kernel_rfl) (by kernel_rfl) (fun _ _ _ h => h) hS0 (Or.inl ⟨by rfl, ?_⟩) ?_
                        rotate_left 1
                        · rintro w ⟨s1, s2, s3, s4, s5⟩
                          go_simp
                          first | done | with_reducible rfl
                        try simp only [Act.put, List.setIfInBounds_toArray, List.set_cons_zero, List.set_cons_succ]
                        refine Lt.take (i := 3) (oi := { dst := some 173, op := Op.load 27 (Operand.tmp 172), type := 27, pos := "l6_keep.go:95", after := #[{ on := 2, ground := Ground.data }], guard := none }) (v := ?_) rfl (by kernel_rfl) (by kernel_rfl) (by kernel_rfl) (by kernel_rfl) (fun _ _ _ h => h) hS0 (Or.inl ⟨by rfl, ?_⟩) ?_
                        rotate_left 1
                        · rintro w ⟨s1, s2, s3, s4, s5⟩
                          go_simp
                          first | done | with_reducible rfl
                        try simp only [Act.put, List.setIfInBounds_toArray, List.set_cons_zero, List.set_cons_succ]
                        refine Lt.take (i := 4) (oi := { dst := some 174, op := Op.move (Operand.tmp 9), type := 3, pos := "l6_keep.go:95", after := #[], guard := none }) (v := ?_) rfl (by kernel_rfl) (by kernel_rfl) (by kernel_rfl) (by kernel_rfl) (fun _ _ _ h => h) hS0 (Or.inl ⟨by rfl, ?_⟩) ?_
                        rotate_left 1
                        · rintro w ⟨s1, s2, s3, s4, s5⟩
                          go_simp
                          first | done | with_reducible rfl
                        try simp only [Act.put, List.setIfInBounds_toArray, List.set_cons_zero, List.set_cons_succ]
                        refine Lt.take (i := 5) (oi := { dst := some 175, op := Op.indexAddr 27 (Operand.tmp 173) (Operand.tmp 174), type := 0, pos := "l6_keep.go:95", after := #[{ on := 3, ground := Ground.data }, { on := 4, ground := Ground.data }], guard := none }) (v := ?_) rfl (by kernel_rfl) (by kernel_rfl) (by kernel_rfl) (by kernel_rfl) (fun _ _ _ h => h) hS0 (Or.inl ⟨by rfl, ?_⟩) ?_
                        rotate_left 1
                        · rintro w ⟨s1, s2, s3, s4, s5⟩
                          go_simp
                          first | done | with_reducible rfl
                        try simp only [Act.put, List.setIfInBounds_toArray, List.set_cons_zero, List.set_cons_succ]
                        refine Lt.take (i := 6) (oi := { dst := some 176, op := Op.load 50 (Operand.tmp 175), type := 50, pos := "l6_keep.go:95", after := #[{ on := 5, ground := Ground.data }], guard := none }) (v := ?_) rfl (by kernel_rfl) (by kernel_rfl) (by kernel_rfl) (by kernel_rfl) (fun _ _ _ h => h) hS0 (Or.inl ⟨by rfl, ?_⟩) ?_
                        rotate_left 1
                        · rintro w ⟨s1, s2, s3, s4, s5⟩
                          go_simp
                          first | done | with_reducible rfl
                        try simp only [Act.put, List.setIfInBounds_toArray, List.set_cons_zero, List.set_cons_succ]
                        refine Lt.step (i := 7) (o := { dst := some 177, op := Op.call { callee := Callee.value (Operand.func 19), args := #[Operand.tmp 176], argTypes := #[50] }, type := 50, pos := "l6_keep.go:95", after := #[{ on := 6, ground := Ground.data }], guard := none }) (by kernel_rfl) rfl (fun K hK => ?_)
                        refine step_call1 (f := 19) rfl rfl (.agg #[.slice cb s.code.length ccb, .slice (some ⟨lbb, lfb, none⟩) s.looks.length lcb, .string s.out]) rfl (HCPR.out w3 (hBBW ▸ hbr3)) (fun W => by simp [go_sem]) ?_
                        rintro v w6 ⟨hb6, gc, cpc, gd, cpd, rfl, hoc, hod⟩
                        have hb7 : Below BB WW w6 := hbr3.trans (hb6.mono (by omega))
                        have HC6 := hid (HC3.out.below hb6)
                        refine hK.out _ _ (fun _ => ⟨HC6.out.cell.2.2, cell_belowB hb7 HB2.out, cell_belowB hb7 HD1.out, cell_belowB hb7 HD2.out, cell_belowB hb7 HD3.out⟩) (fun _ => ?_)
                        clear hK K hS0
                        try simp only [Act.put, List.setIfInBounds_toArray, List.set_cons_zero, List.set_cons_succ]
                        refine Lt.step (i := 8) (o := { dst := some 178, op := Op.buildSlice 27 1 #[(0, Operand.tmp 177)], type := 27, pos := "l6_keep.go:95", after := #[{ on := 7, ground := Ground.data }], guard := none }) (by kernel_rfl) rfl (fun K hK => ?_)
                        go_simp
                        have hb8 : Below w6.heap.size w6 (w6.alloc (.cells #[.slice (some ⟨gc, 0, none⟩) s.code.length cpc, .slice (some ⟨gd, 0, none⟩) s.looks.length cpd, .string s.out] 50)) := (Below.refl _ _).alloc (Nat.le_refl _) _
                        have hb9 := hb7.trans (hb8.mono (by have := hb7.size; omega))
                        have HC8 := hid (HC6.out.below hb8)
                        refine hK.out _ _ (fun _ => ⟨HC8.out.cell.2.2, cell_belowB hb9 HB2.out, cell_belowB hb9 HD1.out, cell_belowB hb9 HD2.out, cell_belowB hb9 HD3.out⟩) (fun _ => ?_)
                        clear hK K
                        obtain ⟨ys, cv, lv, hys, hpt⟩ := HC3.out.t
                        have HYS := hid hys
                        have HPT := hid hpt
                        have h38 : Below w3.heap.size w3 (w6.alloc (.cells #[.slice (some ⟨gc, 0, none⟩) s.code.length cpc, .slice (some ⟨gd, 0, none⟩) s.looks.length cpd, .string s.out] 50)) := hb6.trans (hb8.mono hb6.size)
                        clear hys hpt
                        try simp only [Act.put, List.setIfInBounds_toArray, List.set_cons_zero, List.set_cons_succ]
                        refine Lt.step (i := 9) (o := { dst := some 179, op := Op.call { callee := Callee.builtin Builtin.append, args := #[Operand.tmp 171, Operand.tmp 178], argTypes := #[27, 27] }, type := 27, pos := "l6_keep.go:95", after := #[{ on := 1, ground := Ground.data }, { on := 8, ground := Ground.data }, { on := 7, ground := Ground.chain }], guard := none }) (by kernel_rfl) rfl (fun K hK => ?_)
                        refine step_appQ rfl (by rfl) BB (.slice qa qn qc) qn ys (by rfl) (ownsRow_below HYS.out h38) w6.heap.size (.slice (some ⟨gc, 0, none⟩) s.code.length cpc) (.slice (some ⟨gd, 0, none⟩) s.looks.length cpd) s.out rfl rfl (by rfl) (heapW_new _ _) (by have := h38.size; omega) (by omega) ?_
                        intro g3 cap3 w7 hown7 hgrow
                        have HNP : Hid (CS (w7.setCell ⟨P, 2, none⟩ (.slice (some ⟨g3, 0, none⟩) (qn + 1) cap3)) P BB (n : Int) (.slice (some ⟨g', 0, none⟩) U.length cap2) (.slice (some ⟨g3, 0, none⟩) (qn + 1) cap3) U (RA ++ newR RA RB) (qn + 1)) := CS.put HC3.out h38 (by omega) HYS.out HPT.out (by rw [HQX.out]; exact (own_base hoc (Nat.le_refl _)).alloc _) (by rw [HQX.out]; exact insV_filled _) (by rw [HQX.out]; exact (own_base hod (Nat.le_refl _)).alloc _) (by rw [HQX.out]; exact gloV_filled _) ⟨_, _, by rw [HQX.out]⟩ hgrow (by rw [HQX.out]; exact hown7)
                        have hb10 : Below BB WW w7 := hb9.grown hgrow (by have := hb9.size; omega) (fun k hk => (HYS.out.lt k hk).1)
                        have hP7 : w7.heap[P]? = some (.cells #[.int .i64 (n : Int), .slice (some ⟨g', 0, none⟩) U.length cap2, .slice qa qn qc] 29 (0, 0)) := by
                          rw [hgrow.block P (blkW_lt HC8.out.blk) (fun e => HasT.ne (T := 29) ⟨_, HC8.out.blk⟩ (ownsRow_below HYS.out h38) (by decide) e.symm)]; exact HC8.out.blk
                        have n2 : w7.cell? ⟨P, 2, none⟩ = some (.slice qa qn qc) := (blk_c3 hP7).2.2
                        have nf2 : w7.frozen? ⟨P, 2, none⟩ = false := Lib.frozen_of_heap hP7 2
                        refine hK.out _ _ (fun _ => ⟨n2, cell_belowB hb10 HB2.out, cell_belowB hb10 HD1.out, cell_belowB hb10 HD2.out, cell_belowB hb10 HD3.out⟩) (fun hS9 => ?_)
                        replace hS9 := hS9 (by decide)
                        clear hK K hown7 hgrow hP7 HC8 HC6 HC3 HYS HPT hb6 hb7 hb8 hb9 h38 hoc hod
                        try simp only [Act.put, List.setIfInBounds_toArray, List.set_cons_zero, List.set_cons_succ]
                        refine Lt.take (i := 10) (oi := { dst := some 180, op := Op.fieldAddr 29 (Operand.tmp 5) 2, type := 0, pos := "l6_keep.go:95", after := #[{ on := 0, ground := Ground.phase }, { on := 1, ground := Ground.phase }, { on := 2, ground := Ground.phase }, { on := 3, ground := Ground.phase }, { on := 4, ground := Ground.phase }, { on := 5, ground := Ground.phase }, { on := 6, ground := Ground.phase }, { on := 7, ground := Ground.phase }, { on := 8, ground := Ground.phase }, { on := 9, ground := Ground.phase }], guard := none }) (v := ?_) rfl (by kernel_rfl) (by kernel_rfl) (by kernel_rfl) (by kernel_rfl) (fun _ _ _ h => h) hS9 (Or.inl ⟨by rfl, ?_⟩) ?_
                        rotate_left 1
                        · rintro w ⟨s1, s2, s3, s4, s5⟩
                          go_simp
                          first | done | with_reducible rfl
                        try simp only [Act.put, List.setIfInBounds_toArray, List.set_cons_zero, List.set_cons_succ]
                        refine Lt.step (i := 11) (o := { dst := none, op := Op.store 27 (Operand.tmp 180) (Operand.tmp 179), type := 0, pos := "l6_keep.go:95", after := #[{ on := 10, ground := Ground.data }, { on := 9, ground := Ground.data }, { on := 9, ground := Ground.chain }, { on := 0, ground := Ground.phase }, { on := 1, ground := Ground.phase }, { on := 2, ground := Ground.phase }, { on := 3, ground := Ground.phase }, { on := 4, ground := Ground.phase }, { on := 5, ground := Ground.phase }, { on := 6, ground := Ground.phase }, { on := 7, ground := Ground.phase }, { on := 8, ground := Ground.phase }, { on := 9, ground := Ground.phase }], guard := none }) (by kernel_rfl) rfl (fun K hK => ?_)
                        go_simp
                        refine hK.out _ _ (fun h => absurd rfl h) (fun _ => ?_)
                        clear hK K hS9
                        refine Lt.done (by kernel_rfl) ?_ _
                        have hb11 : Below BB WW (w7.setCell ⟨P, 2, none⟩ (.slice (some ⟨g3, 0, none⟩) (qn + 1) cap3)) := hb10.setCell (p := ⟨P, 2, none⟩) hPB _
                        clear n2 nf2 hb10
                        go_wp2
                        go_roundw
                        case rel => exact ⟨i + 1, qn + 1, _, _, by omega, by go_num, HQ2.out, HNP.out, hb11⟩
                        case measure => simp [intOf]; omega
                · have dI : decide ((i : Int) < (RB.length : Int)) = false := by simp; omega
                  obtain rfl : i = RB.length := by omega
                  have hfull : qn = (RA ++ newR RA RB).length := by rw [HQN.out, List.take_length, List.length_append]
                  have HF := hid hfull
                  have c1 := cell_belowB hbr HB2.out
                  obtain ⟨x0, x1, x2⟩ := HC.out.cell
                  clear hfull HQN
                  by_cases h2000 : 2000 < qn
                  · have dQ : decide ((2000 : Int) < (qn : Int)) = true := by simp; omega
                    have HMP : Hid (MgP (n : Int) A RA (n : Int) B RB 3 0 [] [] ⟨#[]⟩ ⟨#[]⟩) := Or.inr ⟨⟨HWA.out, HWB.out, rfl⟩, Or.inr ⟨HNO.out, rfl, rfl, U, HUNI.out, Or.inl ⟨Or.inr (by rw [← HF.out]; exact h2000), rfl, rfl, rfl, rfl⟩⟩⟩
                    have hKb := (hbr.block (w.heap.size + 2) hKl).trans HKK.out
                    obtain ⟨k0, k1, k2, k3, k4, k5⟩ := blk_c6 hKb
                    have kf := fun j => Lib.frozen_of_heap hKb j
                    have hbF := HBW.out.trans (hbr.mono (by have := HBW.out.size; omega))
                    clear hKb
                    go_wp2_with fail
                    exact bodyPost_ret (v := .agg #[.int .i64 3, .int .i64 0, .slice none 0 0, .slice none 0 0, .string ⟨#[]⟩, .string ⟨#[]⟩]) (by simp [results, Tryz.results5, go_sem, k0, k1, k2, k3, k4, k5]) rfl ⟨below_set6P hbF (by omega) _ _ _ _ _ _, KmOut.zero HMP.out⟩
                  · have dQ : decide ((2000 : Int) < (qn : Int)) = false := by simp; omega
                    have HMP : Hid (MgP (n : Int) A RA (n : Int) B RB 0 (n : Int) U (RA ++ newR RA RB) ⟨#[]⟩ ⟨#[]⟩) := Or.inr ⟨⟨HWA.out, HWB.out, rfl⟩, Or.inr ⟨HNO.out, rfl, rfl, U, HUNI.out, Or.inr ⟨fun h => by rw [← HF.out] at h; omega, rfl, rfl, rfl, rfl⟩⟩⟩
                    obtain ⟨o1, o2⟩ := HC.out.ownK HF.out (lo := BB) (hi := wr.heap.size) (Nat.le_refl _) (Nat.le_refl _)
                    have HO1 := hid o1
                    have HO2 := hid o2
                    have hKb := (hbr.block (w.heap.size + 2) hKl).trans HKK.out
                    obtain ⟨k0, k1, k2, k3, k4, k5⟩ := blk_c6 hKb
                    have kf := fun j => Lib.frozen_of_heap hKb j
                    have hbF := HBW.out.trans (hbr.mono (by have := HBW.out.size; omega))
                    have hwB : w.heap.size ≤ BB := by omega
                    clear hKb o1 o2 HC
                    go_wp2_with fail
                    exact bodyPost_ret (v := .agg #[.int .i64 0, .int .i64 (n : Int), .slice (some ⟨g', 0, none⟩) U.length cap2, .slice qa qn qc, .string ⟨#[]⟩, .string ⟨#[]⟩]) (by simp [results, Tryz.results5, go_sem, k0, k1, k2, k3, k4, k5]) rfl ⟨below_set6P hbF (by omega) _ _ _ _ _ _, KmOut.full HMP.out HO1.out HO2.out (show w.heap.size + 1 + 1 < BB by omega) hwB (Nat.le_refl _) _ _ _ _ _ _⟩
      · have hnn : (wn != wm) = true := by simpa using hnm
        have HM : Hid (MgP wn A RA wm B RB 1 0 [] [] ⟨#[]⟩ ⟨#[]⟩) := Or.inl ⟨fun h => hnm h.2.2, rfl, rfl, rfl, rfl, rfl, rfl⟩
        clear hvb hnm
        go_wp2_with fail
        exact bodyPost_ret (v := .agg #[.int .i64 1, .int .i64 0, .slice none 0 0, .slice none 0 0, .string ⟨#[]⟩, .string ⟨#[]⟩]) (by simp [results, Tryz.results5, go_sem, k0, k1, k2, k3, k4, k5]) rfl ⟨below_set6P hB2 (by omega) _ _ _ _ _ _, KmOut.zero HM.out⟩

end Go.Proofs.YtllhbgmadiclcaaGreatDoor
