import Derived.Test.YtllhbgmadiclcaaGreatDoorMgR
import Derived.WalkSmall
namespace Go.Proofs.YtllhbgmadiclcaaGreatDoor
open Go.RowKit Go.Deep
set_option linter.unusedVariables false
attribute [local go_sem] Oper.semAt_some

theorem retM {n : Nat} {P : Program} {fn : Func} {R : Ending → World → Prop} {a : Act} {w : World} {v : Value} (hr : (results fn a.tmps).run P w = .ok v w) (hd : a.defers = []) (hR : R (.returned v) w) : bodyPostM Fence.wide n P fn R .ret a w := by
  obtain ⟨t, d⟩ := a
  subst hd
  exact ⟨v, hr, hR⟩
theorem retM1 {n D : Nat} {P : Program} {fn : Func} {R : Ending → World → Prop} {t : Array Value} {w w' : World} {v : Value} (hk : (Instr.takeDeferred D).run P w = .ok [] w') (hr : (results fn t).run P w' = .ok v w') (hR : R (.returned v) w') : bodyPostM Fence.wide n P fn R .ret { tmps := t, defers := [{ target := .collected D, args := #[] }] } w :=
  ⟨by simp, .inl ⟨_, _, rfl, hk, ⟨v, hr, hR⟩⟩⟩

set_option maxRecDepth 100000 in
set_option maxHeartbeats 16000000 in
theorem implMerge_any (wn wm : Int) (ab ao ac bb bo bc rc rc' : Nat) (ra rb : Option Addr) (A B : List ByteArray) (RA RB : List T3) (w : World) (hT : Tab w) (hA : StIn w (some ⟨ab, ao, none⟩) A ra RA) (pA : RowP w ra RA) (hB : StIn w (some ⟨bb, bo, none⟩) B rb RB) (lA : WdOk wn A RA → RowL w ra RA) (lB : WdOk wm B RB → RowL w rb RB) :
    Calls Tryz.prog 7 #[.agg #[.int .i64 wn, .slice (some ⟨ab, ao, none⟩) A.length ac, .slice ra RA.length rc], .agg #[.int .i64 wm, .slice (some ⟨bb, bo, none⟩) B.length bc, .slice rb RB.length rc']] w fun e w' => Below w.heap.size w w' ∧ KmOut w.heap.size w' e wn A RA wm B RB := by
  obtain ⟨W, eW⟩ : ∃ W, ((w.alloc (.cells #[.int .i64 wn, .slice (some ⟨ab, ao, none⟩) A.length ac, .slice ra RA.length rc] 29)).alloc (.cells #[.int .i64 wm, .slice (some ⟨bb, bo, none⟩) B.length bc, .slice rb RB.length rc'] 29)).alloc (.cells #[.int .i64 0, .int .i64 0, .slice none 0 0, .slice none 0 0, .string ⟨#[]⟩, .string ⟨#[]⟩] 31) = W := ⟨_, rfl⟩
  have hbW : Below w.heap.size w W := eW ▸ (((Below.refl _ _).alloc (Nat.le_refl _) _).alloc (by simp) _).alloc (by simp; omega) _
  have hWs : W.heap.size = w.heap.size + 3 := by rw [← eW]; simp
  have HWS := hid hWs
  obtain ⟨a0, a1, a2⟩ : W.cell? ⟨w.heap.size, 0, none⟩ = some (.int .i64 wn) ∧ W.cell? ⟨w.heap.size, 1, none⟩ = some (.slice (some ⟨ab, ao, none⟩) A.length ac) ∧ W.cell? ⟨w.heap.size, 2, none⟩ = some (.slice ra RA.length rc) := by rw [← eW]; exact ⟨by simp [go_sem], by simp [go_sem], by simp [go_sem]⟩
  obtain ⟨b0, b1, b2⟩ : W.cell? ⟨w.heap.size + 1, 0, none⟩ = some (.int .i64 wm) ∧ W.cell? ⟨w.heap.size + 1, 1, none⟩ = some (.slice (some ⟨bb, bo, none⟩) B.length bc) ∧ W.cell? ⟨w.heap.size + 1, 2, none⟩ = some (.slice rb RB.length rc') := by rw [← eW]; exact ⟨by simp [go_sem], by simp [go_sem], by simp [go_sem]⟩
  have hK0 : W.heap[w.heap.size + 2]? = some (.cells #[.int .i64 0, .int .i64 0, .slice none 0 0, .slice none 0 0, .string ⟨#[]⟩, .string ⟨#[]⟩] 31 (0, 0)) := by
    have h := heapW_new ((w.alloc (.cells #[.int .i64 wn, .slice (some ⟨ab, ao, none⟩) A.length ac, .slice ra RA.length rc] 29)).alloc (.cells #[.int .i64 wm, .slice (some ⟨bb, bo, none⟩) B.length bc, .slice rb RB.length rc'] 29)) (.cells #[.int .i64 0, .int .i64 0, .slice none 0 0, .slice none 0 0, .string ⟨#[]⟩, .string ⟨#[]⟩] 31)
    rw [eW] at h
    simpa using h
  have HT := hid (hT.below hbW)
  have HA2 := hid a2
  have HB2 := hid b2
  have HB := hid (hB.below hbW)
  have HK0 := hid hK0
  have HLA := hid (fun h => (lA h).below hbW)
  have HLB := hid (fun h => (lB h).below hbW)
  have HSA := hid (shelfOf_any wn ab ao ac ra rc A RA W (hT.below hbW) (hA.below hbW) (pA.below hbW))
  clear hA hB pA hK0 hT lA lB
  refine (callsIn_wide (n := 3)).1 ?_
  refine callsIn_of_wp_marks Tryz.func7 rfl trivial ?_ rfl
  refine wpIn_wide.2 ?_
  simp only [Tryz.ntmps7, List.size_toArray, List.length_cons, List.length_nil, Nat.reduceAdd, Nat.reduceSub, Array.replicate_succ, Array.replicate_zero, List.push_toArray, List.append_toArray, List.nil_append, List.cons_append]
  go_wp2_with fail
  simp only [show w.heap.size + 1 + 1 = w.heap.size + 2 from rfl]
  clear eW
  refine HSA.out.mono ?_
  clear HSA
  rintro e w1 ⟨hb1, (⟨hno, rfl⟩ | ⟨hwa, g, g1, p1, sv, qv, rfl, hg, hsh⟩)⟩
  · have HM : Hid (MgP wn A RA wm B RB 1 0 [] [] ⟨#[]⟩ ⟨#[]⟩) := Or.inl ⟨fun h => hno h.1, rfl, rfl, rfl, rfl, rfl, rfl⟩
    go_upto_region 2 with fail
    obtain ⟨X, eX⟩ : ∃ X, w1.alloc (.cells #[.pointer none] 54) = X := ⟨_, rfl⟩
    rw [eX]
    have hbX : Below W.heap.size W X := by rw [← eX]; exact hb1.alloc hb1.size _
    obtain ⟨k0, k1, k2, k3, k4, k5⟩ := blk_c6 (blk_below HK0.out hbX)
    have kf := fun j => Lib.frozen_of_heap (blk_below HK0.out hbX) j
    have hB1 := hbW.trans (hbX.mono hbW.size)
    clear hno hb1 a0 a1 a2 b0 b1 b2 eX
    go_wp2_with fail
    exact retM (v := .agg #[.int .i64 1, .int .i64 0, .slice none 0 0, .slice none 0 0, .string ⟨#[]⟩, .string ⟨#[]⟩]) (by simp [results, Tryz.results7, go_sem, k0, k1, k2, k3, k4, k5]) rfl ⟨below_set6P hB1 (by omega) _ _ _ _ _ _, KmOut.zero HM.out⟩
  · go_upto_region 2 with fail
    obtain ⟨X, eX⟩ : ∃ X, w1.alloc (.cells #[.pointer (some ⟨g, 0, none⟩)] 54) = X := ⟨_, rfl⟩
    rw [eX]
    have hbX : Below W.heap.size W X := by rw [← eX]; exact hb1.alloc hb1.size _
    have hb1X : Below w1.heap.size w1 X := by rw [← eX]; exact (Below.refl _ _).alloc (Nat.le_refl _) _
    have hXs : X.heap.size = w1.heap.size + 1 := by rw [← eX]; simp
    have hPO : X.heap[w1.heap.size]? = some (.cells #[.pointer (some ⟨g, 0, none⟩)] 54 (0, 0)) := by rw [← eX]; exact heapW_new _ _
    obtain ⟨po, epo⟩ : ∃ po, w1.heap.size = po := ⟨_, rfl⟩
    rw [epo] at hPO hXs ⊢
    have hpoW : W.heap.size ≤ po := by rw [← epo]; exact hb1.size
    have HSH := hid (ShG.wide (ShG.below hsh hb1X) (Nat.le_refl _) hb1X.size)
    have hgX : g < po := by rw [← epo]; exact ShG.lt hsh
    have HVB := hid (implVStore_any wm (some ⟨bb, bo, none⟩) rb bc rc' B RB X (HT.out.below hbX) (HB.out.below hbX))
    have HPO := hid hPO
    have HBX := hid hbX
    replace a0 := cell_below hbX a0
    replace a1 := cell_below hbX a1
    replace a2 := cell_below hbX a2
    replace b0 := cell_below hbX b0
    replace b1 := cell_below hbX b1
    replace b2 := cell_below hbX b2
    have HWA := hid hwa
    clear eX hb1 hsh hb1X hPO hwa epo hbX
    go_wp2_with fail
    refine HVB.out.mono ?_
    clear HVB
    rintro e w2 ⟨hb2, vb, rfl, hvb⟩
    have hbW2 := HBX.out.trans (hb2.mono HBX.out.size)
    replace a0 := cell_below hb2 a0
    replace a1 := cell_below hb2 a1
    replace a2 := cell_below hb2 a2
    replace b0 := cell_below hb2 b0
    replace b1 := cell_below hb2 b1
    replace b2 := cell_below hb2 b2
    obtain ⟨k0, k1, k2, k3, k4, k5⟩ := blk_c6 (blk_below HK0.out hbW2)
    have kf := fun j => Lib.frozen_of_heap (blk_below HK0.out hbW2) j
    have hB2 := hbW.trans (hbW2.mono hbW.size)
    have HBW2 := hid hbW2
    have HPO2 := hid (blk_below HPO.out hb2)
    have HSH2 := hid (ShG.wide (ShG.below HSH.out hb2) (Nat.le_refl _) hb2.size)
    have hs2 := hb2.size
    clear hb2 hbW2 HPO HSH HBX
    cases vb with
    | false =>
      have HM : Hid (MgP wn A RA wm B RB 1 0 [] [] ⟨#[]⟩ ⟨#[]⟩) := Or.inl ⟨(fun h => by have := hvb.2 h.2.1; cases this), rfl, rfl, rfl, rfl, rfl, rfl⟩
      clear hvb a0 a1 a2 b0 b1 b2
      go_wp2_with fail
      exact retM (v := .agg #[.int .i64 1, .int .i64 0, .slice none 0 0, .slice none 0 0, .string ⟨#[]⟩, .string ⟨#[]⟩]) (by simp [results, Tryz.results7, go_sem, k0, k1, k2, k3, k4, k5]) rfl ⟨below_set6P hB2 (by omega) _ _ _ _ _ _, KmOut.zero HM.out⟩
    | true =>
      have hwb := hvb.1 rfl
      clear hvb
      by_cases hnm : wn = wm
      · subst hnm
        obtain ⟨n, rfl⟩ := Int.eq_ofNat_of_zero_le (show 0 ≤ wn by have := HWA.out.1; omega)
        have hnn : ((n : Int) != (n : Int)) = false := by simp
        have h1 : 1 ≤ n := by have := HWA.out.1; omega
        have h8 : n ≤ 8 := by have := HWA.out.2.1; omega
        have HWB := hid hwb
        have HSA : Hid (So (sumB n) A) := HWA.out.so
        have HSB : Hid (So (sumB n) B) := HWB.out.so
        have hAl : A.length ≤ 5000 := HWA.out.2.2.1.1
        have hBl : B.length ≤ 5000 := HWB.out.2.2.1.1
        have HXB : Hid (∀ i, i < B.length → (nx B i).size ≤ 2002) := HWB.out.2.2.1.2.1
        have hRAl : RA.length ≤ 2000 := HWA.out.2.2.2.1
        have hRBl : RB.length ≤ 2000 := HWB.out.2.2.2.1
        have HP0 := hid (PutAt.start (B := B) HSA.out hAl)
        clear hwb k0 k1 k2 k3 k4 k5 kf
        have HS0 : Hid (ShO w2 g W.heap.size w2.heap.size n sv (.slice (some ⟨g1, 0, none⟩) A.length p1) qv A RA) := by
          have h := HSH2.out
          simp only [Int.toNat_natCast] at h
          exact h
        clear HSH2
        have HGP := hid hgX
        have HGL := hid hg
        go_wp2
        go_loopw [7, 36] (fun f i wr => ∃ (k : Nat) (full : Bool) (L : List ByteArray) (sv : Value) (g1 p1 : Nat), k ≤ B.length ∧ i = .int .i64 k ∧ f = .bool full ∧ Hid (PutAt (sumB n) A B k full L) ∧ Hid (ShO wr g W.heap.size wr.heap.size n sv (.slice (some ⟨g1, 0, none⟩) L.length p1) qv L RA) ∧ Hid (wr.heap[po]? = some (.cells #[.pointer (some ⟨g, 0, none⟩)] 54 (0, 0))) ∧ Hid (Below W.heap.size W wr)) (fun _ i _ => B.length - (intOf i).toNat)
        case atStart => exact ⟨0, false, A, sv, g1, p1, Nat.zero_le _, rfl, rfl, HP0, HS0, HPO2, HBW2⟩
        case round =>
          obtain ⟨k, full, L, sv, g1, p1, hk, rfl, rfl, HPA, HSR, HPR, HBR⟩ := hrel
          clear HP0 HS0 HPO2 HBW2 a0 a1 a2 b0 b1 b2
          by_cases hlt : k < B.length
          · have hkI : (k : Int) < (B.length : Int) := by omega
            obtain ⟨b', o', eb, cB⟩ := (HB.out.below HBR.out).st k hlt
            cases eb
            have cP : wr.cell? ⟨po, 0, none⟩ = some (.pointer (some ⟨g, 0, none⟩)) := by rw [Lib.cell_of_heap HPR.out]; rfl
            have HPUT := hid (put_any g W.heap.size wr.heap.size n g1 p1 sv qv L RA (nx B k) wr h1 h8 (by have := HXB.out k hlt; omega) HPA.out.le HPA.out.so.asc HGL.out (Nat.le_refl _) HSR.out)
            change wr.cell? _ = some (.string (nx B k)) at cB
            obtain ⟨y, ey⟩ : ∃ y, nx B k = y := ⟨_, rfl⟩
            rw [ey] at cB HPUT
            have HEY := hid ey
            clear ey
            go_wp2_with fail
            refine HPUT.out.mono ?_
            clear HPUT
            rintro e w3 ⟨r, cd, L', x, z, sv', g1', p1', rfl, hpl, hpr, hbl, hsh', hks, hsv, hg1⟩
            have hyk : y = B[k] := by rw [← HEY.out, nx_get hlt]
            rw [hyk] at hpl hpr
            have HST := hid (HPA.out.step HSB.out hlt hpl hpr)
            have hp3 : w3.heap[po]? = some (.cells #[.pointer (some ⟨g, 0, none⟩)] 54 (0, 0)) := by
              rw [hks po (Array.getElem?_eq_some_iff.1 HPR.out).1 (by have := HGP.out; omega) (HasT.ne (T := 54) ⟨_, HPR.out⟩ HSR.out.sx.own (by decide)) (fun e => HasT.ne (T := 54) ⟨_, HPR.out⟩ HSR.out.tx.own (by decide) (by rw [e]; rfl))]
              exact HPR.out
            have hB3 : Below W.heap.size W w3 := HBR.out.trans hbl
            obtain ⟨Z, eZ⟩ : ∃ Z, w3.alloc (.cells #[.int .i64 cd, .int .i64 0, .slice none 0 0, .slice none 0 0, .string x, .string z] 31) = Z := ⟨_, rfl⟩
            have hbZ : Below w3.heap.size w3 Z := by rw [← eZ]; exact (Below.refl _ _).alloc (Nat.le_refl _) _
            have hZ : Z.heap[w3.heap.size]? = some (.cells #[.int .i64 cd, .int .i64 0, .slice none 0 0, .slice none 0 0, .string x, .string z] 31 (0, 0)) := by rw [← eZ]; exact heapW_new _ _
            obtain ⟨z0, z1, z2, z3, z4, z5⟩ := blk_c6 hZ
            have HS3 := hid (ShG.wide (ShG.below hsh' hbZ) (Nat.le_refl _) hbZ.size)
            have HP3 := hid (blk_below hp3 hbZ)
            have HB3 : Hid (Below W.heap.size W Z) := hB3.trans (hbZ.mono hB3.size)
            obtain ⟨k0, k1, k2, k3, k4, k5⟩ := blk_c6 (blk_below HK0.out HB3.out)
            have kf := fun j => Lib.frozen_of_heap (blk_below HK0.out HB3.out) j
            clear hpl hpr hbl hsh' hks hsv hg1 hp3 hbZ hZ hyk HEY cB cP HSR HPR HBR
            rcases HST.out with ⟨rfl, hcl⟩ | ⟨hcd, hpa⟩
            · have HM : Hid (MgP (n : Int) A RA (n : Int) B RB 2 0 [] [] x z) := Or.inr ⟨⟨HWA.out, HWB.out, rfl⟩, Or.inl ⟨by rw [Int.toNat_natCast]; exact hcl, rfl, rfl, rfl, rfl⟩⟩
              have hB4 := hbW.trans (HB3.out.mono hbW.size)
              go_wp2_with fail
              exact retM (v := .agg #[.int .i64 2, .int .i64 0, .slice none 0 0, .slice none 0 0, .string x, .string z]) (by simp [results, Tryz.results7, go_sem, k0, k1, k2, k3, k4, k5]) rfl ⟨below_set6P hB4 (by omega) _ _ _ _ _ _, KmOut.zero HM.out⟩
            · have HPA2 := hid hpa
              clear hpa k0 k1 k2 k3 k4 k5 kf HPA HST
              rcases hcd with rfl | rfl <;> cases full
              · go_wp2
                go_roundw
                case rel => exact ⟨k + 1, false, L', sv', g1', p1', by omega, by go_num, rfl, by simpa using HPA2, HS3, HP3, HB3⟩
                case measure => simp [intOf]; omega
              · go_wp2
                go_roundw
                case rel => exact ⟨k + 1, true, L', sv', g1', p1', by omega, by go_num, rfl, by simpa using HPA2, HS3, HP3, HB3⟩
                case measure => simp [intOf]; omega
              · go_wp2
                go_roundw
                case rel => exact ⟨k + 1, true, L', sv', g1', p1', by omega, by go_num, rfl, by simpa using HPA2, HS3, HP3, HB3⟩
                case measure => simp [intOf]; omega
              · go_wp2
                go_roundw
                case rel => exact ⟨k + 1, true, L', sv', g1', p1', by omega, by go_num, rfl, by simpa using HPA2, HS3, HP3, HB3⟩
                case measure => simp [intOf]; omega
          · obtain rfl : k = B.length := by omega
            have hnl : ¬ ((B.length : Int) < (B.length : Int)) := by omega
            have a2 := cell_below HBR.out HA2.out
            have b2 := cell_below HBR.out HB2.out
            have HLI := hid (listed_any ra rc RA wr ((HLA.out HWA.out).below HBR.out) (by omega))
            have hsW := HBR.out.size
            go_wp2_with fail
            refine HLI.out.mono ?_
            clear HLI
            rintro e w4 ⟨m1, m2, mc, n1, n2, nc, f1, f2, fc, rep1, rep2, rfl, hm1, hm12, hm2c, hN1, hN2, hMc, hCI, hl1, hl2, hb4⟩
            have b2' := cell_below hb4 b2
            have HMSM : Hid (MSM RA fc m1 m2 0 w4) := ⟨n1, n2, f1, f2, rep1, rep2, hN1, hN2, hCI, by omega, by omega⟩
            obtain ⟨Y, eY⟩ : ∃ Y, w4.alloc (.cells #[.map (some m1), .map (some m2), .map (some mc)] 62) = Y := ⟨_, rfl⟩
            have hbY : Below w4.heap.size w4 Y := by rw [← eY]; exact (Below.refl _ _).alloc (Nat.le_refl _) _
            have hYs : Y.heap.size = w4.heap.size + 1 := by rw [← eY]; simp
            have hYb : Y.heap[w4.heap.size]? = some (.cells #[.map (some m1), .map (some m2), .map (some mc)] 62 (0, 0)) := by rw [← eY]; exact heapW_new _ _
            replace b2' := cell_below hbY b2'
            have hmcl := hMc.lt
            have HMC := hid hMc
            clear hN1 hN2 hCI hMc hl1 hl2 a2 b2
            go_wp2_with fail
            refine (those26 rb RB.length rc' w4.heap.size Y).mono ?_
            rintro e w5 ⟨rfl, hb5, hs5, hB1, hB2⟩
            have hb45 : Below w4.heap.size w4 w5 := hbY.trans (hb5.mono (by omega))
            have hbr5 : Below wr.heap.size wr w5 := hb4.trans (hb45.mono hb4.size)
            have hs4 := hb4.size
            have hBW5 : Below W.heap.size W w5 := HBR.out.trans (hbr5.mono HBR.out.size)
            have HMSM5 := hid (HMSM.out.same (hb45.block m1 (by omega)) (hb45.block m2 (by omega)))
            have HMC5 := hid (HMC.out.same (hb45.block mc hmcl))
            have hbp5 : w5.heap[w4.heap.size]? = some (.cells #[.map (some m1), .map (some m2), .map (some mc)] 62 (0, 0)) := (hb5.block _ (by omega)).trans hYb
            have hpo5 := blk_below HPR.out hbr5
            have hR5 := blk_below HK0.out hBW5
            have hsh5 := ShG.wide (ShG.below HSR.out hbr5) (Nat.le_refl _) hbr5.size
            have hgr := ShG.lt HSR.out
            obtain ⟨vals, hv⟩ := (HLB.out HWB.out).vals
            obtain ⟨bp, ebp⟩ : ∃ bp, w4.heap.size = bp := ⟨_, rfl⟩
            obtain ⟨Bl, eBl⟩ : ∃ Bl, Y.heap.size = Bl := ⟨_, rfl⟩
            rw [eBl] at hB1 hB2 hs5 hYs
            rw [ebp] at hbp5 hYs hB2
            obtain ⟨Bs, eBs⟩ : ∃ Bs, Bl + 1 = Bs := ⟨_, rfl⟩
            rw [eBs] at hB2
            simp only [eBl, eBs, ebp]
            have hMm1 : IsMap w5 m1 := by obtain ⟨_, _, _, _, _, _, q, _⟩ := HMSM5.out; exact q.map.isMap
            have hMm2 : IsMap w5 m2 := by obtain ⟨_, _, _, _, _, _, _, q, _⟩ := HMSM5.out; exact q.map.isMap
            have d1 : ¬ fixB W.heap.size mc bp Bl Bs m1 := by unfold fixB; omega
            have d2 : ¬ fixB W.heap.size mc bp Bl Bs m2 := by unfold fixB; omega
            have hstops := those_stops 2 W.heap.size m1 m2 mc bp Bl Bs nc rc' rb fc RA RB vals W w5 (by omega) rfl (fun k hk => hBW5.block k hk) hBW5.size hv d1 d2 (by omega) (by omega) (by omega) HMC5.out hbp5 (by rw [Lib.cell_of_heap hB1]; rfl) (by rw [Lib.cell_of_heap hB2]; rfl) HMSM5.out (by omega) (by omega)
            have hlt6 : ∀ k, fixB W.heap.size mc bp Bl Bs k ∨ k = m1 ∨ k = m2 → k < w5.heap.size := fun k hk => by unfold fixB at hk; omega
            have hfx : ∀ k, k = mc ∨ k = bp ∨ k = Bl ∨ k = Bs → k < w5.heap.size ∧ k ≠ g ∧ ∀ cs T fr, w5.heap[k]? = some (Obj.cells cs T fr) → T ≠ 50 := fun k hk => by
              refine ⟨by omega, by omega, fun cs T fr hc => ?_⟩
              rcases hk with rfl | rfl | rfl | rfl
              · exact (HMC5.out.notCells hc).elim
              · rw [hbp5] at hc; cases hc; decide
              · rw [hB1] at hc; cases hc; decide
              · rw [hB2] at hc; cases hc; decide
            have HI0 : Hid (IMg W.heap.size m1 m2 mc bp Bl Bs (w.heap.size + 2) po g n sv (.slice (some ⟨g1, 0, none⟩) L.length p1) (L.map (sumB n)) L RA RB W w5 [] w5) := ⟨hBW5, Nat.le_refl _, hR5, hpo5, ⟨qv, by simpa using hsh5⟩, hMm1, hMm2, fun _ _ => rfl⟩
            have sm1 : m1 < w5.heap.size := hMm1.lt
            have sm2 : m2 < w5.heap.size := hMm2.lt
            clear hb5 hb45 hbr5 hB1 hB2 hbp5 hpo5 hR5 hsh5 HSR HPR HMC5 HMSM5 HMC HMSM eBl eBs ebp hbY eY hYb b2' hMm1 hMm2
            go_wp2_with fail
            refine (wpIn_wide (n := 3)).1 ?_
            refine wpIn_rangeFunc_ownA rfl (by decide) (gf := 46) (lb := #[.pointer (some ⟨Bl, 0, none⟩), .pointer (some ⟨Bs, 0, none⟩)]) rfl trivial (enters_of Tryz.func46 (by kernel_rfl) rfl) hstops
              (fun h k => ⟨Nat.le_trans h.1 k.1, fun j hj => (k.2 j hj).trans (h.2 j hj)⟩)
              (fun W' l o o' hl h _ _ => ⟨by simp [World.putObj], fun k hk => World.putObj_heap_other (fun e => by have := hlt6 k hk; omega)⟩)
              (Below.refl _ _) (fun _ => rfl) (IMg W.heap.size m1 m2 mc bp Bl Bs (w.heap.size + 2) po g n sv (.slice (some ⟨g1, 0, none⟩) L.length p1) (L.map (sumB n)) L RA RB W w5) (fun _ _ _ => False)
              (fun s' W1 W2 row hs hg hr => hs.own hg hr hBW5.size (by omega) (by omega) (fun k hk => (hfx k hk).1))
              (fun _ _ _ _ _ hs _ _ => hs) (fun s' A1 A2 h t => h.tx t d1 d2 (fun k hk => (hfx k hk).1)) (fun _ _ _ _ h _ => h)
              (fun A1 A2 k o hk ho ht => (ht.keep.block k (Array.getElem?_eq_some_iff.1 ho).1 (by omega)).trans ho)
              HI0.out (AxM W.heap.size po g RB.length vals)
              (fun s' A1 A2 hs hb => ⟨hb.size, fun k hk => hb.block k (Nat.lt_of_lt_of_le (hlt6 k hk) hs.size)⟩)
              (fun x a' W' l o o' h hl ho => h.put hl ho) ?assign ?body ?done ?stop
            case assign =>
              rintro l pre x W' K hIW hK
              obtain ⟨qv', hs'⟩ := hIW.sh
              have hrw : ∀ b, qv'.ownBlock = some b → b < W'.heap.size := fun b e => by
                obtain ⟨xs, cv, lv, ho⟩ := hs'.qs
                exact (ho.row.own.lt b e).2
              unfold RV.agg
              gi_wp2
              refine hK _ _ ?_ ?_
              · exact (Below.refl _ _).alloc (Nat.le_refl _) _
              refine ⟨W'.heap.size, _, _, _, _, _, _, _, _, _, _, _, _, _, _, _, _, _, _, _, _, _, _, _, _, _, _, _, _, _, _, _, _, _, _, _, _, _, _, _, _, _, _, _, _, _, _, _, _, _, _, _, _, _, _, _, _, _, _, _, _, _, _, _, _, _, _, _, _, _, _, _, _, _, _, _, _, _, _, _, _, _, _, _, _, _, _, _, _, _, rfl, ?_, heapW_new _ _, qv', ?_, ?_⟩
              · have := hIW.size
                have := hBW5.size
                omega
              · exact cellW (blk_c4 hs'.blk).2.2.1
              · intro e
                have := hrw _ e
                omega
            case body =>
              intro l pre x a' W' hIW hax hlen
              exact AxM.body l _ pre x a' W' hIW hax hv rfl hBW5.size HGL.out (by omega) hfx
            case done =>
              intro D xs W' hD hxs hIW hDk
              obtain ⟨qv', hs'⟩ := hIW.sh
              rw [hxs, comI_all] at hs'
              obtain ⟨qa, qc, eqv, _⟩ := hs'.qs.sl
              subst eqv
              obtain ⟨g0, g1', g2, g3, gf⟩ := blk_c4 hs'.blk
              have hRB := hIW.R
              obtain ⟨k0, k1, k2, k3, k4, k5⟩ := blk_c6 hRB
              have kf := fun j => Lib.frozen_of_heap hIW.R j
              have cP : W'.cell? ⟨po, 0, none⟩ = some (.pointer (some ⟨g, 0, none⟩)) := by rw [Lib.cell_of_heap hIW.po]; rfl
              have hBW' : Below w.heap.size w W' := hbW.trans (hIW.bel.mono hbW.size)
              have HBW' := hid hBW'
              have HS' := hid hs'
              have HDK := hid hDk
              have hRD : w.heap.size + 2 < D := by have := hBW5.size; omega
              obtain ⟨pd1, pd2, pd3⟩ := HPA.out.done
              obtain ⟨U, hU⟩ := Uni.exists HSA.out HSB.out pd1
              have HMF : Hid (5000 < U.length ∨ 2000 < (RA ++ newR RA RB).length → MgP (n : Int) A RA (n : Int) B RB 3 0 [] [] ⟨#[]⟩ ⟨#[]⟩) := fun h => Or.inr ⟨⟨HWA.out, HWB.out, rfl⟩, Or.inr ⟨by rw [Int.toNat_natCast]; exact pd1, rfl, rfl, U, by rw [Int.toNat_natCast]; exact hU, Or.inl ⟨h, rfl, rfl, rfl, rfl⟩⟩⟩
              have HMO : Hid (full = false → ¬ 2000 < (RA ++ newR RA RB).length → MgP (n : Int) A RA (n : Int) B RB 0 (n : Int) L (RA ++ newR RA RB) ⟨#[]⟩ ⟨#[]⟩) := fun hf h => Or.inr ⟨⟨HWA.out, HWB.out, rfl⟩, Or.inr ⟨by rw [Int.toNat_natCast]; exact pd1, rfl, rfl, L, by rw [Int.toNat_natCast]; exact (pd2 hf).1, Or.inr ⟨fun q => by have := (pd2 hf).2; omega, rfl, rfl, rfl, rfl⟩⟩⟩
              have HFU : Hid (full = true → 5000 < U.length) := fun hf => pd3 hf U hU
              clear hstops hfx hlt6 HI0 pd1 pd2 pd3 hU hxs hs' hDk hIW hv HPA
              have HRB := hid hRB
              obtain ⟨N, hN⟩ : ∃ N, (RA ++ newR RA RB).length = N := ⟨_, rfl⟩
              rw [hN] at g2
              have HN := hid hN
              clear hN hRB
              cases full with
              | true =>
                go_wp2
                have hRB := HRB.out
                exact endM hRB HDK.out (by omega) (fun W2 h2 => by
                  obtain ⟨c0, c1, c2, c3, c4, c5⟩ := blk_c6 h2
                  simp [results, Tryz.results7, go_sem, c0, c1, c2, c3, c4, c5]) (fun W2 e2 h2 => ⟨below_putO (by rw [e2]; exact below_set6P HBW'.out (by omega) _ _ _ _ _ _) (by omega) _, KmOut.zero (HMF.out (Or.inl (HFU.out (by simp))))⟩)
              | false =>
                by_cases hbig : 2000 < N
                · have hbI : (2000 : Int) < (N : Int) := by omega
                  go_wp2
                  have hRB := HRB.out
                  exact endM hRB HDK.out (by omega) (fun W2 h2 => by
                    obtain ⟨c0, c1, c2, c3, c4, c5⟩ := blk_c6 h2
                    simp [results, Tryz.results7, go_sem, c0, c1, c2, c3, c4, c5]) (fun W2 e2 h2 => ⟨below_putO (by rw [e2]; exact below_set6P HBW'.out (by omega) _ _ _ _ _ _) (by omega) _, KmOut.zero (HMF.out (Or.inr (by rw [HN.out]; exact hbig)))⟩)
                · have hbI : ¬ (2000 : Int) < (N : Int) := by omega
                  go_wp2
                  have hRB := HRB.out
                  have hOX := HS'.out.tx
                  have hOQ : OwnQ W' W.heap.size W'.heap.size (.slice qa N qc) (RA ++ newR RA RB) := by rw [← HN.out]; exact HS'.out.qs
                  have hMG := HMO.out (by simp) (by rw [HN.out]; exact hbig)
                  exact endM hRB HDK.out (by omega) (fun W2 h2 => by
                    obtain ⟨c0, c1, c2, c3, c4, c5⟩ := blk_c6 h2
                    simp [results, Tryz.results7, go_sem, c0, c1, c2, c3, c4, c5]) (fun W2 e2 h2 => ⟨below_putO (by rw [e2]; exact below_set6P HBW'.out (by omega) _ _ _ _ _ _) (by omega) _, KmOut.put (by rw [e2]; exact KmOut.full hMG hOX hOQ (by omega) (by omega) (Nat.le_refl _) _ _ _ _ _ _) h2 rfl⟩)
            case stop =>
              intro D c pre W' _ _ h
              exact h.elim
      · have HM : Hid (MgP wn A RA wm B RB 1 0 [] [] ⟨#[]⟩ ⟨#[]⟩) := Or.inl ⟨fun h => hnm h.2.2, rfl, rfl, rfl, rfl, rfl, rfl⟩
        have hne : (wn != wm) = true := by simpa using hnm
        clear a1 a2 b1 b2
        go_wp2_with fail
        exact retM (v := .agg #[.int .i64 1, .int .i64 0, .slice none 0 0, .slice none 0 0, .string ⟨#[]⟩, .string ⟨#[]⟩]) (by simp [results, Tryz.results7, go_sem, k0, k1, k2, k3, k4, k5]) rfl ⟨below_set6P hB2 (by omega) _ _ _ _ _ _, KmOut.zero HM.out⟩
end Go.Proofs.YtllhbgmadiclcaaGreatDoor
