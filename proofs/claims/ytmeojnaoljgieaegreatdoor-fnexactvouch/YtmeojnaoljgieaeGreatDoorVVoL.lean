import Derived.Test.YtmeojnaoljgieaeGreatDoorVVoW
namespace Go.Proofs.YtmeojnaoljgieaeGreatDoor
open Go.RowKit
set_option linter.unusedVariables false
set_option maxHeartbeats 8000000
set_option maxRecDepth 100000
theorem vouchLaw (n : Int) (ta ra a la : Option Addr) (tc rc cap lc : Nat) (ts : List ByteArray) (rs : List T3) (is : List I3) (gs : List G3) (out : ByteArray) (w : World) (hT : Tab w) (hP : P10 w) (h : SoOk w ta ts ra rs) (hr : RecOk w a is la gs out) :
    Calls Tryz.prog 4 #[.agg #[.int .i64 n, .slice ta ts.length tc, .slice ra rs.length rc], .agg #[.slice a is.length cap, .slice la gs.length lc, .string out]] w fun e w' => e = .returned (.bool true) /\ Below w.heap.size w w' := by
  obtain ⟨W, eW⟩ : ∃ W, ((w.alloc (.cells #[.int .i64 n, .slice ta ts.length tc, .slice ra rs.length rc] 44)).alloc (.cells #[.slice a is.length cap, .slice la gs.length lc, .string out] 50)) = W := ⟨_, rfl⟩
  have hb0 : Below w.heap.size w W := by rw [<- eW]; exact ((Below.refl _ _).alloc (Nat.le_refl _) _).alloc (by simp) _
  have c0 : W.cell? ⟨w.heap.size, 0, none⟩ = some (.int .i64 n) := by rw [<- eW]; simp [go_sem]
  have c1 : W.cell? ⟨w.heap.size, 1, none⟩ = some (.slice ta ts.length tc) := by rw [<- eW]; simp [go_sem]
  have c2 : W.cell? ⟨w.heap.size, 2, none⟩ = some (.slice ra rs.length rc) := by rw [<- eW]; simp [go_sem]
  have c3 : W.cell? ⟨w.heap.size + 1, 0, none⟩ = some (.slice a is.length cap) := by rw [<- eW]; simp [go_sem]
  have c4 : W.cell? ⟨w.heap.size + 1, 1, none⟩ = some (.slice la gs.length lc) := by rw [<- eW]; simp [go_sem]
  have c5 : W.cell? ⟨w.heap.size + 1, 2, none⟩ = some (.string out) := by rw [<- eW]; simp [go_sem]
  have HO : Hid (SoOk w ta ts ra rs) := h
  have HR : Hid (RecOk w a is la gs out) := hr
  have HT : Hid (Tab w) := hT
  have HP : Hid (P10 w) := hP
  clear h hr hT hP
  go_enter Tryz.func4, Tryz.ntmps4
  go_wp2_with fail
  clear eW
  refine (szStore_le n ta ra tc rc ts rs _ (HO.out.below hb0)).mono ?_
  rintro e w1 ⟨hb1, r, rfl, hr⟩
  have hB1 := bt hb0 hb1
  have d0 := cell_below hb1 c0
  have d1 := cell_below hb1 c1
  have d2 := cell_below hb1 c2
  have d3 := cell_below hb1 c3
  have d4 := cell_below hb1 c4
  have d5 := cell_below hb1 c5
  clear hb0 hb1 c0 c1 c2 c3 c4 c5
  rcases hr with hr | ⟨⟨hr0, hr9⟩, hl, hq⟩
  · go_wp2
    go_ret
    exact ⟨rfl, hB1⟩
  · have HQ : Hid (QsSmall rs) := hq
    clear hq
    go_wp2_with fail
    refine (szRecord_left a la cap lc is gs out r hr0 hr9 _ ⟨HR.out.rc.below hB1, HR.out.rg.below hB1, HR.out.lc, HR.out.lg, HR.out.xc, HR.out.ng, HR.out.sg, HR.out.so⟩).mono ?_
    rintro e w2 ⟨hb2, r2, rfl, hr2⟩
    have hB2 := bt hB1 hb2
    have e0 := cell_below hb2 d0
    have e1 := cell_below hb2 d1
    have e2 := cell_below hb2 d2
    have e3 := cell_below hb2 d3
    have e4 := cell_below hb2 d4
    have e5 := cell_below hb2 d5
    clear hb2 hB1 d0 d1 d2 d3 d4 d5
    rcases hr2 with hr2 | ⟨hli, hlg, hr20, hr21⟩
    · go_wp2
      go_ret
      exact ⟨rfl, hB2⟩
    · have HIN : Hid (∀ (V : World) (a a' : Option Addr), Strs V a ts -> RowQ V a' rs -> StIn V a ts a' rs) := fun V a a' h1 h2 => ⟨h1, hl, fun i => HO.out.xn i, h2, HO.out.ok, HQ.out⟩
      have HRI : Hid (∀ (V : World) (a a' : Option Addr), Row3 V a is -> RowG V a' gs -> RcIn V a is a' gs) := fun V a a' h1 h2 => ⟨h1, h2, hli, hlg, HR.out.xc, HR.out.ng, HR.out.sg⟩
      have hbd : Below w2.heap.size w2 w2.drew := (Below.refl _ _).drew
      go_wp2_with fail
      go_region_held3 (fun w' => (w'.cell? ⟨w.heap.size, 0, none⟩ = some (.int .i64 n) /\ w'.cell? ⟨w.heap.size, 1, none⟩ = some (.slice ta ts.length tc) /\ w'.cell? ⟨w.heap.size, 2, none⟩ = some (.slice ra rs.length rc)) /\ w'.cell? ⟨w.heap.size + 1, 0, none⟩ = some (.slice a is.length cap) /\ w'.cell? ⟨w.heap.size + 1, 1, none⟩ = some (.slice la gs.length lc) /\ w'.cell? ⟨w.heap.size + 1, 2, none⟩ = some (.string out))
        (first | exact ⟨⟨e0, e1, e2⟩, e3, e4, e5⟩ | exact ⟨⟨cell_below hB4 e0, cell_below hB4 e1, cell_below hB4 e2⟩, cell_below hB4 e3, cell_below hB4 e4, cell_below hB4 e5⟩ | exact ⟨⟨cell_below hB5 e0, cell_below hB5 e1, cell_below hB5 e2⟩, cell_below hB5 e3, cell_below hB5 e4, cell_below hB5 e5⟩ | exact ⟨⟨cell_below hB6 e0, cell_below hB6 e1, cell_below hB6 e2⟩, cell_below hB6 e3, cell_below hB6 e4, cell_below hB6 e5⟩ | assumption | (simp [*]; done))
        (first | (go_at_call 19; refine (toStore_any n ta ra tc rc ts rs _ ((HO.out.st.below hB2).below hbd) ((HO.out.rq.below hB2).below hbd) hl HQ.out).mono ?_; rintro e w4 ⟨hb4, g1, g2, rfl, hs4, hq4⟩; have hB4 := bt hbd hb4) | (go_at_call 20; refine (toRecord_any a la cap lc is gs out _ ((HR.out.rc.below hB2).below hB4) ((HR.out.rg.below hB2).below hB4) hli hlg).mono ?_; rintro e w5 ⟨hb5, g3, g4, rfl, hs5, hq5⟩; have hB5 := bt hB4 hb5) | (go_at_call 18; refine (specVouch_any n _ _ _ _ _ _ _ _ ts rs is gs out _ (HIN.out _ _ _ (hs4.below hb5) (hq4.below hb5)) (HRI.out _ _ _ hs5 hq5) HR.out.so).mono ?_; rintro e w6 ⟨hb6, v, rfl, hv⟩; have hB6 := bt hB5 hb6))
      all_goals
        have HV : Hid (VouO n ts rs is gs out v) := hv
        have HB6 : Hid (Below w.heap.size w w6) := bt hB2 hB6
        have f0 := cell_below hB6 e0
        have f1 := cell_below hB6 e1
        have f2 := cell_below hB6 e2
        have f3 := cell_below hB6 e3
        have f4 := cell_below hB6 e4
        have f5 := cell_below hB6 e5
        clear hbd hb4 hb5 hb6 hB4 hB5 hB6 hs4 hq4 hs5 hq5 hv hB2 e0 e1 e2 e3 e4 e5
        go_wp2_with fail
        refine (toStore_any n ta ra tc rc ts rs _ (HO.out.st.below HB6.out) (HO.out.rq.below HB6.out) hl HQ.out).mono ?_
        rintro e w7 ⟨hb7, g1, g2, rfl, hs7, hq7⟩
        have hb8 : Below w7.heap.size w7 (w7.alloc (.cells #[.int .i64 n, .slice (some ⟨g1, 0, none⟩) ts.length ts.length, .slice (some ⟨g2, 0, none⟩) rs.length rs.length] 56)) := (Below.refl _ _).alloc (Nat.le_refl _) _
        have HZ8 : Hid ((w7.alloc (.cells #[.int .i64 n, .slice (some ⟨g1, 0, none⟩) ts.length ts.length, .slice (some ⟨g2, 0, none⟩) rs.length rs.length] 56)).heap[w7.heap.size]? = some (.cells #[.int .i64 n, .slice (some ⟨g1, 0, none⟩) ts.length ts.length, .slice (some ⟨g2, 0, none⟩) rs.length rs.length] 56 (0, 0))) := heap_new _ _
        have hB8 := bt hb7 hb8
        have HB8 : Hid (Below w.heap.size w (w7.alloc (.cells #[.int .i64 n, .slice (some ⟨g1, 0, none⟩) ts.length ts.length, .slice (some ⟨g2, 0, none⟩) rs.length rs.length] 56))) := bt HB6.out hB8
        have HS8 : Hid (Strs (w7.alloc (.cells #[.int .i64 n, .slice (some ⟨g1, 0, none⟩) ts.length ts.length, .slice (some ⟨g2, 0, none⟩) rs.length rs.length] 56)) (some ⟨g1, 0, none⟩) ts) := hs7.below hb8
        have HQ8 : Hid (RowQ (w7.alloc (.cells #[.int .i64 n, .slice (some ⟨g1, 0, none⟩) ts.length ts.length, .slice (some ⟨g2, 0, none⟩) rs.length rs.length] 56)) (some ⟨g2, 0, none⟩) rs) := hq7.below hb8
        have h0 := cell_below hB8 f0
        have h1 := cell_below hB8 f1
        have h2 := cell_below hB8 f2
        have h3 := cell_below hB8 f3
        have h4 := cell_below hB8 f4
        have h5 := cell_below hB8 f5
        clear hb7 hb8 hB8 hs7 hq7 f0 f1 f2 f3 f4 f5
        go_wp2_with fail
        refine (toRecord_any a la cap lc is gs out _ (HR.out.rc.below HB8.out) (HR.out.rg.below HB8.out) hli hlg).mono ?_
        rintro e w9 ⟨hb9, g3, g4, rfl, hs9, hq9⟩
        obtain ⟨X, eX⟩ : ∃ X, w9.alloc (.cells #[.slice (some ⟨g3, 0, none⟩) is.length is.length, .slice (some ⟨g4, 0, none⟩) gs.length gs.length, .string out] 63) = X := ⟨_, rfl⟩
        have hb10 : Below w9.heap.size w9 X := by rw [<- eX]; exact (Below.refl _ _).alloc (Nat.le_refl _) _
        have HZX : Hid (X.heap[w7.heap.size]? = some (.cells #[.int .i64 n, .slice (some ⟨g1, 0, none⟩) ts.length ts.length, .slice (some ⟨g2, 0, none⟩) rs.length rs.length] 56 (0, 0))) := blk_keep hb10 (blk_keep hb9 HZ8.out)
        have HYX : Hid (X.heap[w9.heap.size]? = some (.cells #[.slice (some ⟨g3, 0, none⟩) is.length is.length, .slice (some ⟨g4, 0, none⟩) gs.length gs.length, .string out] 63 (0, 0))) := by show X.heap[w9.heap.size]? = _; rw [<- eX]; exact heap_new _ _
        have hBX := bt hb9 hb10
        have HBX : Hid (Below w.heap.size w X) := bt HB8.out hBX
        have HSX : Hid (Strs X (some ⟨g1, 0, none⟩) ts) := HS8.out.below hBX
        have HQX : Hid (RowQ X (some ⟨g2, 0, none⟩) rs) := HQ8.out.below hBX
        have HCX : Hid (Row3 X (some ⟨g3, 0, none⟩) is) := hs9.below hb10
        have HGX : Hid (RowG X (some ⟨g4, 0, none⟩) gs) := hq9.below hb10
        have k0 := cell_below hBX h0
        have k1 := cell_below hBX h1
        have k2 := cell_below hBX h2
        have k3 := cell_below hBX h3
        have k4 := cell_below hBX h4
        have k5 := cell_below hBX h5
        obtain ⟨z0, z1, z2, _⟩ := bk3 HZX.out
        obtain ⟨y0, y1, y2, _⟩ := bk3 HYX.out
        clear hb9 hb10 hBX hs9 hq9 h0 h1 h2 h3 h4 h5 HS8 HQ8 HZ8 HB8 HB6
        go_wp2_with fail
        clear eX
        refine (implVouch_any n _ _ _ _ _ _ _ _ ts rs is gs out _ (HT.out.below HBX.out) (HP.out.below HBX.out) (HIN.out _ _ _ HSX.out HQX.out) (HRI.out _ _ _ HCX.out HGX.out) HR.out.so).mono ?_
        rintro e w11 ⟨hb11, v', rfl, hv⟩
        obtain rfl := VouO.unique HV.out hv
        have HB11 : Hid (Below w.heap.size w w11) := bt HBX.out hb11
        have HS11 : Hid (Strs w11 (some ⟨g1, 0, none⟩) ts) := HSX.out.below hb11
        have HQ11 : Hid (RowQ w11 (some ⟨g2, 0, none⟩) rs) := HQX.out.below hb11
        have HC11 : Hid (Row3 w11 (some ⟨g3, 0, none⟩) is) := HCX.out.below hb11
        have HG11 : Hid (RowG w11 (some ⟨g4, 0, none⟩) gs) := HGX.out.below hb11
        have l0 := cell_below hb11 k0
        have l1 := cell_below hb11 k1
        have l2 := cell_below hb11 k2
        have l3 := cell_below hb11 k3
        have l4 := cell_below hb11 k4
        have l5 := cell_below hb11 k5
        have m0 := cell_below hb11 z0
        have m1 := cell_below hb11 z1
        have m2 := cell_below hb11 z2
        have m3 := cell_below hb11 y0
        have m4 := cell_below hb11 y1
        have m5 := cell_below hb11 y2
        clear hb11 hv z0 z1 z2 y0 y1 y2 k0 k1 k2 k3 k4 k5 HSX HQX HCX HGX HBX HZX HYX
        have hbd : Below w11.heap.size w11 w11.drew := (Below.refl _ _).drew
        go_wp2_with fail
        go_region_held3 (fun w' => (w'.cell? ⟨w7.heap.size, 0, none⟩ = some (.int .i64 n) /\ w'.cell? ⟨w7.heap.size, 1, none⟩ = some (.slice (some ⟨g1, 0, none⟩) ts.length ts.length) /\ w'.cell? ⟨w7.heap.size, 2, none⟩ = some (.slice (some ⟨g2, 0, none⟩) rs.length rs.length)) /\ (w'.cell? ⟨w.heap.size, 0, none⟩ = some (.int .i64 n) /\ w'.cell? ⟨w.heap.size, 1, none⟩ = some (.slice ta ts.length tc) /\ w'.cell? ⟨w.heap.size, 2, none⟩ = some (.slice ra rs.length rc)))
          (first | assumption | exact ⟨⟨cell_below hb12 m0, cell_below hb12 m1, cell_below hb12 m2⟩, cell_below hb12 l0, cell_below hb12 l1, cell_below hb12 l2⟩ | exact ⟨⟨cell_below hb13 (cell_below hb12 m0), cell_below hb13 (cell_below hb12 m1), cell_below hb13 (cell_below hb12 m2)⟩, cell_below hb13 (cell_below hb12 l0), cell_below hb13 (cell_below hb12 l1), cell_below hb13 (cell_below hb12 l2)⟩ | (simp [*]; done))
          (first | (go_at_call 19; refine (toStore_any n ta ra tc rc ts rs _ ((HO.out.st.below HB11.out).below hbd) ((HO.out.rq.below HB11.out).below hbd) hl HQ.out).mono ?_; rintro e w12 ⟨hb12, g5, g6, rfl, hs12, hq12⟩) | (go_at_call 22; refine (eqStore_same n _ _ _ _ _ _ _ _ ts rs _ (HS11.out.below (bt hbd hb12)) hs12 (HQ11.out.below (bt hbd hb12)) hq12 hl HQ.out).mono ?_; rintro e w13 ⟨hb13, rfl⟩))
        all_goals
          have hB13 := bt (bt hbd hb12) hb13
          have HB13 : Hid (Below w.heap.size w w13) := bt HB11.out hB13
          have HC13 : Hid (Row3 w13 (some ⟨g3, 0, none⟩) is) := HC11.out.below hB13
          have HG13 : Hid (RowG w13 (some ⟨g4, 0, none⟩) gs) := HG11.out.below hB13
          have o3 := cell_below hB13 l3
          have o4 := cell_below hB13 l4
          have o5 := cell_below hB13 l5
          have q3 := cell_below hB13 m3
          have q4 := cell_below hB13 m4
          have q5 := cell_below hB13 m5
          clear hbd hb12 hb13 hB13 hs12 hq12 l0 l1 l2 l3 l4 l5 m0 m1 m2 m3 m4 m5 HS11 HQ11 HC11 HG11 HB11
          have hbd : Below w13.heap.size w13 w13.drew := (Below.refl _ _).drew
          go_wp2_with fail
          go_region_held3 (fun w' => (w'.cell? ⟨w9.heap.size, 0, none⟩ = some (.slice (some ⟨g3, 0, none⟩) is.length is.length) /\ w'.cell? ⟨w9.heap.size, 1, none⟩ = some (.slice (some ⟨g4, 0, none⟩) gs.length gs.length) /\ w'.cell? ⟨w9.heap.size, 2, none⟩ = some (.string out)) /\ (w'.cell? ⟨w.heap.size + 1, 0, none⟩ = some (.slice a is.length cap) /\ w'.cell? ⟨w.heap.size + 1, 1, none⟩ = some (.slice la gs.length lc) /\ w'.cell? ⟨w.heap.size + 1, 2, none⟩ = some (.string out)))
            (first | assumption | exact ⟨⟨cell_below hb14 q3, cell_below hb14 q4, cell_below hb14 q5⟩, cell_below hb14 o3, cell_below hb14 o4, cell_below hb14 o5⟩ | exact ⟨⟨cell_below hb15 (cell_below hb14 q3), cell_below hb15 (cell_below hb14 q4), cell_below hb15 (cell_below hb14 q5)⟩, cell_below hb15 (cell_below hb14 o3), cell_below hb15 (cell_below hb14 o4), cell_below hb15 (cell_below hb14 o5)⟩ | (simp [*]; done))
            (first | (go_at_call 20; refine (toRecord_any a la cap lc is gs out _ ((HR.out.rc.below HB13.out).below hbd) ((HR.out.rg.below HB13.out).below hbd) hli hlg).mono ?_; rintro e w14 ⟨hb14, g5, g6, rfl, hs14, hq14⟩) | (go_at_call 23; refine (eqRecord_same _ _ _ _ _ _ _ _ is gs out _ (HC13.out.below (bt hbd hb14)) hs14 (HG13.out.below (bt hbd hb14)) hq14 hli hlg).mono ?_; rintro e w15 ⟨hb15, rfl⟩))
          all_goals
            go_wp2
            go_ret
            exact ⟨rfl, bt HB13.out (bt (bt hbd hb14) hb15)⟩
end Go.Proofs.YtmeojnaoljgieaeGreatDoor
