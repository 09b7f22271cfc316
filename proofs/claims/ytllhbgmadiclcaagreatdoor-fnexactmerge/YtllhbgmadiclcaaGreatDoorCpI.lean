import Derived.Test.YtllhbgmadiclcaaGreatDoorPxA
import Derived.Test.YtllhbgmadiclcaaGreatDoorCpC
namespace Go.Proofs.YtllhbgmadiclcaaGreatDoor
open Go.RowKit Go.Deep
set_option linter.unusedVariables false

theorem blk_c6 {w : World} {b T : Nat} {v1 v2 v3 v4 v5 v6 : Value} (h : w.heap[b]? = some (.cells #[v1, v2, v3, v4, v5, v6] T (0, 0))) : w.cell? ⟨b, 0, none⟩ = some v1 ∧ w.cell? ⟨b, 1, none⟩ = some v2 ∧ w.cell? ⟨b, 2, none⟩ = some v3 ∧ w.cell? ⟨b, 3, none⟩ = some v4 ∧ w.cell? ⟨b, 4, none⟩ = some v5 ∧ w.cell? ⟨b, 5, none⟩ = some v6 :=
  ⟨by rw [Lib.cell_of_heap h]; rfl, by rw [Lib.cell_of_heap h]; rfl, by rw [Lib.cell_of_heap h]; rfl, by rw [Lib.cell_of_heap h]; rfl, by rw [Lib.cell_of_heap h]; rfl, by rw [Lib.cell_of_heap h]; rfl⟩
theorem below_set6P {B R : Nat} {w w' : World} (h : Below B w w') (hR : B ≤ R) (u1 u2 u3 u4 u5 u6 : Value) : Below B w ((((((w'.setCell ⟨R, 0, none⟩ u1).setCell ⟨R, 1, none⟩ u2).setCell ⟨R, 2, none⟩ u3).setCell ⟨R, 3, none⟩ u4).setCell ⟨R, 4, none⟩ u5).setCell ⟨R, 5, none⟩ u6) :=
  (((((h.setCell (p := ⟨R, 0, none⟩) hR _).setCell (p := ⟨R, 1, none⟩) hR _).setCell (p := ⟨R, 2, none⟩) hR _).setCell (p := ⟨R, 3, none⟩) hR _).setCell (p := ⟨R, 4, none⟩) hR _).setCell (p := ⟨R, 5, none⟩) hR _
theorem OwnX.set6 {w : World} {lo hi R : Nat} {v : Value} {ts : List ByteArray} (h : OwnX w lo hi v ts) (hR : R < lo) (u1 u2 u3 u4 u5 u6 : Value) : OwnX ((((((w.setCell ⟨R, 0, none⟩ u1).setCell ⟨R, 1, none⟩ u2).setCell ⟨R, 2, none⟩ u3).setCell ⟨R, 3, none⟩ u4).setCell ⟨R, 4, none⟩ u5).setCell ⟨R, 5, none⟩ u6) lo hi v ts :=
  (((((h.set hR _).set hR _).set hR _).set hR _).set hR _).set hR _
theorem OwnQ.set6 {w : World} {lo hi R : Nat} {v : Value} {rs : List T3} (h : OwnQ w lo hi v rs) (hR : R < lo) (u1 u2 u3 u4 u5 u6 : Value) : OwnQ ((((((w.setCell ⟨R, 0, none⟩ u1).setCell ⟨R, 1, none⟩ u2).setCell ⟨R, 2, none⟩ u3).setCell ⟨R, 3, none⟩ u4).setCell ⟨R, 4, none⟩ u5).setCell ⟨R, 5, none⟩ u6) lo hi v rs :=
  (((((h.set hR _).set hR _).set hR _).set hR _).set hR _).set hR _
/-- What a Kept with a store hands out. -/
theorem KpOut.full {lo lo' hi' R : Nat} {w : World} {n : Int} {ts ts' : List ByteArray} {rs rs' : List T3} {x A B : ByteArray} {cd wd : Int} {v1 v2 : Value} (h : KpP n ts rs x cd wd ts' rs' A B) (h1 : OwnX w lo' hi' v1 ts') (h2 : OwnQ w lo' hi' v2 rs') (hR : R < lo') (hl : lo ≤ lo') (hh : hi' ≤ w.heap.size) (u1 u2 u3 u4 u5 u6 : Value) : KpOut lo ((((((w.setCell ⟨R, 0, none⟩ u1).setCell ⟨R, 1, none⟩ u2).setCell ⟨R, 2, none⟩ u3).setCell ⟨R, 3, none⟩ u4).setCell ⟨R, 4, none⟩ u5).setCell ⟨R, 5, none⟩ u6) (.returned (.agg #[.int .i64 cd, .int .i64 wd, v1, v2, .string A, .string B])) n ts rs x :=
  ⟨cd, wd, ts', rs', A, B, v1, v2, rfl, h, (h1.set6 hR _ _ _ _ _ _).wide hl (by simpa using hh), (h2.set6 hR _ _ _ _ _ _).wide hl (by simpa using hh)⟩

end Go.Proofs.YtllhbgmadiclcaaGreatDoor
namespace Go.Proofs.YtllhbgmadiclcaaGreatDoor
open Go.RowKit Go.Deep
set_option linter.unusedVariables false

set_option maxRecDepth 100000 in
set_option maxHeartbeats 8000000 in
theorem copyStore_any (wd : Int) (b off tc : Nat) (ra : Option Addr) (rc : Nat) (ts : List ByteArray) (rs : List T3) (w : World) (st : Strs w (some ⟨b, off, none⟩) ts) (rp : RowP w ra rs) (ht : ts.length ≤ 1048576) (hr : rs.length ≤ 2000) (hk : ∀ i, i < rs.length → 1 ≤ (qx rs i).code.length ∧ (qx rs i).code.length ≤ 1048576 ∧ (qx rs i).looks.length ≤ 1048576) :
    Calls Tryz.prog 42 #[.agg #[.int .i64 wd, .slice (some ⟨b, off, none⟩) ts.length tc, .slice ra rs.length rc]] w fun e w' => Below w.heap.size w w' ∧ ∃ g1 p1 v2, e = .returned (.agg #[.int .i64 wd, .slice (some ⟨g1, 0, none⟩) ts.length p1, v2]) ∧ OwnX w' w.heap.size w'.heap.size (.slice (some ⟨g1, 0, none⟩) ts.length p1) ts ∧ OwnQ w' w.heap.size w'.heap.size v2 rs := by
  obtain ⟨W, eW⟩ : ∃ W, (w.alloc (.cells #[.int .i64 wd, .slice (some ⟨b, off, none⟩) ts.length tc, .slice ra rs.length rc] 29)).alloc (.cells #[.int .i64 0, .slice none 0 0, .slice none 0 0] 29) = W := ⟨_, rfl⟩
  have hb0 : Below w.heap.size w W := by rw [← eW]; exact ((Below.refl _ _).alloc (Nat.le_refl _) _).alloc (by simp) _
  have hk0 : W.heap[w.heap.size]? = some (.cells #[.int .i64 wd, .slice (some ⟨b, off, none⟩) ts.length tc, .slice ra rs.length rc] 29 (0, 0)) := by rw [← eW]; exact heapW_old2 _ _ _
  have hk1 : W.heap[w.heap.size + 1]? = some (.cells #[.int .i64 0, .slice none 0 0, .slice none 0 0] 29 (0, 0)) := by rw [← eW]; exact heapW_new2 _ _ _
  have hWs : w.heap.size + 1 + 1 ≤ W.heap.size := by rw [← eW]; simp
  obtain ⟨c0, c1, c2⟩ := blk_c3 hk0
  have HK0 : Hid (W.heap[w.heap.size]? = some (.cells #[.int .i64 wd, .slice (some ⟨b, off, none⟩) ts.length tc, .slice ra rs.length rc] 29 (0, 0))) := hk0
  have HK1 : Hid (W.heap[w.heap.size + 1]? = some (.cells #[.int .i64 0, .slice none 0 0, .slice none 0 0] 29 (0, 0))) := hk1
  have HRP : Hid (RowP w ra rs) := rp
  have HKK : Hid (∀ i, i < rs.length → 1 ≤ (qx rs i).code.length ∧ (qx rs i).code.length ≤ 1048576 ∧ (qx rs i).looks.length ≤ 1048576) := hk
  have hbd : Below W.heap.size W W.drew := (Below.refl _ _).drew
  have HX : Hid (∀ W' : World, Below W.heap.size W W' → Calls Tryz.prog 68 #[.slice (some ⟨b, off, none⟩) ts.length tc] W' fun e w' => Below W'.heap.size W' w' ∧ ∃ g cp, e = .returned (.slice (some ⟨g, 0, none⟩) ts.length cp) ∧ w'.ownsRow W'.heap.size 9 1 (.slice (some ⟨g, 0, none⟩) ts.length cp) ts.length (ts.map Value.string)) := fun W' hW => cloneX_any b off tc ts W' (st.below (bt hb0 hW)) ht
  clear st rp hk hk0 hk1
  go_enter Tryz.func42, Tryz.ntmps42
  go_wp2_with fail
  clear eW
  go_cut [3] (fun p wx => ∃ (P g1 p1 : Nat), p = .pointer (some ⟨P, 0, none⟩) ∧ Hid (wx.heap[P]? = some (.cells #[.int .i64 wd, .slice (some ⟨g1, 0, none⟩) ts.length p1, .slice none 0 0] 29 (0, 0))) ∧ Hid (wx.ownsRow W.heap.size 9 1 (.slice (some ⟨g1, 0, none⟩) ts.length p1) ts.length (ts.map Value.string)) ∧ W.heap.size ≤ P ∧ Below W.heap.size W wx)
  case first =>
    go_region_held3 (fun w' => w'.cell? ⟨w.heap.size, 0, none⟩ = some (.int .i64 wd) ∧ w'.cell? ⟨w.heap.size, 1, none⟩ = some (.slice (some ⟨b, off, none⟩) ts.length tc))
      (first | (with_reducible exact ⟨s0, s1⟩) | (with_reducible exact ⟨cellW s0, cellW s1⟩) | (refine ⟨?_, ?_⟩ <;> (rw [World.cell?_setCell_far _ _ _ _ (by simp; omega), World.cell?_setCell_far _ _ _ _ (by simp; omega), World.cell?_setCell_far _ _ _ _ (by simp; omega)]; assumption)) | exact ⟨c0, c1⟩ | exact ⟨cellW c0, cellW c1⟩)
      (first | (go_at_call 68; (first | (refine (HX.out _ hbd).mono ?_; rintro e w2 ⟨hb2, g1, p1, rfl, ho1⟩; have hB2 := bt hbd hb2; have HO1 : Hid (w2.ownsRow W.heap.size 9 1 (.slice (some ⟨g1, 0, none⟩) ts.length p1) ts.length (ts.map Value.string)) := ho1) | (refine (HX.out _ (hbd.alloc (by simp) _)).mono ?_; rintro e w2 ⟨hb2, g1, p1, rfl, ho1⟩; have hB2 := bt (hbd.alloc (by simp) _) hb2; have z2 : w2.heap[W.heap.size]? = _ := blk_below (heapW_new W.drew _) hb2; obtain ⟨k0, k1, k2⟩ := blk_c3 z2; have kf := (fun j => Lib.frozen_of_heap z2 j); have HO1 : Hid (w2.ownsRow W.heap.size 9 1 (.slice (some ⟨g1, 0, none⟩) ts.length p1) ts.length (ts.map Value.string)) := own_base ho1 (by simp))); have s0 := cell_below hB2 c0; have s1 := cell_below hB2 c1))
    all_goals
      go_wp2_with fail
      go_meet
      first
        | exact ⟨W.heap.size, g1, p1, rfl, blk_set3 z2 _ _ _, own_setT (own_setT (own_setT HO1.out ⟨_, z2⟩ (by decide) _) (HasT.set ⟨_, z2⟩ _) (by decide) _) (HasT.set (HasT.set ⟨_, z2⟩ _) _) (by decide) _, Nat.le_refl _, ((hB2.setCell (p := ⟨W.heap.size, 0, none⟩) (Nat.le_refl _) _).setCell (p := ⟨W.heap.size, 1, none⟩) (Nat.le_refl _) _).setCell (p := ⟨W.heap.size, 2, none⟩) (Nat.le_refl _) _⟩
        | exact ⟨w2.heap.size, g1, p1, rfl, heapW_new _ _, HO1.out.alloc _, hB2.size, hB2.alloc hB2.size _⟩
  case rest =>
    obtain ⟨P, g1, p1, rfl, HP, HO1, hPl, hbx⟩ := hcut
    have hBx := bt hb0 hbx
    have d2 : wc.cell? ⟨w.heap.size, 2, none⟩ = some (.slice ra rs.length rc) := cell_below hbx c2
    have HC0 : Hid (CS wc P W.heap.size wd (.slice (some ⟨g1, 0, none⟩) ts.length p1) (.slice none 0 0) ts rs 0) := CS.zero rs HP.out HO1.out
    have HBX : Hid (Below W.heap.size W wc) := hbx
    clear HP HO1 c0 c1 c2 hbd hbx HX
    go_wp2
    go_loopw [15] (fun i wr => ∃ (k : Nat) (v2 : Value), k ≤ rs.length ∧ i = .int .i64 k ∧ Hid (CS wr P W.heap.size wd (.slice (some ⟨g1, 0, none⟩) ts.length p1) v2 ts rs k) ∧ Below W.heap.size W wr) (fun i _ => rs.length - (intOf i).toNat)
    case atStart => exact ⟨0, _, Nat.zero_le _, rfl, HC0.out, HBX.out⟩
    case round =>
      obtain ⟨k, v2, hk, rfl, HW, hbr⟩ := hrel
      have hw : Below w.heap.size w wr := bt hb0 hbr
      clear HC0 d2
      by_cases hlt : k < rs.length
      · obtain ⟨rb, ro, rfl, ca, cc, lb, lf, lc, c1', c2', c3', r1, r2⟩ := (HRP.out.below hw) k hlt
        obtain ⟨hk1, hk2, hk3⟩ := HKK.out k hlt
        have hkI : (k : Int) < (rs.length : Int) := by omega
        obtain ⟨X, eX⟩ : ∃ X, wr.alloc (.cells #[.slice ca (qx rs k).code.length cc, .slice (some ⟨lb, lf, none⟩) (qx rs k).looks.length lc, .string (qx rs k).out] 50) = X := ⟨_, rfl⟩
        obtain ⟨q, eq⟩ : ∃ q, wr.heap.size = q := ⟨_, rfl⟩
        have d0 : X.cell? ⟨q, 0, none⟩ = some (.slice ca (qx rs k).code.length cc) := by rw [← eX, ← eq]; simp [go_sem]
        have d1 : X.cell? ⟨q, 1, none⟩ = some (.slice (some ⟨lb, lf, none⟩) (qx rs k).looks.length lc) := by rw [← eX, ← eq]; simp [go_sem]
        have d2 : X.cell? ⟨q, 2, none⟩ = some (.string (qx rs k).out) := by rw [← eX, ← eq]; simp [go_sem]
        have hbX : Below wr.heap.size wr X := by rw [← eX]; exact (Below.refl _ _).alloc (Nat.le_refl _) _
        have HWX : Hid (CS X P W.heap.size wd (.slice (some ⟨g1, 0, none⟩) ts.length p1) v2 ts rs k) := HW.out.below hbX
        have dP := HWX.out.cell.2.2
        have hXq : X.heap.size = q + 1 := by rw [← eX, ← eq]; simp
        have hXq1 : q + 1 ≤ X.heap.size := by omega
        have hXW : W.heap.size ≤ X.heap.size := Nat.le_trans hbr.size hbX.size
        have hPq : P < q := by rw [← eq]; exact blkW_lt HW.out.blk
        obtain ⟨ys0, cv0, lv0, hy0, _⟩ := HW.out.t
        have HVQ : Hid (some q ≠ v2.ownBlock) := fun e => by have := (hy0.lt q e.symm).2; omega
        have HVP : Hid (some P ≠ v2.ownBlock) := fun e => HasT.ne (T := 29) ⟨_, HW.out.blk⟩ hy0 (by decide) e.symm
        have hbP : Below W.heap.size W X := bt hbr hbX
        have HCP : Hid (∀ W' : World, Below X.heap.size X W' → Calls Tryz.prog 29 #[.agg #[.slice ca (qx rs k).code.length cc, .slice (some ⟨lb, lf, none⟩) (qx rs k).looks.length lc, .string (qx rs k).out]] W' fun e w' => Below W'.heap.size W' w' ∧ RecOut W'.heap.size w' e (qx rs k).code (qx rs k).looks (qx rs k).out) := fun W' hW' => copyRecord_any ca cc lb lf lc (qx rs k).code (qx rs k).looks (qx rs k).out W' ((r1.below hbX).below hW') ((r2.below hbX).below hW') hk1 hk2 hk3
        have HQ : Hid (X.heap.size = q + 1) := hXq
        clear hXq hy0 HW hbr hbX r1 r2 hw
        obtain ⟨ys, cv, lv, hys, hpt⟩ := HWX.out.t
        have HYS : Hid (X.ownsRow W.heap.size 50 3 v2 k ys) := hys
        have HPT : Hid (PartQ X W.heap.size rs k ys cv lv) := hpt
        have HPUT : Hid (∀ (Y Z : World) (nv c d : Value) (zs us : List Value), Below X.heap.size X Y → Y.ownsRow X.heap.size 98 3 c (qx rs k).code.length zs → Filled3 (qx rs k).code (qx rs k).code.length zs → Y.ownsRow X.heap.size 90 3 d (qx rs k).looks.length us → FilledG (qx rs k).looks (qx rs k).looks.length us → (∃ g cap, d = .slice (some ⟨g, 0, none⟩) (qx rs k).looks.length cap) → Y.grownBy Z v2.ownBlock → Z.ownsRow W.heap.size 50 3 nv (k + 1) (ys ++ [c, d, .string (qx rs k).out]) → CS (Z.setCell ⟨P, 2, none⟩ nv) P W.heap.size wd (.slice (some ⟨g1, 0, none⟩) ts.length p1) nv ts rs (k + 1)) := fun Y Z nv c d zs us j1 j2 j3 j4 j5 j6 j7 j8 => CS.put HWX.out j1 hXW HYS.out HPT.out j2 j3 j4 j5 j6 j7 j8
        clear hys hpt
        generalize qx rs k = s at *
        go_wp2_with fail
        refine Lt.begin 7 (fun w' => w'.cell? ⟨P, 2, none⟩ = some v2 ∧ w'.cell? ⟨q, 0, none⟩ = some (.slice ca s.code.length cc) ∧ w'.cell? ⟨q, 1, none⟩ = some (.slice (some ⟨lb, lf, none⟩) s.looks.length lc) ∧ w'.cell? ⟨q, 2, none⟩ = some (.string s.out)) (by kernel_rfl) ?_
        have hS0 : X.drew.cell? ⟨P, 2, none⟩ = some v2 ∧ X.drew.cell? ⟨q, 0, none⟩ = some (.slice ca s.code.length cc) ∧ X.drew.cell? ⟨q, 1, none⟩ = some (.slice (some ⟨lb, lf, none⟩) s.looks.length lc) ∧ X.drew.cell? ⟨q, 2, none⟩ = some (.string s.out) := ⟨dP, d0, d1, d2⟩
        refine Lt.take (i := 0) (oi := { dst := some 19, op := Op.fieldAddr 29 (Operand.tmp 3) 2, type := 0, pos := "l4_records.go:168", after := #[], guard := none }) (v := ?_) rfl (by kernel_rfl) (by kernel_rfl) (by kernel_rfl) (by kernel_rfl) (fun _ _ _ h => h) hS0 (Or.inl ⟨by rfl, ?_⟩) ?_
        rotate_left 1
        · intro w hSw
          try dsimp only at hSw
          go_simp
          first | done | with_reducible rfl
        simp only [Act.put, List.setIfInBounds_toArray, List.set_cons_zero, List.set_cons_succ]
        refine Lt.take (i := 1) (oi := { dst := some 20, op := Op.load 27 (Operand.tmp 19), type := 27, pos := "l4_records.go:168", after := #[{ on := 0, ground := Ground.data }], guard := none }) (v := ?_) rfl (by kernel_rfl) (by kernel_rfl) (by kernel_rfl) (by kernel_rfl) (fun _ _ _ h => h) hS0 (Or.inl ⟨by rfl, ?_⟩) ?_
        rotate_left 1
        · intro w hSw
          try dsimp only at hSw
          go_simp
          first | done | with_reducible rfl
        simp only [Act.put, List.setIfInBounds_toArray, List.set_cons_zero, List.set_cons_succ]
        refine Lt.take (i := 2) (oi := { dst := some 21, op := Op.load 50 (Operand.tmp 5), type := 50, pos := "l4_records.go:168", after := #[], guard := none }) (v := ?_) rfl (by kernel_rfl) (by kernel_rfl) (by kernel_rfl) (by kernel_rfl) (fun _ _ _ h => h) hS0 (Or.inl ⟨by rfl, ?_⟩) ?_
        rotate_left 1
        · intro w hSw
          try dsimp only at hSw
          go_simp
          first | done | with_reducible rfl
        simp only [Act.put, List.setIfInBounds_toArray, List.set_cons_zero, List.set_cons_succ]
        refine Lt.step (i := 3) (o := { dst := some 22, op := Op.call { callee := Callee.value (Operand.func 29), args := #[Operand.tmp 21], argTypes := #[50] }, type := 50, pos := "l4_records.go:168", after := #[{ on := 2, ground := Ground.data }], guard := none }) (by kernel_rfl) rfl (fun K hK => ?_)
        go_simp
        refine (HCP.out _ ((Below.refl _ _).drew)).mono ?_
        rintro e w6 ⟨hb6, gc, cpc, gd, cpd, rfl, hoc, hod⟩
        have hb7 : Below X.heap.size X w6 := (Below.drew (Below.refl _ _)).trans (hb6.mono (by simp))
        have HOC : Hid (w6.ownsRow X.heap.size 98 3 (.slice (some ⟨gc, 0, none⟩) s.code.length cpc) s.code.length (insV s.code)) := own_base hoc (by simp)
        have HOD : Hid (w6.ownsRow X.heap.size 90 3 (.slice (some ⟨gd, 0, none⟩) s.looks.length cpd) s.looks.length (gloV s.looks)) := own_base hod (by simp)
        refine hK.out _ _ (fun _ => ⟨cell_below hb7 dP, cell_below hb7 d0, cell_below hb7 d1, cell_below hb7 d2⟩) (fun hS6 => ?_)
        replace hS6 := hS6 (by decide)
        clear hK K hS0 hb6 hoc hod
        refine Lt.step (i := 4) (o := { dst := some 23, op := Op.buildSlice 27 1 #[(0, Operand.tmp 22)], type := 27, pos := "l4_records.go:168", after := #[{ on := 3, ground := Ground.data }], guard := none }) (by kernel_rfl) rfl (fun K hK => ?_)
        go_simp
        refine hK.out _ _ (fun _ => ⟨cellW hS6.1, cellW hS6.2.1, cellW hS6.2.2.1, cellW hS6.2.2.2⟩) (fun hS8 => ?_)
        replace hS8 := hS8 (by decide)
        clear hK K hS6
        refine Lt.step (i := 5) (o := { dst := some 24, op := Op.call { callee := Callee.builtin Builtin.append, args := #[Operand.tmp 20, Operand.tmp 23], argTypes := #[27, 27] }, type := 27, pos := "l4_records.go:168", after := #[{ on := 1, ground := Ground.data }, { on := 4, ground := Ground.data }, { on := 3, ground := Ground.chain }], guard := none }) (by kernel_rfl) rfl (fun K hK => ?_)
        refine step_appQ rfl (by rfl) W.heap.size v2 _ ys (by rfl) ((ownsRow_below HYS.out hb7).alloc _) w6.heap.size (.slice (some ⟨gc, 0, none⟩) s.code.length cpc) (.slice (some ⟨gd, 0, none⟩) s.looks.length cpd) s.out rfl rfl (by rfl) (heapW_new _ _) (by have := hb7.size; simp; omega) (by omega) ?_
        intro g' cap' w7 hown7 hgrow
        have hsz6 := hb7.size
        have x0 : w7.cell? ⟨P, 2, none⟩ = some v2 := by rw [hgrow.cell_far ⟨P, 2, none⟩ (by simp; omega) HVP.out]; exact hS8.1
        have x1 : w7.cell? ⟨q, 0, none⟩ = some (.slice ca s.code.length cc) := by rw [hgrow.cell_far ⟨q, 0, none⟩ (by simp; omega) HVQ.out]; exact hS8.2.1
        have x2 : w7.cell? ⟨q, 1, none⟩ = some (.slice (some ⟨lb, lf, none⟩) s.looks.length lc) := by rw [hgrow.cell_far ⟨q, 1, none⟩ (by simp; omega) HVQ.out]; exact hS8.2.2.1
        have x3 : w7.cell? ⟨q, 2, none⟩ = some (.string s.out) := by rw [hgrow.cell_far ⟨q, 2, none⟩ (by simp; omega) HVQ.out]; exact hS8.2.2.2
        have HNP : Hid (CS (w7.setCell ⟨P, 2, none⟩ (.slice (some ⟨g', 0, none⟩) (k + 1) cap')) P W.heap.size wd (.slice (some ⟨g1, 0, none⟩) ts.length p1) (.slice (some ⟨g', 0, none⟩) (k + 1) cap') ts rs (k + 1)) := HPUT.out _ w7 _ _ _ _ _ (hb7.alloc (by omega) _) (HOC.out.alloc _) (insV_filled _) (HOD.out.alloc _) (gloV_filled _) ⟨_, _, rfl⟩ hgrow hown7
        have hbP7 : Below W.heap.size W w7 := ((hbP.trans (hb7.mono (by omega))).alloc (by omega) _).grown hgrow (by simp; omega) (fun m hm => by have := (HYS.out.lt m hm).1; omega)
        have fz : w7.frozen? ⟨P, 2, none⟩ = false := by rw [hgrow.frozen_far ⟨P, 2, none⟩ (by simp; omega) HVP.out]; exact Lib.frozen_of_heap (by rw [Lib.alloc_old _ _ _ (by omega)]; exact (HWX.out.below hb7).blk) 2
        refine hK.out _ _ (fun _ => ⟨x0, x1, x2, x3⟩) (fun hS9 => ?_)
        replace hS9 := hS9 (by decide)
        clear hK K hS8 hgrow hown7
        simp only [Act.put, List.setIfInBounds_toArray, List.set_cons_zero, List.set_cons_succ]
        refine Lt.take (i := 6) (oi := { dst := some 25, op := Op.fieldAddr 29 (Operand.tmp 3) 2, type := 0, pos := "l4_records.go:168", after := #[{ on := 0, ground := Ground.phase }, { on := 1, ground := Ground.phase }, { on := 2, ground := Ground.phase }, { on := 3, ground := Ground.phase }, { on := 4, ground := Ground.phase }, { on := 5, ground := Ground.phase }], guard := none }) (v := ?_) rfl (by kernel_rfl) (by kernel_rfl) (by kernel_rfl) (by kernel_rfl) (fun _ _ _ h => h) hS9 (Or.inl ⟨by rfl, ?_⟩) ?_
        rotate_left 1
        · intro w hSw
          try dsimp only at hSw
          go_simp
          first | done | with_reducible rfl
        simp only [Act.put, List.setIfInBounds_toArray, List.set_cons_zero, List.set_cons_succ]
        refine Lt.step (i := 7) (o := { dst := none, op := Op.store 27 (Operand.tmp 25) (Operand.tmp 24), type := 0, pos := "l4_records.go:168", after := #[{ on := 6, ground := Ground.data }, { on := 5, ground := Ground.data }, { on := 5, ground := Ground.chain }, { on := 0, ground := Ground.phase }, { on := 1, ground := Ground.phase }, { on := 2, ground := Ground.phase }, { on := 3, ground := Ground.phase }, { on := 4, ground := Ground.phase }, { on := 5, ground := Ground.phase }], guard := none }) (by kernel_rfl) rfl (fun K hK => ?_)
        go_simp
        refine hK.out _ _ (fun h => absurd rfl h) (fun _ => ?_)
        clear hK K hS9
        refine Lt.done (by kernel_rfl) ?_ _
        go_wp2
        go_roundw
        case rel => exact ⟨k + 1, _, by omega, by go_num, HNP.out, hbP7.setCell (p := ⟨P, 2, none⟩) hPl _⟩
        case measure => simp [intOf]; omega
      · have ek : k = rs.length := by omega
        subst ek
        have kbr : wr.heap[w.heap.size + 1]? = some (.cells #[.int .i64 0, .slice none 0 0, .slice none 0 0] 29 (0, 0)) := blk_below HK1.out hbr
        obtain ⟨r0, r1, r2⟩ := blk_c3 kbr
        have fr : ∀ j, wr.frozen? ⟨w.heap.size + 1, j, none⟩ = false := fun j => Lib.frozen_of_heap kbr j
        obtain ⟨d0, d1, d2⟩ := HW.out.cell
        obtain ⟨o1, o2⟩ := HW.out.own (lo := W.heap.size) (hi := wr.heap.size) (Nat.le_refl _) (Nat.le_refl _)
        have HO1 : Hid (OwnX wr W.heap.size wr.heap.size (.slice (some ⟨g1, 0, none⟩) ts.length p1) ts) := o1
        have HO2 : Hid (OwnQ wr W.heap.size wr.heap.size v2 rs) := o2
        obtain ⟨a2, p2, rfl, _⟩ := o2.sl
        clear kbr hbr o1 o2 HW
        go_wp2
        refine bodyPost_ret (v := .agg #[.int .i64 wd, .slice (some ⟨g1, 0, none⟩) ts.length p1, .slice a2 rs.length p2]) (by simp [results, Tryz.results42, go_sem, r0, r1, r2]) rfl ⟨((hw.setCell (p := ⟨w.heap.size + 1, 0, none⟩) (by simp) _).setCell (p := ⟨w.heap.size + 1, 1, none⟩) (by simp) _).setCell (p := ⟨w.heap.size + 1, 2, none⟩) (by simp) _, _, _, _, rfl, ?_, ?_⟩
        · exact (((HO1.out.set (by omega) _).set (by omega) _).set (by omega) _).wide (by omega) (by simp)
        · exact (((HO2.out.set (by omega) _).set (by omega) _).set (by omega) _).wide (by omega) (by simp)

end Go.Proofs.YtllhbgmadiclcaaGreatDoor
