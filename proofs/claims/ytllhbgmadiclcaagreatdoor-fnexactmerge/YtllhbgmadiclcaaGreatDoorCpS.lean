import Derived.Test.YtllhbgmadiclcaaGreatDoorCpC
namespace Go.Proofs.YtllhbgmadiclcaaGreatDoor
open Go.RowKit Go.Deep
set_option linter.unusedVariables false

set_option maxRecDepth 100000 in
set_option maxHeartbeats 8000000 in
theorem l4Copy_any (wd : Int) (b off tc : Nat) (ra : Option Addr) (rc : Nat) (ts : List ByteArray) (rs : List T3) (w : World) (st : Strs w (some ⟨b, off, none⟩) ts) (rp : RowP w ra rs) (ht : ts.length ≤ 1048576) (hr : rs.length ≤ 2000) (hk : ∀ i, i < rs.length → 1 ≤ (qx rs i).code.length ∧ (qx rs i).code.length ≤ 1048576 ∧ (qx rs i).looks.length ≤ 1048576) :
    Calls Tryz.prog 16 #[.agg #[.int .i64 wd, .slice (some ⟨b, off, none⟩) ts.length tc, .slice ra rs.length rc]] w fun e w' => Below w.heap.size w w' ∧ ∃ g1 p1 v2, e = .returned (.agg #[.int .i64 wd, .slice (some ⟨g1, 0, none⟩) ts.length p1, v2]) ∧ OwnX w' w.heap.size w'.heap.size (.slice (some ⟨g1, 0, none⟩) ts.length p1) ts ∧ OwnQ w' w.heap.size w'.heap.size v2 rs := by
  obtain ⟨W, eW⟩ : ∃ W, (w.alloc (.cells #[.int .i64 wd, .slice (some ⟨b, off, none⟩) ts.length tc, .slice ra rs.length rc] 29)).alloc (.cells #[.int .i64 0, .slice none 0 0, .slice none 0 0] 29) = W := ⟨_, rfl⟩
  have hb0 : Below w.heap.size w W := by rw [← eW]; exact ((Below.refl _ _).alloc (Nat.le_refl _) _).alloc (by simp) _
  have hk0 : W.heap[w.heap.size]? = some (.cells #[.int .i64 wd, .slice (some ⟨b, off, none⟩) ts.length tc, .slice ra rs.length rc] 29 (0, 0)) := by rw [← eW]; exact heapW_old2 _ _ _
  have hk1 : W.heap[w.heap.size + 1]? = some (.cells #[.int .i64 0, .slice none 0 0, .slice none 0 0] 29 (0, 0)) := by rw [← eW]; exact heapW_new2 _ _ _
  have hWs : w.heap.size + 1 + 1 ≤ W.heap.size := by rw [← eW]; simp
  obtain ⟨c0, c1, c2⟩ := blk_c3 hk0
  have HK0 : Hid (W.heap[w.heap.size]? = some (.cells #[.int .i64 wd, .slice (some ⟨b, off, none⟩) ts.length tc, .slice ra rs.length rc] 29 (0, 0))) := hk0
  have HK1 : Hid (W.heap[w.heap.size + 1]? = some (.cells #[.int .i64 0, .slice none 0 0, .slice none 0 0] 29 (0, 0))) := hk1
  have HRP : Hid (RowP w ra rs) := rp
  have HKK : Hid (∀ i, i < rs.length → 1 ≤ (qx rs i).code.length ∧ (qx rs i).code.length ≤ 1048576 ∧ (qx rs i).looks.length ≤ 1048576) := hk
  have hbd : Below W.heap.size W W.drew := (Below.refl _ _).drew
  obtain ⟨i0, hi, hz0, hz1, hz2⟩ := info_parts Tryz.info9b
  have HN : Hid (∀ W' : World, Below W.heap.size W W' → ∀ j u, (ts.map Value.string)[j]? = some u → W'.cell? ((⟨b, off, none⟩ : Addr).add j) = some u) := fun W' hW => txV_news (st.below (bt hb0 hW))
  have HL : Hid ((ts.map Value.string).length = ts.length * 1) := by show _ = _; simp
  have HO : Hid (∀ u ∈ ts.map Value.string, u.oneCell' = true) := txV_one ts
  have hbC : Below W.heap.size W (W.drew.alloc (.cells #[] 9)) := hbd.alloc (by simp) _
  have hbB : Below W.heap.size W ((W.drew.alloc (.cells #[] 9)).alloc (.cells #[.int .i64 0, .slice none 0 0, .slice none 0 0] 29)) := (hbd.alloc (by simp) _).alloc (by simp) _
  have hbA : Below W.heap.size W ((W.drew.alloc (.cells #[.int .i64 0, .slice none 0 0, .slice none 0 0] 29)).alloc (.cells #[] 9)) := (hbd.alloc (by simp) _).alloc (by simp) _
  have LC : Hid ((W.drew.alloc (.cells #[] 9)).ownsRow W.heap.size 9 1 (.slice (some ⟨W.heap.size, 0, none⟩) 0 0) 0 []) := lit_own W.drew W.heap.size 9 1 (by simp)
  have LB : Hid (((W.drew.alloc (.cells #[] 9)).alloc (.cells #[.int .i64 0, .slice none 0 0, .slice none 0 0] 29)).ownsRow W.heap.size 9 1 (.slice (some ⟨W.heap.size, 0, none⟩) 0 0) 0 []) := (lit_own W.drew W.heap.size 9 1 (by simp)).alloc _
  have LA : Hid (((W.drew.alloc (.cells #[.int .i64 0, .slice none 0 0, .slice none 0 0] 29)).alloc (.cells #[] 9)).ownsRow W.heap.size 9 1 (.slice (some ⟨W.heap.size + 1, 0, none⟩) 0 0) 0 []) := by
    have h := lit_own (W.drew.alloc (.cells #[.int .i64 0, .slice none 0 0, .slice none 0 0] 29)) W.heap.size 9 1 (by simp)
    rw [show (W.drew.alloc (.cells #[.int .i64 0, .slice none 0 0, .slice none 0 0] 29)).heap.size = W.heap.size + 1 from by simp] at h
    exact h
  have ZA : Hid (((W.drew.alloc (.cells #[.int .i64 0, .slice none 0 0, .slice none 0 0] 29)).alloc (.cells #[] 9)).heap[W.heap.size]? = some (.cells #[.int .i64 0, .slice none 0 0, .slice none 0 0] 29 (0, 0))) := by show _ = _; rw [Lib.alloc_old _ _ _ (by simp)]; exact heapW_new W.drew _
  have ZB : Hid (((W.drew.alloc (.cells #[] 9)).alloc (.cells #[.int .i64 0, .slice none 0 0, .slice none 0 0] 29)).heap[W.heap.size + 1]? = some (.cells #[.int .i64 0, .slice none 0 0, .slice none 0 0] 29 (0, 0))) := by
    have h := heapW_new (W.drew.alloc (.cells #[] 9)) (.cells #[.int .i64 0, .slice none 0 0, .slice none 0 0] 29)
    rw [show (W.drew.alloc (.cells #[] 9)).heap.size = W.heap.size + 1 from by simp] at h
    exact h
  clear st rp hk hk0 hk1
  go_enter Tryz.func16, Tryz.ntmps16
  go_wp2_with fail
  clear eW
  go_cut [3] (fun p wx => ∃ (P g1 p1 : Nat), p = .pointer (some ⟨P, 0, none⟩) ∧ Hid (wx.heap[P]? = some (.cells #[.int .i64 wd, .slice (some ⟨g1, 0, none⟩) ts.length p1, .slice none 0 0] 29 (0, 0))) ∧ Hid (wx.ownsRow W.heap.size 9 1 (.slice (some ⟨g1, 0, none⟩) ts.length p1) ts.length (ts.map Value.string)) ∧ W.heap.size ≤ P ∧ Below W.heap.size W wx)
  case first =>
    go_region_held3 (fun w' => w'.cell? ⟨w.heap.size, 0, none⟩ = some (.int .i64 wd) ∧ w'.cell? ⟨w.heap.size, 1, none⟩ = some (.slice (some ⟨b, off, none⟩) ts.length tc))
      (first | (with_reducible exact ⟨t0, t1⟩) | (with_reducible exact ⟨cellW t0, cellW t1⟩) | (refine ⟨?_, ?_⟩ <;> (rw [World.cell?_setCell_far _ _ _ _ (by simp; omega), World.cell?_setCell_far _ _ _ _ (by simp; omega), World.cell?_setCell_far _ _ _ _ (by simp; omega)]; assumption)) | exact ⟨c0, c1⟩ | exact ⟨cellW (w := W.drew) c0, cellW (w := W.drew) c1⟩ | exact ⟨cellW (cellW (w := W.drew) c0), cellW (cellW (w := W.drew) c1)⟩)
      (first
        | (refine step_appO (w := W.drew.alloc (.cells #[] 9)) rfl (.tmp 7) (.tmp 9) 22 rfl W.heap.size 9 i0 (.string ⟨#[]⟩) 1 16 Tryz.underlying22 hi hz0 hz1 hz2 rfl (by decide) W.heap.size 0 0 [] (by rfl) LC.out ⟨b, off, none⟩ ts.length tc (ts.map Value.string) (by rfl) HL.out (HN.out _ hbC) HO.out (by unfold maxLen; omega) (by omega) (by simp; try omega) ?_; intro g1 p1 x ho2 hgx; have hB2 : Below W.heap.size W x := Below.grown hbC hgx (by simp; try omega) (fun k hk => by simp at hk; omega); have HO1 : Hid (x.ownsRow W.heap.size 9 1 (.slice (some ⟨g1, 0, none⟩) ts.length p1) ts.length (ts.map Value.string)) := (by rw [Nat.zero_add, List.nil_append] at ho2; exact ho2); have t0 := cell_below hB2 c0; have t1 := cell_below hB2 c1;  rw [Nat.zero_add])
        | (refine step_appO (w := (W.drew.alloc (.cells #[] 9)).alloc (.cells #[.int .i64 0, .slice none 0 0, .slice none 0 0] 29)) rfl (.tmp 7) (.tmp 9) 22 rfl W.heap.size 9 i0 (.string ⟨#[]⟩) 1 16 Tryz.underlying22 hi hz0 hz1 hz2 rfl (by decide) W.heap.size 0 0 [] (by rfl) LB.out ⟨b, off, none⟩ ts.length tc (ts.map Value.string) (by rfl) HL.out (HN.out _ hbB) HO.out (by unfold maxLen; omega) (by omega) (by simp; try omega) ?_; intro g1 p1 x ho2 hgx; have hB2 : Below W.heap.size W x := Below.grown hbB hgx (by simp; try omega) (fun k hk => by simp at hk; omega); have HO1 : Hid (x.ownsRow W.heap.size 9 1 (.slice (some ⟨g1, 0, none⟩) ts.length p1) ts.length (ts.map Value.string)) := (by rw [Nat.zero_add, List.nil_append] at ho2; exact ho2); have t0 := cell_below hB2 c0; have t1 := cell_below hB2 c1; have z2 := (show x.heap[W.heap.size + 1]? = _ from (hgx.block _ (blkW_lt ZB.out) (fun e => by simp at e)).trans ZB.out); obtain ⟨k0, k1, k2⟩ := blk_c3 z2; have kf := (fun j => Lib.frozen_of_heap z2 j); rw [Nat.zero_add])
        | (refine step_appO (w := (W.drew.alloc (.cells #[.int .i64 0, .slice none 0 0, .slice none 0 0] 29)).alloc (.cells #[] 9)) rfl (.tmp 7) (.tmp 9) 22 rfl W.heap.size 9 i0 (.string ⟨#[]⟩) 1 16 Tryz.underlying22 hi hz0 hz1 hz2 rfl (by decide) (W.heap.size + 1) 0 0 [] (by rfl) LA.out ⟨b, off, none⟩ ts.length tc (ts.map Value.string) (by rfl) HL.out (HN.out _ hbA) HO.out (by unfold maxLen; omega) (by omega) (by simp; try omega) ?_; intro g1 p1 x ho2 hgx; have hB2 : Below W.heap.size W x := Below.grown hbA hgx (by simp; try omega) (fun k hk => by simp at hk; omega); have HO1 : Hid (x.ownsRow W.heap.size 9 1 (.slice (some ⟨g1, 0, none⟩) ts.length p1) ts.length (ts.map Value.string)) := (by rw [Nat.zero_add, List.nil_append] at ho2; exact ho2); have t0 := cell_below hB2 c0; have t1 := cell_below hB2 c1; have z2 := (show x.heap[W.heap.size]? = _ from (hgx.block _ (blkW_lt ZA.out) (fun e => by simp at e)).trans ZA.out); obtain ⟨k0, k1, k2⟩ := blk_c3 z2; have kf := (fun j => Lib.frozen_of_heap z2 j); rw [Nat.zero_add]))
    all_goals
      go_wp2_with fail
      go_meet
      first
        | exact ⟨W.heap.size, g1, p1, rfl, blk_set3 z2 _ _ _, own_setT (own_setT (own_setT HO1.out ⟨_, z2⟩ (by decide) _) (HasT.set ⟨_, z2⟩ _) (by decide) _) (HasT.set (HasT.set ⟨_, z2⟩ _) _) (by decide) _, Nat.le_refl _, ((hB2.setCell (p := ⟨W.heap.size, 0, none⟩) (Nat.le_refl _) _).setCell (p := ⟨W.heap.size, 1, none⟩) (Nat.le_refl _) _).setCell (p := ⟨W.heap.size, 2, none⟩) (Nat.le_refl _) _⟩
        | exact ⟨W.heap.size + 1, g1, p1, rfl, blk_set3 z2 _ _ _, own_setT (own_setT (own_setT HO1.out ⟨_, z2⟩ (by decide) _) (HasT.set ⟨_, z2⟩ _) (by decide) _) (HasT.set (HasT.set ⟨_, z2⟩ _) _) (by decide) _, Nat.le_succ _, ((hB2.setCell (p := ⟨W.heap.size + 1, 0, none⟩) (Nat.le_succ _) _).setCell (p := ⟨W.heap.size + 1, 1, none⟩) (Nat.le_succ _) _).setCell (p := ⟨W.heap.size + 1, 2, none⟩) (Nat.le_succ _) _⟩
        | exact ⟨x.heap.size, g1, p1, rfl, heapW_new _ _, HO1.out.alloc _, hB2.size, hB2.alloc hB2.size _⟩
  case rest =>
    obtain ⟨P, g1, p1, rfl, HP, HO1, hPl, hbx⟩ := hcut
    have HC0 : Hid (CS wc P W.heap.size wd (.slice (some ⟨g1, 0, none⟩) ts.length p1) (.slice none 0 0) ts rs 0) := CS.zero rs HP.out HO1.out
    have HBX : Hid (Below W.heap.size W wc) := hbx
    clear HP HO1 c0 c1 c2 hbd hbx HN LA LB LC ZA ZB hbA hbB hbC
    go_wp2
    go_loopw [4] (fun i wr => ∃ (k : Nat) (v2 : Value), k ≤ rs.length ∧ i = .int .i64 k ∧ Hid (CS wr P W.heap.size wd (.slice (some ⟨g1, 0, none⟩) ts.length p1) v2 ts rs k) ∧ Below W.heap.size W wr) (fun i _ => rs.length - (intOf i).toNat)
    case atStart => exact ⟨0, _, Nat.zero_le _, rfl, HC0.out, HBX.out⟩
    case round =>
      obtain ⟨k, v2, hk, rfl, HW, hbr⟩ := hrel
      have hw : Below w.heap.size w wr := bt hb0 hbr
      obtain ⟨_, _, e2⟩ := blk_c3 (blk_below HK0.out hbr)
      clear HC0
      by_cases hlt : k < rs.length
      · obtain ⟨rb, ro, rfl, ca, cc, lb, lf, lc, c1', c2', c3', r1, r2⟩ := HRP.out k hlt
        obtain ⟨hk1, hk2, hk3⟩ := HKK.out k hlt
        have hkI : (k : Int) < (rs.length : Int) := by omega
        have hrb : rb < w.heap.size := World.block_lt_of_cell? _ _ c1'
        replace c1' := cell_below hw c1'
        replace c2' := cell_below hw c2'
        replace c3' := cell_below hw c3'
        have r1' := r1.below hw
        have r2' := r2.below hw
        obtain ⟨X, eX⟩ : ∃ X, wr = X := ⟨_, rfl⟩
        subst eX
        have HWX : Hid (CS wr P W.heap.size wd (.slice (some ⟨g1, 0, none⟩) ts.length p1) v2 ts rs k) := HW.out
        have dP := HWX.out.cell.2.2
        have hXW : W.heap.size ≤ wr.heap.size := hbr.size
        have hPq : P < wr.heap.size := blkW_lt HW.out.blk
        obtain ⟨ys0, cv0, lv0, hy0, _⟩ := HW.out.t
        have HVR : Hid (some rb ≠ v2.ownBlock) := fun e => by have := (hy0.lt rb e.symm).1; omega
        have HVA : Hid (some w.heap.size ≠ v2.ownBlock) := fun e => by have := (hy0.lt _ e.symm).1; omega
        have HVP : Hid (some P ≠ v2.ownBlock) := fun e => HasT.ne (T := 29) ⟨_, HW.out.blk⟩ hy0 (by decide) e.symm
        have hbP : Below W.heap.size W wr := hbr
        have HCP : Hid (∀ W' : World, Below wr.heap.size wr W' → Calls Tryz.prog 19 #[.agg #[.slice ca (qx rs k).code.length cc, .slice (some ⟨lb, lf, none⟩) (qx rs k).looks.length lc, .string (qx rs k).out]] W' fun e w' => Below W'.heap.size W' w' ∧ RecOut W'.heap.size w' e (qx rs k).code (qx rs k).looks (qx rs k).out) := fun W' hW' => l4Record_any ca cc lb lf lc (qx rs k).code (qx rs k).looks (qx rs k).out W' (r1'.below hW') (r2'.below hW') hk1 hk2 hk3
        clear hy0 HW hbr r1 r2 r1' r2' hw
        obtain ⟨ys, cv, lv, hys, hpt⟩ := HWX.out.t
        have HYS : Hid (wr.ownsRow W.heap.size 50 3 v2 k ys) := hys
        have HPT : Hid (PartQ wr W.heap.size rs k ys cv lv) := hpt
        have HPUT : Hid (∀ (Y Z : World) (nv c d : Value) (zs us : List Value), Below wr.heap.size wr Y → Y.ownsRow wr.heap.size 98 3 c (qx rs k).code.length zs → Filled3 (qx rs k).code (qx rs k).code.length zs → Y.ownsRow wr.heap.size 90 3 d (qx rs k).looks.length us → FilledG (qx rs k).looks (qx rs k).looks.length us → (∃ g cap, d = .slice (some ⟨g, 0, none⟩) (qx rs k).looks.length cap) → Y.grownBy Z v2.ownBlock → Z.ownsRow W.heap.size 50 3 nv (k + 1) (ys ++ [c, d, .string (qx rs k).out]) → CS (Z.setCell ⟨P, 2, none⟩ nv) P W.heap.size wd (.slice (some ⟨g1, 0, none⟩) ts.length p1) nv ts rs (k + 1)) := fun Y Z nv c d zs us j1 j2 j3 j4 j5 j6 j7 j8 => CS.put HWX.out j1 hXW HYS.out HPT.out j2 j3 j4 j5 j6 j7 j8
        clear hys hpt
        generalize qx rs k = s at *
        go_wp2_with fail
        refine Lt.begin 11 (fun w' => w'.cell? ⟨P, 2, none⟩ = some v2 ∧ w'.cell? ⟨w.heap.size, 2, none⟩ = some (.slice (some ⟨rb, ro, none⟩) rs.length rc) ∧ w'.cell? ⟨rb, ro + k * 3, none⟩ = some (.slice ca s.code.length cc) ∧ w'.cell? ⟨rb, ro + k * 3 + 1, none⟩ = some (.slice (some ⟨lb, lf, none⟩) s.looks.length lc) ∧ w'.cell? ⟨rb, ro + k * 3 + 2, none⟩ = some (.string s.out)) (by kernel_rfl) ?_
        have hS0 : wr.drew.cell? ⟨P, 2, none⟩ = some v2 ∧ wr.drew.cell? ⟨w.heap.size, 2, none⟩ = some (.slice (some ⟨rb, ro, none⟩) rs.length rc) ∧ wr.drew.cell? ⟨rb, ro + k * 3, none⟩ = some (.slice ca s.code.length cc) ∧ wr.drew.cell? ⟨rb, ro + k * 3 + 1, none⟩ = some (.slice (some ⟨lb, lf, none⟩) s.looks.length lc) ∧ wr.drew.cell? ⟨rb, ro + k * 3 + 2, none⟩ = some (.string s.out) := ⟨dP, e2, c1', c2', c3'⟩
        refine Lt.take (i := 0) (oi := { dst := some 19, op := Op.fieldAddr 29 (Operand.tmp 3) 2, type := 0, pos := "l4_records.go:52", after := #[], guard := none }) (v := ?_) rfl (by kernel_rfl) (by kernel_rfl) (by kernel_rfl) (by kernel_rfl) (fun _ _ _ h => h) hS0 (Or.inl ⟨by rfl, ?_⟩) ?_
        rotate_left 1
        · intro w hSw
          try dsimp only at hSw
          go_simp
          first | done | with_reducible rfl
        simp only [Act.put, List.setIfInBounds_toArray, List.set_cons_zero, List.set_cons_succ]
        refine Lt.take (i := 1) (oi := { dst := some 20, op := Op.load 27 (Operand.tmp 19), type := 27, pos := "l4_records.go:52", after := #[{ on := 0, ground := Ground.data }], guard := none }) (v := ?_) rfl (by kernel_rfl) (by kernel_rfl) (by kernel_rfl) (by kernel_rfl) (fun _ _ _ h => h) hS0 (Or.inl ⟨by rfl, ?_⟩) ?_
        rotate_left 1
        · intro w hSw
          try dsimp only at hSw
          go_simp
          first | done | with_reducible rfl
        simp only [Act.put, List.setIfInBounds_toArray, List.set_cons_zero, List.set_cons_succ]
        refine Lt.take (i := 2) (oi := { dst := some 21, op := Op.fieldAddr 29 (Operand.tmp 1) 2, type := 0, pos := "l4_records.go:52", after := #[], guard := none }) (v := ?_) rfl (by kernel_rfl) (by kernel_rfl) (by kernel_rfl) (by kernel_rfl) (fun _ _ _ h => h) hS0 (Or.inl ⟨by rfl, ?_⟩) ?_
        rotate_left 1
        · intro w hSw
          try dsimp only at hSw
          go_simp
          first | done | with_reducible rfl
        simp only [Act.put, List.setIfInBounds_toArray, List.set_cons_zero, List.set_cons_succ]
        refine Lt.take (i := 3) (oi := { dst := some 22, op := Op.load 27 (Operand.tmp 21), type := 27, pos := "l4_records.go:52", after := #[{ on := 2, ground := Ground.data }], guard := none }) (v := ?_) rfl (by kernel_rfl) (by kernel_rfl) (by kernel_rfl) (by kernel_rfl) (fun _ _ _ h => h) hS0 (Or.inl ⟨by rfl, ?_⟩) ?_
        rotate_left 1
        · intro w hSw
          try dsimp only at hSw
          go_simp
          first | done | with_reducible rfl
        simp only [Act.put, List.setIfInBounds_toArray, List.set_cons_zero, List.set_cons_succ]
        refine Lt.take (i := 4) (oi := { dst := some 23, op := Op.move (Operand.tmp 4), type := 3, pos := "l4_records.go:52", after := #[], guard := none }) (v := ?_) rfl (by kernel_rfl) (by kernel_rfl) (by kernel_rfl) (by kernel_rfl) (fun _ _ _ h => h) hS0 (Or.inl ⟨by rfl, ?_⟩) ?_
        rotate_left 1
        · intro w hSw
          try dsimp only at hSw
          go_simp
          first | done | with_reducible rfl
        simp only [Act.put, List.setIfInBounds_toArray, List.set_cons_zero, List.set_cons_succ]
        refine Lt.take (i := 5) (oi := { dst := some 24, op := Op.indexAddr 27 (Operand.tmp 22) (Operand.tmp 23), type := 0, pos := "l4_records.go:52", after := #[{ on := 3, ground := Ground.data }, { on := 4, ground := Ground.data }], guard := none }) (v := ?_) rfl (by kernel_rfl) (by kernel_rfl) (by kernel_rfl) (by kernel_rfl) (fun _ _ _ h => h) hS0 (Or.inl ⟨by rfl, ?_⟩) ?_
        rotate_left 1
        · intro w hSw
          try dsimp only at hSw
          go_simp
          first | done | with_reducible rfl
        simp only [Act.put, List.setIfInBounds_toArray, List.set_cons_zero, List.set_cons_succ]
        refine Lt.take (i := 6) (oi := { dst := some 25, op := Op.load 50 (Operand.tmp 24), type := 50, pos := "l4_records.go:52", after := #[{ on := 5, ground := Ground.data }], guard := none }) (v := ?_) rfl (by kernel_rfl) (by kernel_rfl) (by kernel_rfl) (by kernel_rfl) (fun _ _ _ h => h) hS0 (Or.inl ⟨by rfl, ?_⟩) ?_
        rotate_left 1
        · intro w hSw
          try dsimp only at hSw
          go_simp
          first | done | with_reducible rfl
        simp only [Act.put, List.setIfInBounds_toArray, List.set_cons_zero, List.set_cons_succ]
        refine Lt.step (i := 7) (o := { dst := some 26, op := Op.call { callee := Callee.value (Operand.func 19), args := #[Operand.tmp 25], argTypes := #[50] }, type := 50, pos := "l4_records.go:52", after := #[{ on := 6, ground := Ground.data }], guard := none }) (by kernel_rfl) rfl (fun K hK => ?_)
        go_simp
        refine (HCP.out _ ((Below.refl _ _).drew)).mono ?_
        rintro e w6 ⟨hb6, gc, cpc, gd, cpd, rfl, hoc, hod⟩
        have hb7 : Below wr.heap.size wr w6 := (Below.drew (Below.refl _ _)).trans (hb6.mono (by simp))
        have HOC : Hid (w6.ownsRow wr.heap.size 98 3 (.slice (some ⟨gc, 0, none⟩) s.code.length cpc) s.code.length (insV s.code)) := own_base hoc (by simp)
        have HOD : Hid (w6.ownsRow wr.heap.size 90 3 (.slice (some ⟨gd, 0, none⟩) s.looks.length cpd) s.looks.length (gloV s.looks)) := own_base hod (by simp)
        refine hK.out _ _ (fun _ => ⟨cell_below hb7 dP, cell_below hb7 e2, cell_below hb7 c1', cell_below hb7 c2', cell_below hb7 c3'⟩) (fun hS6 => ?_)
        replace hS6 := hS6 (by decide)
        clear hK K hS0 hb6 hoc hod
        refine Lt.step (i := 8) (o := { dst := some 27, op := Op.buildSlice 27 1 #[(0, Operand.tmp 26)], type := 27, pos := "l4_records.go:52", after := #[{ on := 7, ground := Ground.data }], guard := none }) (by kernel_rfl) rfl (fun K hK => ?_)
        go_simp
        refine hK.out _ _ (fun _ => ⟨cellW hS6.1, cellW hS6.2.1, cellW hS6.2.2.1, cellW hS6.2.2.2.1, cellW hS6.2.2.2.2⟩) (fun hS8 => ?_)
        replace hS8 := hS8 (by decide)
        clear hK K hS6
        refine Lt.step (i := 9) (o := { dst := some 28, op := Op.call { callee := Callee.builtin Builtin.append, args := #[Operand.tmp 20, Operand.tmp 27], argTypes := #[27, 27] }, type := 27, pos := "l4_records.go:52", after := #[{ on := 1, ground := Ground.data }, { on := 8, ground := Ground.data }, { on := 7, ground := Ground.chain }], guard := none }) (by kernel_rfl) rfl (fun K hK => ?_)
        refine step_appQ rfl (by rfl) W.heap.size v2 _ ys (by rfl) ((ownsRow_below HYS.out hb7).alloc _) w6.heap.size (.slice (some ⟨gc, 0, none⟩) s.code.length cpc) (.slice (some ⟨gd, 0, none⟩) s.looks.length cpd) s.out rfl rfl (by rfl) (heapW_new _ _) (by have := hb7.size; simp; omega) (by omega) ?_
        intro g' cap' w7 hown7 hgrow
        have hsz6 := hb7.size
        have x0 : w7.cell? ⟨P, 2, none⟩ = some v2 := by rw [hgrow.cell_far ⟨P, 2, none⟩ (by simp; omega) HVP.out]; exact hS8.1
        have x1 : w7.cell? ⟨w.heap.size, 2, none⟩ = some (.slice (some ⟨rb, ro, none⟩) rs.length rc) := by rw [hgrow.cell_far ⟨w.heap.size, 2, none⟩ (by simp; omega) HVA.out]; exact hS8.2.1
        have x2 : w7.cell? ⟨rb, ro + k * 3, none⟩ = some (.slice ca s.code.length cc) := by rw [hgrow.cell_far ⟨rb, ro + k * 3, none⟩ (by simp; omega) HVR.out]; exact hS8.2.2.1
        have x3 : w7.cell? ⟨rb, ro + k * 3 + 1, none⟩ = some (.slice (some ⟨lb, lf, none⟩) s.looks.length lc) := by rw [hgrow.cell_far ⟨rb, ro + k * 3 + 1, none⟩ (by simp; omega) HVR.out]; exact hS8.2.2.2.1
        have x4 : w7.cell? ⟨rb, ro + k * 3 + 2, none⟩ = some (.string s.out) := by rw [hgrow.cell_far ⟨rb, ro + k * 3 + 2, none⟩ (by simp; omega) HVR.out]; exact hS8.2.2.2.2
        have HNP : Hid (CS (w7.setCell ⟨P, 2, none⟩ (.slice (some ⟨g', 0, none⟩) (k + 1) cap')) P W.heap.size wd (.slice (some ⟨g1, 0, none⟩) ts.length p1) (.slice (some ⟨g', 0, none⟩) (k + 1) cap') ts rs (k + 1)) := HPUT.out _ w7 _ _ _ _ _ (hb7.alloc (by omega) _) (HOC.out.alloc _) (insV_filled _) (HOD.out.alloc _) (gloV_filled _) ⟨_, _, rfl⟩ hgrow hown7
        have hbP7 : Below W.heap.size W w7 := ((hbP.trans (hb7.mono (by omega))).alloc (by omega) _).grown hgrow (by simp; omega) (fun m hm => by have := (HYS.out.lt m hm).1; omega)
        have fz : w7.frozen? ⟨P, 2, none⟩ = false := by rw [hgrow.frozen_far ⟨P, 2, none⟩ (by simp; omega) HVP.out]; exact Lib.frozen_of_heap (by rw [Lib.alloc_old _ _ _ (by omega)]; exact (HWX.out.below hb7).blk) 2
        refine hK.out _ _ (fun _ => ⟨x0, x1, x2, x3, x4⟩) (fun hS9 => ?_)
        replace hS9 := hS9 (by decide)
        clear hK K hS8 hgrow hown7
        simp only [Act.put, List.setIfInBounds_toArray, List.set_cons_zero, List.set_cons_succ]
        refine Lt.take (i := 10) (oi := { dst := some 29, op := Op.fieldAddr 29 (Operand.tmp 3) 2, type := 0, pos := "l4_records.go:52", after := #[{ on := 0, ground := Ground.phase }, { on := 1, ground := Ground.phase }, { on := 2, ground := Ground.phase }, { on := 3, ground := Ground.phase }, { on := 4, ground := Ground.phase }, { on := 5, ground := Ground.phase }, { on := 6, ground := Ground.phase }, { on := 7, ground := Ground.phase }, { on := 8, ground := Ground.phase }, { on := 9, ground := Ground.phase }], guard := none }) (v := ?_) rfl (by kernel_rfl) (by kernel_rfl) (by kernel_rfl) (by kernel_rfl) (fun _ _ _ h => h) hS9 (Or.inl ⟨by rfl, ?_⟩) ?_
        rotate_left 1
        · intro w hSw
          try dsimp only at hSw
          go_simp
          first | done | with_reducible rfl
        simp only [Act.put, List.setIfInBounds_toArray, List.set_cons_zero, List.set_cons_succ]
        refine Lt.step (i := 11) (o := { dst := none, op := Op.store 27 (Operand.tmp 29) (Operand.tmp 28), type := 0, pos := "l4_records.go:52", after := #[{ on := 10, ground := Ground.data }, { on := 9, ground := Ground.data }, { on := 9, ground := Ground.chain }, { on := 0, ground := Ground.phase }, { on := 1, ground := Ground.phase }, { on := 2, ground := Ground.phase }, { on := 3, ground := Ground.phase }, { on := 4, ground := Ground.phase }, { on := 5, ground := Ground.phase }, { on := 6, ground := Ground.phase }, { on := 7, ground := Ground.phase }, { on := 8, ground := Ground.phase }, { on := 9, ground := Ground.phase }], guard := none }) (by kernel_rfl) rfl (fun K hK => ?_)
        go_simp
        refine hK.out _ _ (fun h => absurd rfl h) (fun _ => ?_)
        clear hK K hS9
        refine Lt.done (by kernel_rfl) ?_ _
        go_wp2
        go_roundw
        case rel => exact ⟨k + 1, _, by omega, by go_num, HNP.out, hbP7.setCell (p := ⟨P, 2, none⟩) hPl _⟩
        case measure => simp [intOf]; omega
      · have ek : k = rs.length := by omega
        subst ek
        have kbr : wr.heap[w.heap.size + 1]? = some (.cells #[.int .i64 0, .slice none 0 0, .slice none 0 0] 29 (0, 0)) := blk_below HK1.out hbr
        obtain ⟨r0, r1, r2⟩ := blk_c3 kbr
        have fr : ∀ j, wr.frozen? ⟨w.heap.size + 1, j, none⟩ = false := fun j => Lib.frozen_of_heap kbr j
        obtain ⟨d0, d1, d2⟩ := HW.out.cell
        obtain ⟨o1, o2⟩ := HW.out.own (lo := W.heap.size) (hi := wr.heap.size) (Nat.le_refl _) (Nat.le_refl _)
        have HO1 : Hid (OwnX wr W.heap.size wr.heap.size (.slice (some ⟨g1, 0, none⟩) ts.length p1) ts) := o1
        have HO2 : Hid (OwnQ wr W.heap.size wr.heap.size v2 rs) := o2
        obtain ⟨a2, p2, rfl, _⟩ := o2.sl
        clear kbr hbr o1 o2 HW
        go_wp2
        refine bodyPost_ret (v := .agg #[.int .i64 wd, .slice (some ⟨g1, 0, none⟩) ts.length p1, .slice a2 rs.length p2]) (by simp [results, Tryz.results16, go_sem, r0, r1, r2]) rfl ⟨((hw.setCell (p := ⟨w.heap.size + 1, 0, none⟩) (by simp) _).setCell (p := ⟨w.heap.size + 1, 1, none⟩) (by simp) _).setCell (p := ⟨w.heap.size + 1, 2, none⟩) (by simp) _, _, _, _, rfl, ?_, ?_⟩
        · exact (((HO1.out.set (by omega) _).set (by omega) _).set (by omega) _).wide (by omega) (by simp)
        · exact (((HO2.out.set (by omega) _).set (by omega) _).set (by omega) _).wide (by omega) (by simp)

end Go.Proofs.YtllhbgmadiclcaaGreatDoor
