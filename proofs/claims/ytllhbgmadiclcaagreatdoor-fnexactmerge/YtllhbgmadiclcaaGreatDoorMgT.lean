import Derived.Test.YtllhbgmadiclcaaGreatDoorMgW
import Derived.Deep.DeepCutAuto
namespace Go.Proofs.YtllhbgmadiclcaaGreatDoor
open Go.RowKit Go.Deep
set_option linter.unusedVariables false

set_option maxRecDepth 100000 in
set_option maxHeartbeats 32000000 in
theorem mergeLaw (n : Int) (ta ra : Option Addr) (tc rc : Nat) (A : List ByteArray) (RA : List T3) (m : Int) (tb rb : Option Addr) (uc sc : Nat) (B : List ByteArray) (RB : List T3) (w : World) (hT : Tab w) (h : SoOk w ta A ra RA) (k : SoOk w tb B rb RB) :
    Calls Tryz.prog 3 #[.agg #[.int .i64 n, .slice ta A.length tc, .slice ra RA.length rc], .agg #[.int .i64 m, .slice tb B.length uc, .slice rb RB.length sc]] w fun e w' => e = .returned (.bool true) ∧ Below w.heap.size w w' := by
  have hb0 : Below w.heap.size w ((w.alloc (.cells #[.int .i64 n, .slice ta A.length tc, .slice ra RA.length rc] 25)).alloc (.cells #[.int .i64 m, .slice tb B.length uc, .slice rb RB.length sc] 25)) := ((Below.refl _ _).alloc (Nat.le_refl _) _).alloc (by simp) _
  have HZ0 : Hid (((w.alloc (.cells #[.int .i64 n, .slice ta A.length tc, .slice ra RA.length rc] 25)).alloc (.cells #[.int .i64 m, .slice tb B.length uc, .slice rb RB.length sc] 25)).heap[w.heap.size]? = some (.cells #[.int .i64 n, .slice ta A.length tc, .slice ra RA.length rc] 25 (0, 0))) := by show _ = _; rw [Lib.alloc_old _ _ _ (by simp)]; exact heapW_new _ _
  have HY0 : Hid (((w.alloc (.cells #[.int .i64 n, .slice ta A.length tc, .slice ra RA.length rc] 25)).alloc (.cells #[.int .i64 m, .slice tb B.length uc, .slice rb RB.length sc] 25)).heap[w.heap.size + 1]? = some (.cells #[.int .i64 m, .slice tb B.length uc, .slice rb RB.length sc] 25 (0, 0))) := heapW_new2 _ _ _
  have HO : Hid (SoOk w ta A ra RA) := h
  have HP : Hid (SoOk w tb B rb RB) := k
  have HT : Hid (Tab w) := hT
  clear h k hT
  go_enter Tryz.func3, Tryz.ntmps3
  go_wp2_with fail
  refine (szStore_left n ta ra tc rc A RA 1048576 (by omega) (by omega) _ (HO.out.below hb0)).mono ?_
  rintro e w1 ⟨hb1, r, rfl, hr⟩
  have hB1 := bt hb0 hb1
  have HZ1 : Hid (w1.heap[w.heap.size]? = some (.cells #[.int .i64 n, .slice ta A.length tc, .slice ra RA.length rc] 25 (0, 0))) := blk_below HZ0.out hb1
  have HY1 : Hid (w1.heap[w.heap.size + 1]? = some (.cells #[.int .i64 m, .slice tb B.length uc, .slice rb RB.length sc] 25 (0, 0))) := blk_below HY0.out hb1
  clear hb0 hb1 HZ0 HY0
  rcases hr with hr | ⟨hr0, hr1, hlA, hqA⟩
  · go_wp2
    go_ret
    exact ⟨rfl, hB1⟩
  have hr0d : decide (r < 0) = false := by simp; omega
  obtain ⟨z0, z1, z2⟩ := blk_c3 HZ1.out
  obtain ⟨y0, y1, y2⟩ := blk_c3 HY1.out
  go_wp2_with fail
  clear hr0d z0 z1 z2 y0 y1 y2
  refine (szStore_left m tb rb uc sc B RB r (by omega) (by omega) _ (HP.out.below hB1)).mono ?_
  rintro e w2 ⟨hb2, r2, rfl, hr2⟩
  have hB2 := bt hB1 hb2
  have HZ2 : Hid (w2.heap[w.heap.size]? = some (.cells #[.int .i64 n, .slice ta A.length tc, .slice ra RA.length rc] 25 (0, 0))) := blk_below HZ1.out hb2
  have HY2 : Hid (w2.heap[w.heap.size + 1]? = some (.cells #[.int .i64 m, .slice tb B.length uc, .slice rb RB.length sc] 25 (0, 0))) := blk_below HY1.out hb2
  clear hB1 hb2 HZ1 HY1 hr0 hr1
  rcases hr2 with hr2 | ⟨hr0, hr1, hlB, hqB⟩
  · go_wp2
    go_ret
    exact ⟨rfl, hB2⟩
  have hr0d : decide (r2 < 0) = false := by simp; omega
  have HSA : Hid (SoSm A RA) := ⟨hlA, hqA⟩
  have HSB : Hid (SoSm B RB) := ⟨hlB, hqB⟩
  have HTA : Hid (∀ W : World, Below w.heap.size w W → Calls Tryz.prog 6 #[.agg #[.int .i64 n, .slice ta A.length tc, .slice ra RA.length rc]] W fun e w' => Below W.heap.size W w' ∧ ∃ (g1 : Nat) (v2 : Value), e = .returned (.agg #[.int .i64 n, .slice (some ⟨g1, 0, none⟩) A.length A.length, v2]) ∧ OwnX w' W.heap.size w'.heap.size (.slice (some ⟨g1, 0, none⟩) A.length A.length) A ∧ OwnQ w' W.heap.size w'.heap.size v2 RA) := fun W hW => toStore_own n ta ra tc rc A RA W (HO.out.st.below hW) (HO.out.rq.below hW) hlA hqA
  have HTB : Hid (∀ W : World, Below w.heap.size w W → Calls Tryz.prog 6 #[.agg #[.int .i64 m, .slice tb B.length uc, .slice rb RB.length sc]] W fun e w' => Below W.heap.size W w' ∧ ∃ (g1 : Nat) (v2 : Value), e = .returned (.agg #[.int .i64 m, .slice (some ⟨g1, 0, none⟩) B.length B.length, v2]) ∧ OwnX w' W.heap.size w'.heap.size (.slice (some ⟨g1, 0, none⟩) B.length B.length) B ∧ OwnQ w' W.heap.size w'.heap.size v2 RB) := fun W hW => toStore_own m tb rb uc sc B RB W (HP.out.st.below hW) (HP.out.rq.below hW) hlB hqB
  have HSPEC : Hid (∀ (W : World) (lo hi g : Nat) (v2 : Value) (lo' hi' g' : Nat) (u2 : Value), OwnX W lo hi (.slice (some ⟨g, 0, none⟩) A.length A.length) A → OwnQ W lo hi v2 RA → OwnX W lo' hi' (.slice (some ⟨g', 0, none⟩) B.length B.length) B → OwnQ W lo' hi' u2 RB → Calls Tryz.prog 5 #[.agg #[.int .i64 n, .slice (some ⟨g, 0, none⟩) A.length A.length, v2], .agg #[.int .i64 m, .slice (some ⟨g', 0, none⟩) B.length B.length, u2]] W fun e w' => Below W.heap.size W w' ∧ KmOut W.heap.size w' e n A RA m B RB) := fun W lo hi g v2 lo' hi' g' u2 k1 k2 k3 k4 => specMerge_own HO.out HP.out k1 k2 HSA.out k3 k4 HSB.out
  have HIMP : Hid (∀ (cd wd : Int) (dT : List ByteArray) (dR : List T3) (X Y : ByteArray), MgP n A RA m B RB cd wd dT dR X Y → ∀ (W : World) (lo hi g : Nat) (v2 : Value) (lo' hi' g' : Nat) (u2 : Value), Tab W → OwnX W lo hi (.slice (some ⟨g, 0, none⟩) A.length A.length) A → OwnQ W lo hi v2 RA → OwnX W lo' hi' (.slice (some ⟨g', 0, none⟩) B.length B.length) B → OwnQ W lo' hi' u2 RB → Calls Tryz.prog 7 #[.agg #[.int .i64 n, .slice (some ⟨g, 0, none⟩) A.length A.length, v2], .agg #[.int .i64 m, .slice (some ⟨g', 0, none⟩) B.length B.length, u2]] W fun e w' => Below W.heap.size W w' ∧ ∃ v1 v2, e = .returned (.agg #[.int .i64 cd, .int .i64 wd, v1, v2, .string X, .string Y]) ∧ OwnX w' W.heap.size w'.heap.size v1 dT ∧ OwnQ w' W.heap.size w'.heap.size v2 dR) := fun cd wd dT dR X Y hm W lo hi g v2 lo' hi' g' u2 k0 k1 k2 k3 k4 => implMerge_own k0 HO.out HP.out k1 k2 HSA.out k3 k4 HSB.out hm
  clear hlA hqA hlB hqB
  obtain ⟨p0, p1, p2⟩ := blk_c3 HZ2.out
  obtain ⟨p3, p4, p5⟩ := blk_c3 HY2.out
  have hzY : w.heap.size + 1 < w2.heap.size := blkW_lt HY2.out
  have hbd : Below w2.heap.size w2 w2.drew := (Below.refl _ _).drew
  go_wp2_with fail
  clear hr0d
  go_cut [6] (fun p wx => ∃ (P : Nat) (cd wd : Int) (dT : List ByteArray) (dR : List T3) (X Y : ByteArray) (v1 v2 : Value), p = .pointer (some ⟨P, 0, none⟩) ∧ Hid (KpB wx P w2.heap.size wx.heap.size cd wd X Y v1 v2 dT dR) ∧ Hid (MgP n A RA m B RB cd wd dT dR X Y) ∧ w2.heap.size ≤ P ∧ Below w2.heap.size w2 wx)
  case first =>
    refine Lt.begin 6 (fun w' => w'.cell? ⟨w.heap.size, 0, none⟩ = some (.int .i64 n) ∧ w'.cell? ⟨w.heap.size, 1, none⟩ = some (.slice ta A.length tc) ∧ w'.cell? ⟨w.heap.size, 2, none⟩ = some (.slice ra RA.length rc) ∧ w'.cell? ⟨w.heap.size + 1, 0, none⟩ = some (.int .i64 m) ∧ w'.cell? ⟨w.heap.size + 1, 1, none⟩ = some (.slice tb B.length uc) ∧ w'.cell? ⟨w.heap.size + 1, 2, none⟩ = some (.slice rb RB.length sc)) (by kernel_rfl) ?_
    obtain ⟨wD, eD⟩ : ∃ y, w2.drew = y := ⟨_, rfl⟩
    rw [eD]
    have bD : Below w2.heap.size w2 wD := by rw [← eD]; exact (Below.refl _ _).drew
    have HS : ∀ V : World, Below w2.heap.size w2 V → (fun w' => w'.cell? ⟨w.heap.size, 0, none⟩ = some (.int .i64 n) ∧ w'.cell? ⟨w.heap.size, 1, none⟩ = some (.slice ta A.length tc) ∧ w'.cell? ⟨w.heap.size, 2, none⟩ = some (.slice ra RA.length rc) ∧ w'.cell? ⟨w.heap.size + 1, 0, none⟩ = some (.int .i64 m) ∧ w'.cell? ⟨w.heap.size + 1, 1, none⟩ = some (.slice tb B.length uc) ∧ w'.cell? ⟨w.heap.size + 1, 2, none⟩ = some (.slice rb RB.length sc)) V := fun V h => ⟨cell_below h p0, cell_below h p1, cell_below h p2, cell_below h p3, cell_below h p4, cell_below h p5⟩
    clear eD hbd p0 p1 p2 p3 p4 p5
    refine Lt.take (i := 0) (oi := { dst := some 24, op := Op.load 25 (Operand.tmp 2), type := 25, pos := "exact.go:2173", after := #[], guard := none }) (v := ?_) rfl (by kernel_rfl) (by kernel_rfl) (by kernel_rfl) (by kernel_rfl) (fun _ _ _ h => h) (HS _ bD) (Or.inl ⟨by rfl, ?_⟩) ?_
    rotate_left 1
    · rintro w ⟨s1, s2, s3, s4, s5, s6⟩
      go_simp
      first | done | with_reducible rfl
    simp only [Act.put]
    refine Lt.take (i := 2) (oi := { dst := some 26, op := Op.load 25 (Operand.tmp 3), type := 25, pos := "exact.go:2173", after := #[], guard := none }) (v := ?_) rfl (by kernel_rfl) (by kernel_rfl) (by kernel_rfl) (by kernel_rfl) (fun _ _ _ h => h) (HS _ bD) (Or.inl ⟨by rfl, ?_⟩) ?_
    rotate_left 1
    · rintro w ⟨s1, s2, s3, s4, s5, s6⟩
      go_simp
      first | done | with_reducible rfl
    simp only [Act.put]
    refine Lt.two (i := 1) (j := 5) (oi := { dst := some 25, op := Op.call { callee := Callee.value (Operand.func 6), args := #[Operand.tmp 24], argTypes := #[25] }, type := 29, pos := "exact.go:2173", after := #[{ on := 0, ground := Ground.data }], guard := none }) (oj := { dst := some 6, op := Op.alloc 31, type := 0, pos := "exact.go:2173", after := #[], guard := none }) (by kernel_rfl) rfl rfl (fun K hK => ?_) (fun K hK => ?_)
    · go_simp
      refine (HTA.out _ (bt hB2 bD)).mono ?_
      rintro e wA ⟨hbA, g1, q2, rfl, oy1, oy2⟩
      obtain ⟨a2, c2, rfl, _⟩ := oy2.sl
      have bA := bt bD hbA
      refine hK.out _ _ (fun _ => HS _ bA) (fun _ => ?_)
      clear hK K
      refine Lt.two (i := 3) (j := 5) (oi := { dst := some 27, op := Op.call { callee := Callee.value (Operand.func 6), args := #[Operand.tmp 26], argTypes := #[25] }, type := 29, pos := "exact.go:2173", after := #[{ on := 2, ground := Ground.data }, { on := 1, ground := Ground.chain }], guard := none }) (oj := { dst := some 6, op := Op.alloc 31, type := 0, pos := "exact.go:2173", after := #[], guard := none }) (by kernel_rfl) rfl rfl (fun K hK => ?_) (fun K hK => ?_)
      · go_simp
        refine (HTB.out _ (bt hB2 bA)).mono ?_
        rintro e wB ⟨hbB, g2, s2, rfl, ou1, ou2⟩
        obtain ⟨b2, d2, rfl, _⟩ := ou2.sl
        have bB := bt bA hbB
        replace oy1 := oy1.below hbB
        replace oy2 := oy2.below hbB
        refine hK.out _ _ (fun _ => HS _ bB) (fun _ => ?_)
        clear hK K
        refine Lt.two (i := 4) (j := 5) (oi := { dst := some 28, op := Op.call { callee := Callee.value (Operand.func 5), args := #[Operand.tmp 25, Operand.tmp 27], argTypes := #[29, 29] }, type := 31, pos := "exact.go:2173", after := #[{ on := 1, ground := Ground.data }, { on := 3, ground := Ground.data }, { on := 3, ground := Ground.chain }], guard := none }) (oj := { dst := some 6, op := Op.alloc 31, type := 0, pos := "exact.go:2173", after := #[], guard := none }) (by kernel_rfl) rfl rfl (fun K hK => ?_) (fun K hK => ?_)
        · go_simp
          refine (HSPEC.out _ _ _ _ _ _ _ _ _ oy1 oy2 ou1 ou2).mono ?_
          rintro e wC ⟨hbC, cd, wd, dT, dR, X, Y, v1, v2, rfl, hmg, o1, o2⟩
          have HMG : Hid (MgP n A RA m B RB cd wd dT dR X Y) := hmg
          clear hmg
          obtain ⟨e1, e2, rfl, _⟩ := o1.sl
          obtain ⟨f1, f2, rfl, _⟩ := o2.sl
          replace o1 := o1.wide (bB.size) (Nat.le_refl _)
          replace o2 := o2.wide (bB.size) (Nat.le_refl _)
          have bC := bt bB hbC
          refine hK.out _ _ (fun _ => HS _ bC) (fun _ => ?_)
          clear hK K
          clear oy1 oy2 ou1 ou2
          refine Lt.step (i := 5) (o := { dst := some 6, op := Op.alloc 31, type := 0, pos := "exact.go:2173", after := #[], guard := none }) (by kernel_rfl) rfl (fun K hK => ?_)
          go_simp
          obtain ⟨wP, eP⟩ : ∃ y, wC.alloc (.cells #[.int .i64 0, .int .i64 0, .slice none 0 0, .slice none 0 0, .string ⟨#[]⟩, .string ⟨#[]⟩] 31) = y := ⟨_, rfl⟩
          rw [eP]
          have hbP : Below wC.heap.size wC wP := by rw [← eP]; exact (Below.refl _ _).alloc (Nat.le_refl _) _
          have zP : wP.heap[wC.heap.size]? = some (.cells #[.int .i64 0, .int .i64 0, .slice none 0 0, .slice none 0 0, .string ⟨#[]⟩, .string ⟨#[]⟩] 31 (0, 0)) := by rw [← eP]; exact heapW_new _ _
          have bP := bt bC hbP
          have hPl : w2.heap.size ≤ wC.heap.size := bC.size
          replace o1 := o1.below hbP
          replace o2 := o2.below hbP
          replace o1 := o1.wide (Nat.le_refl _) hbP.size
          replace o2 := o2.wide (Nat.le_refl _) hbP.size
          refine hK.out _ _ (fun _ => HS _ bP) (fun _ => ?_)
          clear hK K eP
          obtain ⟨k0, k1, k2, k3, k4, k5⟩ := blk_c6 zP
          have kf := (fun j => Lib.frozen_of_heap zP j)
          refine Lt.step (i := 6) (o := { dst := none, op := Op.store 31 (Operand.tmp 6) (Operand.tmp 28), type := 0, pos := "exact.go:2173", after := #[{ on := 5, ground := Ground.data }, { on := 4, ground := Ground.data }, { on := 4, ground := Ground.chain }, { on := 0, ground := Ground.phase }, { on := 1, ground := Ground.phase }, { on := 2, ground := Ground.phase }, { on := 3, ground := Ground.phase }, { on := 4, ground := Ground.phase }, { on := 5, ground := Ground.phase }], guard := none }) (by kernel_rfl) rfl (fun K hK => ?_)
          go_simp
          refine hK.out _ _ (fun h => absurd rfl h) (fun _ => ?_)
          clear hK K
          refine Lt.done (by kernel_rfl) ?_ _
          go_wp2_with fail
          go_meet
          exact ⟨wC.heap.size, cd, wd, dT, dR, X, Y, _, _, rfl, (KpB.old zP o1 o2).wide (Nat.le_refl _) (by simp), HMG, hPl, below_set6P bP hPl _ _ _ _ _ _⟩
        · go_simp
          obtain ⟨wP, eP⟩ : ∃ y, wB.alloc (.cells #[.int .i64 0, .int .i64 0, .slice none 0 0, .slice none 0 0, .string ⟨#[]⟩, .string ⟨#[]⟩] 31) = y := ⟨_, rfl⟩
          rw [eP]
          have hbP : Below wB.heap.size wB wP := by rw [← eP]; exact (Below.refl _ _).alloc (Nat.le_refl _) _
          have zP : wP.heap[wB.heap.size]? = some (.cells #[.int .i64 0, .int .i64 0, .slice none 0 0, .slice none 0 0, .string ⟨#[]⟩, .string ⟨#[]⟩] 31 (0, 0)) := by rw [← eP]; exact heapW_new _ _
          have bP := bt bB hbP
          have hPl : w2.heap.size ≤ wB.heap.size := bB.size
          replace oy1 := oy1.below hbP
          replace oy2 := oy2.below hbP
          replace ou1 := ou1.below hbP
          replace ou2 := ou2.below hbP
          refine hK.out _ _ (fun _ => HS _ bP) (fun _ => ?_)
          clear hK K eP
          refine Lt.step (i := 4) (o := { dst := some 28, op := Op.call { callee := Callee.value (Operand.func 5), args := #[Operand.tmp 25, Operand.tmp 27], argTypes := #[29, 29] }, type := 31, pos := "exact.go:2173", after := #[{ on := 1, ground := Ground.data }, { on := 3, ground := Ground.data }, { on := 3, ground := Ground.chain }], guard := none }) (by kernel_rfl) rfl (fun K hK => ?_)
          go_simp
          refine (HSPEC.out _ _ _ _ _ _ _ _ _ oy1 oy2 ou1 ou2).mono ?_
          rintro e wC ⟨hbC, cd, wd, dT, dR, X, Y, v1, v2, rfl, hmg, o1, o2⟩
          have HMG : Hid (MgP n A RA m B RB cd wd dT dR X Y) := hmg
          clear hmg
          obtain ⟨e1, e2, rfl, _⟩ := o1.sl
          obtain ⟨f1, f2, rfl, _⟩ := o2.sl
          replace o1 := o1.wide (bP.size) (Nat.le_refl _)
          replace o2 := o2.wide (bP.size) (Nat.le_refl _)
          have bC := bt bP hbC
          replace zP := blk_below zP hbC
          refine hK.out _ _ (fun _ => HS _ bC) (fun _ => ?_)
          clear hK K
          clear oy1 oy2 ou1 ou2
          obtain ⟨k0, k1, k2, k3, k4, k5⟩ := blk_c6 zP
          have kf := (fun j => Lib.frozen_of_heap zP j)
          refine Lt.step (i := 6) (o := { dst := none, op := Op.store 31 (Operand.tmp 6) (Operand.tmp 28), type := 0, pos := "exact.go:2173", after := #[{ on := 5, ground := Ground.data }, { on := 4, ground := Ground.data }, { on := 4, ground := Ground.chain }, { on := 0, ground := Ground.phase }, { on := 1, ground := Ground.phase }, { on := 2, ground := Ground.phase }, { on := 3, ground := Ground.phase }, { on := 4, ground := Ground.phase }, { on := 5, ground := Ground.phase }], guard := none }) (by kernel_rfl) rfl (fun K hK => ?_)
          go_simp
          refine hK.out _ _ (fun h => absurd rfl h) (fun _ => ?_)
          clear hK K
          refine Lt.done (by kernel_rfl) ?_ _
          go_wp2_with fail
          go_meet
          exact ⟨wB.heap.size, cd, wd, dT, dR, X, Y, _, _, rfl, (KpB.old zP o1 o2).wide (Nat.le_refl _) (by simp), HMG, hPl, below_set6P bC hPl _ _ _ _ _ _⟩
      · go_simp
        obtain ⟨wP, eP⟩ : ∃ y, wA.alloc (.cells #[.int .i64 0, .int .i64 0, .slice none 0 0, .slice none 0 0, .string ⟨#[]⟩, .string ⟨#[]⟩] 31) = y := ⟨_, rfl⟩
        rw [eP]
        have hbP : Below wA.heap.size wA wP := by rw [← eP]; exact (Below.refl _ _).alloc (Nat.le_refl _) _
        have zP : wP.heap[wA.heap.size]? = some (.cells #[.int .i64 0, .int .i64 0, .slice none 0 0, .slice none 0 0, .string ⟨#[]⟩, .string ⟨#[]⟩] 31 (0, 0)) := by rw [← eP]; exact heapW_new _ _
        have bP := bt bA hbP
        have hPl : w2.heap.size ≤ wA.heap.size := bA.size
        replace oy1 := oy1.below hbP
        replace oy2 := oy2.below hbP
        refine hK.out _ _ (fun _ => HS _ bP) (fun _ => ?_)
        clear hK K eP
        refine Lt.step (i := 3) (o := { dst := some 27, op := Op.call { callee := Callee.value (Operand.func 6), args := #[Operand.tmp 26], argTypes := #[25] }, type := 29, pos := "exact.go:2173", after := #[{ on := 2, ground := Ground.data }, { on := 1, ground := Ground.chain }], guard := none }) (by kernel_rfl) rfl (fun K hK => ?_)
        go_simp
        refine (HTB.out _ (bt hB2 bP)).mono ?_
        rintro e wB ⟨hbB, g2, s2, rfl, ou1, ou2⟩
        obtain ⟨b2, d2, rfl, _⟩ := ou2.sl
        have bB := bt bP hbB
        replace oy1 := oy1.below hbB
        replace oy2 := oy2.below hbB
        replace zP := blk_below zP hbB
        refine hK.out _ _ (fun _ => HS _ bB) (fun _ => ?_)
        clear hK K
        refine Lt.step (i := 4) (o := { dst := some 28, op := Op.call { callee := Callee.value (Operand.func 5), args := #[Operand.tmp 25, Operand.tmp 27], argTypes := #[29, 29] }, type := 31, pos := "exact.go:2173", after := #[{ on := 1, ground := Ground.data }, { on := 3, ground := Ground.data }, { on := 3, ground := Ground.chain }], guard := none }) (by kernel_rfl) rfl (fun K hK => ?_)
        go_simp
        refine (HSPEC.out _ _ _ _ _ _ _ _ _ oy1 oy2 ou1 ou2).mono ?_
        rintro e wC ⟨hbC, cd, wd, dT, dR, X, Y, v1, v2, rfl, hmg, o1, o2⟩
        have HMG : Hid (MgP n A RA m B RB cd wd dT dR X Y) := hmg
        clear hmg
        obtain ⟨e1, e2, rfl, _⟩ := o1.sl
        obtain ⟨f1, f2, rfl, _⟩ := o2.sl
        replace o1 := o1.wide (bB.size) (Nat.le_refl _)
        replace o2 := o2.wide (bB.size) (Nat.le_refl _)
        have bC := bt bB hbC
        replace zP := blk_below zP hbC
        refine hK.out _ _ (fun _ => HS _ bC) (fun _ => ?_)
        clear hK K
        clear oy1 oy2 ou1 ou2
        obtain ⟨k0, k1, k2, k3, k4, k5⟩ := blk_c6 zP
        have kf := (fun j => Lib.frozen_of_heap zP j)
        refine Lt.step (i := 6) (o := { dst := none, op := Op.store 31 (Operand.tmp 6) (Operand.tmp 28), type := 0, pos := "exact.go:2173", after := #[{ on := 5, ground := Ground.data }, { on := 4, ground := Ground.data }, { on := 4, ground := Ground.chain }, { on := 0, ground := Ground.phase }, { on := 1, ground := Ground.phase }, { on := 2, ground := Ground.phase }, { on := 3, ground := Ground.phase }, { on := 4, ground := Ground.phase }, { on := 5, ground := Ground.phase }], guard := none }) (by kernel_rfl) rfl (fun K hK => ?_)
        go_simp
        refine hK.out _ _ (fun h => absurd rfl h) (fun _ => ?_)
        clear hK K
        refine Lt.done (by kernel_rfl) ?_ _
        go_wp2_with fail
        go_meet
        exact ⟨wA.heap.size, cd, wd, dT, dR, X, Y, _, _, rfl, (KpB.old zP o1 o2).wide (Nat.le_refl _) (by simp), HMG, hPl, below_set6P bC hPl _ _ _ _ _ _⟩
    · go_simp
      obtain ⟨wP, eP⟩ : ∃ y, wD.alloc (.cells #[.int .i64 0, .int .i64 0, .slice none 0 0, .slice none 0 0, .string ⟨#[]⟩, .string ⟨#[]⟩] 31) = y := ⟨_, rfl⟩
      rw [eP]
      have hbP : Below wD.heap.size wD wP := by rw [← eP]; exact (Below.refl _ _).alloc (Nat.le_refl _) _
      have zP : wP.heap[wD.heap.size]? = some (.cells #[.int .i64 0, .int .i64 0, .slice none 0 0, .slice none 0 0, .string ⟨#[]⟩, .string ⟨#[]⟩] 31 (0, 0)) := by rw [← eP]; exact heapW_new _ _
      have bP := bt bD hbP
      have hPl : w2.heap.size ≤ wD.heap.size := bD.size
      refine hK.out _ _ (fun _ => HS _ bP) (fun _ => ?_)
      clear hK K eP
      refine Lt.step (i := 1) (o := { dst := some 25, op := Op.call { callee := Callee.value (Operand.func 6), args := #[Operand.tmp 24], argTypes := #[25] }, type := 29, pos := "exact.go:2173", after := #[{ on := 0, ground := Ground.data }], guard := none }) (by kernel_rfl) rfl (fun K hK => ?_)
      go_simp
      refine (HTA.out _ (bt hB2 bP)).mono ?_
      rintro e wA ⟨hbA, g1, q2, rfl, oy1, oy2⟩
      obtain ⟨a2, c2, rfl, _⟩ := oy2.sl
      have bA := bt bP hbA
      replace zP := blk_below zP hbA
      refine hK.out _ _ (fun _ => HS _ bA) (fun _ => ?_)
      clear hK K
      refine Lt.step (i := 3) (o := { dst := some 27, op := Op.call { callee := Callee.value (Operand.func 6), args := #[Operand.tmp 26], argTypes := #[25] }, type := 29, pos := "exact.go:2173", after := #[{ on := 2, ground := Ground.data }, { on := 1, ground := Ground.chain }], guard := none }) (by kernel_rfl) rfl (fun K hK => ?_)
      go_simp
      refine (HTB.out _ (bt hB2 bA)).mono ?_
      rintro e wB ⟨hbB, g2, s2, rfl, ou1, ou2⟩
      obtain ⟨b2, d2, rfl, _⟩ := ou2.sl
      have bB := bt bA hbB
      replace oy1 := oy1.below hbB
      replace oy2 := oy2.below hbB
      replace zP := blk_below zP hbB
      refine hK.out _ _ (fun _ => HS _ bB) (fun _ => ?_)
      clear hK K
      refine Lt.step (i := 4) (o := { dst := some 28, op := Op.call { callee := Callee.value (Operand.func 5), args := #[Operand.tmp 25, Operand.tmp 27], argTypes := #[29, 29] }, type := 31, pos := "exact.go:2173", after := #[{ on := 1, ground := Ground.data }, { on := 3, ground := Ground.data }, { on := 3, ground := Ground.chain }], guard := none }) (by kernel_rfl) rfl (fun K hK => ?_)
      go_simp
      refine (HSPEC.out _ _ _ _ _ _ _ _ _ oy1 oy2 ou1 ou2).mono ?_
      rintro e wC ⟨hbC, cd, wd, dT, dR, X, Y, v1, v2, rfl, hmg, o1, o2⟩
      have HMG : Hid (MgP n A RA m B RB cd wd dT dR X Y) := hmg
      clear hmg
      obtain ⟨e1, e2, rfl, _⟩ := o1.sl
      obtain ⟨f1, f2, rfl, _⟩ := o2.sl
      replace o1 := o1.wide (bB.size) (Nat.le_refl _)
      replace o2 := o2.wide (bB.size) (Nat.le_refl _)
      have bC := bt bB hbC
      replace zP := blk_below zP hbC
      refine hK.out _ _ (fun _ => HS _ bC) (fun _ => ?_)
      clear hK K
      clear oy1 oy2 ou1 ou2
      obtain ⟨k0, k1, k2, k3, k4, k5⟩ := blk_c6 zP
      have kf := (fun j => Lib.frozen_of_heap zP j)
      refine Lt.step (i := 6) (o := { dst := none, op := Op.store 31 (Operand.tmp 6) (Operand.tmp 28), type := 0, pos := "exact.go:2173", after := #[{ on := 5, ground := Ground.data }, { on := 4, ground := Ground.data }, { on := 4, ground := Ground.chain }, { on := 0, ground := Ground.phase }, { on := 1, ground := Ground.phase }, { on := 2, ground := Ground.phase }, { on := 3, ground := Ground.phase }, { on := 4, ground := Ground.phase }, { on := 5, ground := Ground.phase }], guard := none }) (by kernel_rfl) rfl (fun K hK => ?_)
      go_simp
      refine hK.out _ _ (fun h => absurd rfl h) (fun _ => ?_)
      clear hK K
      refine Lt.done (by kernel_rfl) ?_ _
      go_wp2_with fail
      go_meet
      exact ⟨wD.heap.size, cd, wd, dT, dR, X, Y, _, _, rfl, (KpB.old zP o1 o2).wide (Nat.le_refl _) (by simp), HMG, hPl, below_set6P bC hPl _ _ _ _ _ _⟩
  case rest =>
    obtain ⟨P, cd, wd, dT, dR, X, Y, v1, v2, rfl, HV, HMG, hPl, hbx⟩ := hcut
    obtain ⟨wk, rfl⟩ : ∃ wk, wk = wc := ⟨wc, rfl⟩
    obtain ⟨va, vc, rfl, _⟩ := HV.out.s.sl
    obtain ⟨vb, vd, rfl, _⟩ := HV.out.t.sl
    clear p0 p1 p2 p3 p4 p5 hbd
    have hBk := bt hB2 hbx
    have HZk : Hid (wk.heap[w.heap.size]? = some (.cells #[.int .i64 n, .slice ta A.length tc, .slice ra RA.length rc] 25 (0, 0))) := blk_below HZ2.out hbx
    have HYk : Hid (wk.heap[w.heap.size + 1]? = some (.cells #[.int .i64 m, .slice tb B.length uc, .slice rb RB.length sc] 25 (0, 0))) := blk_below HY2.out hbx
    have hPc : P < wk.heap.size := blkW_lt HV.out.blk
    have hsk : w2.heap.size ≤ wk.heap.size := hbx.size
    have HSM : Hid (SoSm dT dR) := HMG.out.small HSA.out HSB.out
    have HDR : Hid (∀ (W : World) (lo hi g : Nat) (v2 : Value) (lo' hi' g' : Nat) (u2 : Value), Tab W → OwnX W lo hi (.slice (some ⟨g, 0, none⟩) A.length A.length) A → OwnQ W lo hi v2 RA → OwnX W lo' hi' (.slice (some ⟨g', 0, none⟩) B.length B.length) B → OwnQ W lo' hi' u2 RB → Calls Tryz.prog 7 #[.agg #[.int .i64 n, .slice (some ⟨g, 0, none⟩) A.length A.length, v2], .agg #[.int .i64 m, .slice (some ⟨g', 0, none⟩) B.length B.length, u2]] W fun e w' => Below W.heap.size W w' ∧ ∃ v1 v2, e = .returned (.agg #[.int .i64 cd, .int .i64 wd, v1, v2, .string X, .string Y]) ∧ OwnX w' W.heap.size w'.heap.size v1 dT ∧ OwnQ w' W.heap.size w'.heap.size v2 dR) := HIMP.out cd wd dT dR X Y HMG.out
    clear hbx HZ2 HY2 hB2 HMG HIMP HSPEC
    have HVk : Hid (KpB wk P w2.heap.size wk.heap.size cd wd X Y (.slice va dT.length vc) (.slice vb dR.length vd) dT dR) := HV
    clear HV
    obtain ⟨z0, z1, z2⟩ := blk_c3 HZk.out
    go_wp2_with fail
    refine (HTA.out wk hBk).mono ?_
    rintro e w5 ⟨hb5, xa, x2, rfl, o1, o2⟩
    obtain ⟨xb, xd, rfl, _⟩ := o2.sl
    have hB5 := bt hBk hb5
    obtain ⟨w6, e6⟩ : ∃ y, w5.alloc (.cells #[.int .i64 n, .slice (some ⟨xa, 0, none⟩) A.length A.length, .slice xb RA.length xd] 29) = y := ⟨_, rfl⟩
    have hb6 : Below w5.heap.size w5 w6 := by rw [← e6]; exact (Below.refl _ _).alloc (Nat.le_refl _) _
    have HX6 : Hid (SoM w6 w5.heap.size wk.heap.size w5.heap.size n (.slice (some ⟨xa, 0, none⟩) A.length A.length) (.slice xb RA.length xd) A RA) := by show SoM _ _ _ _ _ _ _ _ _; rw [← e6]; exact SoM.new o1 o2
    have hb56 := bt hb5 hb6
    have HZ6 : Hid (w6.heap[w.heap.size]? = some (.cells #[.int .i64 n, .slice ta A.length tc, .slice ra RA.length rc] 25 (0, 0))) := blk_below HZk.out hb56
    have HY6 : Hid (w6.heap[w.heap.size + 1]? = some (.cells #[.int .i64 m, .slice tb B.length uc, .slice rb RB.length sc] 25 (0, 0))) := blk_below HYk.out hb56
    have HV6 : Hid (KpB w6 P w2.heap.size wk.heap.size cd wd X Y (.slice va dT.length vc) (.slice vb dR.length vd) dT dR) := HVk.out.below hb56
    have hB6 := bt hB5 hb6
    have hsz5 : wk.heap.size ≤ w5.heap.size := hb5.size
    have hsz6 : w5.heap.size < w6.heap.size := blkW_lt HX6.out.blk
    clear HZk HYk HVk hb5 hb6 hb56 o1 o2 hBk hB5 z0 z1 z2
    obtain ⟨y0, y1, y2⟩ := blk_c3 HY6.out
    go_wp2_with fail
    clear e6
    refine (HTB.out w6 hB6).mono ?_
    rintro e w7 ⟨hb7, xe, x2, rfl, o1, o2⟩
    obtain ⟨xf, xg, rfl, _⟩ := o2.sl
    have hB7 := bt hB6 hb7
    obtain ⟨w8, e8⟩ : ∃ y, w7.alloc (.cells #[.int .i64 m, .slice (some ⟨xe, 0, none⟩) B.length B.length, .slice xf RB.length xg] 29) = y := ⟨_, rfl⟩
    have hb8 : Below w7.heap.size w7 w8 := by rw [← e8]; exact (Below.refl _ _).alloc (Nat.le_refl _) _
    have HW8 : Hid (SoM w8 w7.heap.size w6.heap.size w7.heap.size m (.slice (some ⟨xe, 0, none⟩) B.length B.length) (.slice xf RB.length xg) B RB) := by show SoM _ _ _ _ _ _ _ _ _; rw [← e8]; exact SoM.new o1 o2
    have hb78 := bt hb7 hb8
    have HZ8 : Hid (w8.heap[w.heap.size]? = some (.cells #[.int .i64 n, .slice ta A.length tc, .slice ra RA.length rc] 25 (0, 0))) := blk_below HZ6.out hb78
    have HY8 : Hid (w8.heap[w.heap.size + 1]? = some (.cells #[.int .i64 m, .slice tb B.length uc, .slice rb RB.length sc] 25 (0, 0))) := blk_below HY6.out hb78
    have HV8 : Hid (KpB w8 P w2.heap.size wk.heap.size cd wd X Y (.slice va dT.length vc) (.slice vb dR.length vd) dT dR) := HV6.out.below hb78
    have HX8 : Hid (SoM w8 w5.heap.size wk.heap.size w5.heap.size n (.slice (some ⟨xa, 0, none⟩) A.length A.length) (.slice xb RA.length xd) A RA) := HX6.out.below hb78
    have hB8 := bt hB7 hb8
    have hsz7 : w6.heap.size ≤ w7.heap.size := hb7.size
    have hsz8 : w7.heap.size < w8.heap.size := blkW_lt HW8.out.blk
    clear HZ6 HY6 HV6 HX6 hb7 hb8 hb78 o1 o2 hB6 hB7 y0 y1 y2
    obtain ⟨z0, z1, z2⟩ := HX8.out.c
    obtain ⟨y0, y1, y2⟩ := HW8.out.c
    go_wp2_with fail
    clear e8
    refine (HDR.out w8 _ _ _ _ _ _ _ _ (HT.out.below hB8) HX8.out.s HX8.out.t HW8.out.s HW8.out.t).mono ?_
    rintro e w9 ⟨hb9, h1, h2, rfl, o1, o2⟩
    obtain ⟨ga, gc, rfl, _⟩ := o1.sl
    obtain ⟨gb, gd, rfl, _⟩ := o2.sl
    have hB9 := bt hB8 hb9
    obtain ⟨w10, e10⟩ : ∃ y, w9.alloc (.cells #[.int .i64 cd, .int .i64 wd, .slice ga dT.length gc, .slice gb dR.length gd, .string X, .string Y] 31) = y := ⟨_, rfl⟩
    have hb10 : Below w9.heap.size w9 w10 := by rw [← e10]; exact (Below.refl _ _).alloc (Nat.le_refl _) _
    have HG10 : Hid (KpB w10 w9.heap.size w8.heap.size w9.heap.size cd wd X Y (.slice ga dT.length gc) (.slice gb dR.length gd) dT dR) := by show KpB _ _ _ _ _ _ _ _ _ _ _ _; rw [← e10]; exact KpB.new o1 o2
    have hb910 := bt hb9 hb10
    have HZ10 : Hid (w10.heap[w.heap.size]? = some (.cells #[.int .i64 n, .slice ta A.length tc, .slice ra RA.length rc] 25 (0, 0))) := blk_below HZ8.out hb910
    have HY10 : Hid (w10.heap[w.heap.size + 1]? = some (.cells #[.int .i64 m, .slice tb B.length uc, .slice rb RB.length sc] 25 (0, 0))) := blk_below HY8.out hb910
    have HV10 : Hid (KpB w10 P w2.heap.size wk.heap.size cd wd X Y (.slice va dT.length vc) (.slice vb dR.length vd) dT dR) := HV8.out.below hb910
    have HX10 : Hid (SoM w10 w5.heap.size wk.heap.size w5.heap.size n (.slice (some ⟨xa, 0, none⟩) A.length A.length) (.slice xb RA.length xd) A RA) := HX8.out.below hb910
    have HW10 : Hid (SoM w10 w7.heap.size w6.heap.size w7.heap.size m (.slice (some ⟨xe, 0, none⟩) B.length B.length) (.slice xf RB.length xg) B RB) := HW8.out.below hb910
    have hB10 := bt hB9 hb10
    have hsz9 : w8.heap.size ≤ w9.heap.size := hb9.size
    have hsz10 : w9.heap.size < w10.heap.size := blkW_lt HG10.out.blk
    clear HZ8 HY8 HV8 HX8 HW8 hb9 hb10 hb910 o1 o2 hB8 hB9 z0 z1 z2 y0 y1 y2
    obtain ⟨z0, z1, z2, z3, z4, z5⟩ := HG10.out.c
    obtain ⟨y0, y1, y2, y3, y4, y5⟩ := HV10.out.c
    go_wp2_with fail
    clear e10
    refine (eqKept_own cd wd X Y HG10.out.s HG10.out.t HV10.out.s HV10.out.t HSM.out).mono ?_
    rintro e w11 ⟨hb11, rfl⟩
    have hB11 := bt hB10 hb11
    have HZ11 : Hid (w11.heap[w.heap.size]? = some (.cells #[.int .i64 n, .slice ta A.length tc, .slice ra RA.length rc] 25 (0, 0))) := blk_below HZ10.out hb11
    have HY11 : Hid (w11.heap[w.heap.size + 1]? = some (.cells #[.int .i64 m, .slice tb B.length uc, .slice rb RB.length sc] 25 (0, 0))) := blk_below HY10.out hb11
    have HV11 : Hid (KpB w11 P w2.heap.size wk.heap.size cd wd X Y (.slice va dT.length vc) (.slice vb dR.length vd) dT dR) := HV10.out.below hb11
    have HX11 : Hid (SoM w11 w5.heap.size wk.heap.size w5.heap.size n (.slice (some ⟨xa, 0, none⟩) A.length A.length) (.slice xb RA.length xd) A RA) := HX10.out.below hb11
    have HW11 : Hid (SoM w11 w7.heap.size w6.heap.size w7.heap.size m (.slice (some ⟨xe, 0, none⟩) B.length B.length) (.slice xf RB.length xg) B RB) := HW10.out.below hb11
    have HG11 : Hid (KpB w11 w9.heap.size w8.heap.size w9.heap.size cd wd X Y (.slice ga dT.length gc) (.slice gb dR.length gd) dT dR) := HG10.out.below hb11
    have hsz11 : w10.heap.size ≤ w11.heap.size := hb11.size
    clear HZ10 HY10 HV10 HX10 HW10 HG10 hb11 hB10 z0 z1 z2 z3 z4 z5 y0 y1 y2 y3 y4 y5
    obtain ⟨z0, z1, z2⟩ := HX11.out.c
    obtain ⟨y0, y1, y2⟩ := blk_c3 HZ11.out
    have hbd : Below w11.heap.size w11 w11.drew := (Below.refl _ _).drew
    go_wp2_with fail
    go_region_held3 (fun w' => w'.cell? ⟨w5.heap.size, 0, none⟩ = some (.int .i64 n) ∧ w'.cell? ⟨w5.heap.size, 1, none⟩ = some (.slice (some ⟨xa, 0, none⟩) A.length A.length) ∧ w'.cell? ⟨w5.heap.size, 2, none⟩ = some (.slice xb RA.length xd) ∧ w'.cell? ⟨w.heap.size, 0, none⟩ = some (.int .i64 n) ∧ w'.cell? ⟨w.heap.size, 1, none⟩ = some (.slice ta A.length tc) ∧ w'.cell? ⟨w.heap.size, 2, none⟩ = some (.slice ra RA.length rc))
      (first | (with_reducible exact ⟨cell_below hb13 s0, cell_below hb13 s1, cell_below hb13 s2, cell_below hb13 s3, cell_below hb13 s4, cell_below hb13 s5⟩) | (with_reducible exact ⟨s0, s1, s2, s3, s4, s5⟩) | exact ⟨z0, z1, z2, y0, y1, y2⟩)
      (first | (go_at_call 6; refine (HTA.out _ hB11.drew).mono ?_; rintro e w12 ⟨hb12, f1, f2, rfl, of1, of2⟩; obtain ⟨fb, fd, rfl, _⟩ := of2.sl; have s0 := cell_below (bt hbd hb12) z0; have s1 := cell_below (bt hbd hb12) z1; have s2 := cell_below (bt hbd hb12) z2; have s3 := cell_below (bt hbd hb12) y0; have s4 := cell_below (bt hbd hb12) y1; have s5 := cell_below (bt hbd hb12) y2; have HX12t : Hid (SoM w12 w5.heap.size wk.heap.size w5.heap.size n (.slice (some ⟨xa, 0, none⟩) A.length A.length) (.slice xb RA.length xd) A RA) := HX11.out.below (bt hbd hb12)) | (go_at_call 9; refine (eqStore_own n HX12t.out.s HX12t.out.t of1 of2 HSA.out).mono ?_; rintro e w13 ⟨hb13, rfl⟩))
    have hbuv : Below w11.heap.size w11 w13 := bt (bt hbd hb12) hb13
    have hB13 := bt hB11 hbuv
    have HZ13 : Hid (w13.heap[w.heap.size]? = some (.cells #[.int .i64 n, .slice ta A.length tc, .slice ra RA.length rc] 25 (0, 0))) := blk_below HZ11.out hbuv
    have HY13 : Hid (w13.heap[w.heap.size + 1]? = some (.cells #[.int .i64 m, .slice tb B.length uc, .slice rb RB.length sc] 25 (0, 0))) := blk_below HY11.out hbuv
    have HV13 : Hid (KpB w13 P w2.heap.size wk.heap.size cd wd X Y (.slice va dT.length vc) (.slice vb dR.length vd) dT dR) := HV11.out.below hbuv
    have HX13 : Hid (SoM w13 w5.heap.size wk.heap.size w5.heap.size n (.slice (some ⟨xa, 0, none⟩) A.length A.length) (.slice xb RA.length xd) A RA) := HX11.out.below hbuv
    have HW13 : Hid (SoM w13 w7.heap.size w6.heap.size w7.heap.size m (.slice (some ⟨xe, 0, none⟩) B.length B.length) (.slice xf RB.length xg) B RB) := HW11.out.below hbuv
    have HG13 : Hid (KpB w13 w9.heap.size w8.heap.size w9.heap.size cd wd X Y (.slice ga dT.length gc) (.slice gb dR.length gd) dT dR) := HG11.out.below hbuv
    have hsz13 : w11.heap.size ≤ w13.heap.size := hbuv.size
    clear HZ11 HY11 HV11 HX11 HW11 HG11 hbuv hb12 hb13 hbd hB11 HX12t of1 of2 z0 z1 z2 y0 y1 y2 s0 s1 s2 s3 s4 s5
    obtain ⟨z0, z1, z2⟩ := HW13.out.c
    obtain ⟨y0, y1, y2⟩ := blk_c3 HY13.out
    have hbd : Below w13.heap.size w13 w13.drew := (Below.refl _ _).drew
    go_wp2_with fail
    go_region_held3 (fun w' => w'.cell? ⟨w7.heap.size, 0, none⟩ = some (.int .i64 m) ∧ w'.cell? ⟨w7.heap.size, 1, none⟩ = some (.slice (some ⟨xe, 0, none⟩) B.length B.length) ∧ w'.cell? ⟨w7.heap.size, 2, none⟩ = some (.slice xf RB.length xg) ∧ w'.cell? ⟨w.heap.size + 1, 0, none⟩ = some (.int .i64 m) ∧ w'.cell? ⟨w.heap.size + 1, 1, none⟩ = some (.slice tb B.length uc) ∧ w'.cell? ⟨w.heap.size + 1, 2, none⟩ = some (.slice rb RB.length sc))
      (first | (with_reducible exact ⟨cell_below hb15 s0, cell_below hb15 s1, cell_below hb15 s2, cell_below hb15 s3, cell_below hb15 s4, cell_below hb15 s5⟩) | (with_reducible exact ⟨s0, s1, s2, s3, s4, s5⟩) | exact ⟨z0, z1, z2, y0, y1, y2⟩)
      (first | (go_at_call 6; refine (HTB.out _ hB13.drew).mono ?_; rintro e w14 ⟨hb14, f1, f2, rfl, of1, of2⟩; obtain ⟨fb, fd, rfl, _⟩ := of2.sl; have s0 := cell_below (bt hbd hb14) z0; have s1 := cell_below (bt hbd hb14) z1; have s2 := cell_below (bt hbd hb14) z2; have s3 := cell_below (bt hbd hb14) y0; have s4 := cell_below (bt hbd hb14) y1; have s5 := cell_below (bt hbd hb14) y2; have HX14t : Hid (SoM w14 w7.heap.size w6.heap.size w7.heap.size m (.slice (some ⟨xe, 0, none⟩) B.length B.length) (.slice xf RB.length xg) B RB) := HW13.out.below (bt hbd hb14)) | (go_at_call 9; refine (eqStore_own m HX14t.out.s HX14t.out.t of1 of2 HSB.out).mono ?_; rintro e w15 ⟨hb15, rfl⟩))
    have hbuv : Below w13.heap.size w13 w15 := bt (bt hbd hb14) hb15
    have hB15 := bt hB13 hbuv
    have HZ15 : Hid (w15.heap[w.heap.size]? = some (.cells #[.int .i64 n, .slice ta A.length tc, .slice ra RA.length rc] 25 (0, 0))) := blk_below HZ13.out hbuv
    have HY15 : Hid (w15.heap[w.heap.size + 1]? = some (.cells #[.int .i64 m, .slice tb B.length uc, .slice rb RB.length sc] 25 (0, 0))) := blk_below HY13.out hbuv
    have HV15 : Hid (KpB w15 P w2.heap.size wk.heap.size cd wd X Y (.slice va dT.length vc) (.slice vb dR.length vd) dT dR) := HV13.out.below hbuv
    have HX15 : Hid (SoM w15 w5.heap.size wk.heap.size w5.heap.size n (.slice (some ⟨xa, 0, none⟩) A.length A.length) (.slice xb RA.length xd) A RA) := HX13.out.below hbuv
    have HW15 : Hid (SoM w15 w7.heap.size w6.heap.size w7.heap.size m (.slice (some ⟨xe, 0, none⟩) B.length B.length) (.slice xf RB.length xg) B RB) := HW13.out.below hbuv
    have HG15 : Hid (KpB w15 w9.heap.size w8.heap.size w9.heap.size cd wd X Y (.slice ga dT.length gc) (.slice gb dR.length gd) dT dR) := HG13.out.below hbuv
    have hsz15 : w13.heap.size ≤ w15.heap.size := hbuv.size
    clear HZ13 HY13 HV13 HX13 HW13 HG13 hbuv hb14 hb15 hbd hB13 HX14t of1 of2 z0 z1 z2 y0 y1 y2 s0 s1 s2 s3 s4 s5
    obtain ⟨z0, z1, z2⟩ := HX15.out.c
    go_wp2_with fail
    refine (markStore_from n 1 (Nat.le_refl _) (by omega) HX15.out.s HX15.out.t (by omega) HSA.out).mono ?_
    rintro e w16 ⟨K1, rfl, hK1, hK1b, hb16, hk16⟩
    have hB16 : Below w.heap.size w w16 := hB15.trans (hb16.mono (by omega))
    have HZ16 : Hid (w16.heap[w.heap.size]? = some (.cells #[.int .i64 n, .slice ta A.length tc, .slice ra RA.length rc] 25 (0, 0))) := blk_keepR HZ15.out hk16 (Or.inl (by omega))
    have HY16 : Hid (w16.heap[w.heap.size + 1]? = some (.cells #[.int .i64 m, .slice tb B.length uc, .slice rb RB.length sc] 25 (0, 0))) := blk_keepR HY15.out hk16 (Or.inl (by omega))
    have HV16 : Hid (KpB w16 P w2.heap.size wk.heap.size cd wd X Y (.slice va dT.length vc) (.slice vb dR.length vd) dT dR) := HV15.out.keep hk16 (Or.inl (by omega)) (Or.inl (by omega))
    have HW16 : Hid (SoM w16 w7.heap.size w6.heap.size w7.heap.size m (.slice (some ⟨xe, 0, none⟩) B.length B.length) (.slice xf RB.length xg) B RB) := HW15.out.keep hk16 (Or.inr (by omega)) (Or.inr (by omega))
    have HG16 : Hid (KpB w16 w9.heap.size w8.heap.size w9.heap.size cd wd X Y (.slice ga dT.length gc) (.slice gb dR.length gd) dT dR) := HG15.out.keep hk16 (Or.inr (by omega)) (Or.inr (by omega))
    have hsz16 : w15.heap.size ≤ w16.heap.size := hb16.size
    clear HZ15 HY15 HV15 HX15 HW15 HG15 hb16 hk16 hB15 z0 z1 z2
    obtain ⟨z0, z1, z2⟩ := HW16.out.c
    go_wp2_with fail
    refine (markStore_from m K1 hK1 (by omega) HW16.out.s HW16.out.t (by omega) HSB.out).mono ?_
    rintro e w17 ⟨K2, rfl, hK2, hK2b, hb17, hk17⟩
    have hB17 : Below w.heap.size w w17 := hB16.trans (hb17.mono (by omega))
    have HZ17 : Hid (w17.heap[w.heap.size]? = some (.cells #[.int .i64 n, .slice ta A.length tc, .slice ra RA.length rc] 25 (0, 0))) := blk_keepR HZ16.out hk17 (Or.inl (by omega))
    have HY17 : Hid (w17.heap[w.heap.size + 1]? = some (.cells #[.int .i64 m, .slice tb B.length uc, .slice rb RB.length sc] 25 (0, 0))) := blk_keepR HY16.out hk17 (Or.inl (by omega))
    have HV17 : Hid (KpB w17 P w2.heap.size wk.heap.size cd wd X Y (.slice va dT.length vc) (.slice vb dR.length vd) dT dR) := HV16.out.keep hk17 (Or.inl (by omega)) (Or.inl (by omega))
    have HG17 : Hid (KpB w17 w9.heap.size w8.heap.size w9.heap.size cd wd X Y (.slice ga dT.length gc) (.slice gb dR.length gd) dT dR) := HG16.out.keep hk17 (Or.inr (by omega)) (Or.inr (by omega))
    have hsz17 : w16.heap.size ≤ w17.heap.size := hb17.size
    clear HZ16 HY16 HV16 HW16 HG16 hb17 hk17 hB16 z0 z1 z2 hK1 hK1b hK2b
    have hk0 : decide ((K2 : Int) < 0) = false := by simp
    obtain ⟨z0, z1, z2, z3, z4, z5⟩ := HG17.out.c
    obtain ⟨y0, y1, y2, y3, y4, y5⟩ := HV17.out.c
    go_wp2_with fail
    clear hk0 hK2
    refine (eqKept_own cd wd X Y HG17.out.s HG17.out.t HV17.out.s HV17.out.t HSM.out).mono ?_
    rintro e w18 ⟨hb18, rfl⟩
    have hB18 := bt hB17 hb18
    have HZ18 : Hid (w18.heap[w.heap.size]? = some (.cells #[.int .i64 n, .slice ta A.length tc, .slice ra RA.length rc] 25 (0, 0))) := blk_below HZ17.out hb18
    have HY18 : Hid (w18.heap[w.heap.size + 1]? = some (.cells #[.int .i64 m, .slice tb B.length uc, .slice rb RB.length sc] 25 (0, 0))) := blk_below HY17.out hb18
    have HV18 : Hid (KpB w18 P w2.heap.size wk.heap.size cd wd X Y (.slice va dT.length vc) (.slice vb dR.length vd) dT dR) := HV17.out.below hb18
    have HG18 : Hid (KpB w18 w9.heap.size w8.heap.size w9.heap.size cd wd X Y (.slice ga dT.length gc) (.slice gb dR.length gd) dT dR) := HG17.out.below hb18
    have hsz18 : w17.heap.size ≤ w18.heap.size := hb18.size
    clear HZ17 HY17 HV17 HG17 hb18 hB17 z0 z1 z2 z3 z4 z5 y0 y1 y2 y3 y4 y5
    obtain ⟨z0, z1, z2, z3, z4, z5⟩ := HG18.out.c
    go_wp2_with fail
    refine (markKept_own cd wd X Y HG18.out.s HG18.out.t (by omega) HSM.out).mono ?_
    rintro e w19 ⟨rfl, hb19, hk19, hm19⟩
    have hB19 : Below w.heap.size w w19 := hB18.trans (hb19.mono (by omega))
    have HQ19 : Hid (w19.heap[w9.heap.size]? = some (.cells #[.int .i64 cd, .int .i64 wd, .slice ga dT.length gc, .slice gb dR.length gd, .string X, .string Y] 31 (0, 0))) := blk_keepR HG18.out.blk hk19 (Or.inr (Nat.le_refl _))
    have HZ19 : Hid (w19.heap[w.heap.size]? = some (.cells #[.int .i64 n, .slice ta A.length tc, .slice ra RA.length rc] 25 (0, 0))) := blk_keepR HZ18.out hk19 (Or.inl (by omega))
    have HY19 : Hid (w19.heap[w.heap.size + 1]? = some (.cells #[.int .i64 m, .slice tb B.length uc, .slice rb RB.length sc] 25 (0, 0))) := blk_keepR HY18.out hk19 (Or.inl (by omega))
    have HV19 : Hid (KpB w19 P w2.heap.size wk.heap.size cd wd X Y (.slice va dT.length vc) (.slice vb dR.length vd) dT dR) := HV18.out.keep hk19 (Or.inl (by omega)) (Or.inl (by omega))
    have HM19 : Hid (MkL w19 w8.heap.size w9.heap.size (.slice ga dT.length gc) (.slice gb dR.length gd) dT dR) := hm19
    have hsz19 : w18.heap.size ≤ w19.heap.size := hb19.size
    clear HZ18 HY18 HV18 HG18 hb19 hk19 hm19 hB18 z0 z1 z2 z3 z4 z5
    have hk0 : decide (((kS dT dR : Nat) : Int) < 0) = false := by simp
    have hkk : (((kS dT dR : Nat) : Int) != ((kS dT dR : Nat) : Int)) = false := by simp
    have HH : Hid (∀ W : World, MkL W w8.heap.size w9.heap.size (.slice ga dT.length gc) (.slice gb dR.length gd) dT dR → Calls Tryz.prog 12 #[.agg #[.int .i64 cd, .int .i64 wd, .slice ga dT.length gc, .slice gb dR.length gd, .string X, .string Y], .int .i64 1] W fun e w' => e = .returned (.int .i64 ((kS dT dR : Nat) : Int)) ∧ Below W.heap.size W w') := fun W hW => heldKept_own cd wd X Y hW HSM.out
    generalize kS dT dR = K3 at *
    obtain ⟨z0, z1, z2, z3, z4, z5⟩ := blk_c6 HQ19.out
    go_wp2_with fail
    refine (HH.out w19 HM19.out).mono ?_
    rintro e w20 ⟨rfl, hb20⟩
    have hB20 := bt hB19 hb20
    have HZ20 : Hid (w20.heap[w.heap.size]? = some (.cells #[.int .i64 n, .slice ta A.length tc, .slice ra RA.length rc] 25 (0, 0))) := blk_below HZ19.out hb20
    have HY20 : Hid (w20.heap[w.heap.size + 1]? = some (.cells #[.int .i64 m, .slice tb B.length uc, .slice rb RB.length sc] 25 (0, 0))) := blk_below HY19.out hb20
    have HV20 : Hid (KpB w20 P w2.heap.size wk.heap.size cd wd X Y (.slice va dT.length vc) (.slice vb dR.length vd) dT dR) := HV19.out.below hb20
    have HQ20 : Hid (w20.heap[w9.heap.size]? = some (.cells #[.int .i64 cd, .int .i64 wd, .slice ga dT.length gc, .slice gb dR.length gd, .string X, .string Y] 31 (0, 0))) := blk_below HQ19.out hb20
    have HM20 : Hid (MkL w20 w8.heap.size w9.heap.size (.slice ga dT.length gc) (.slice gb dR.length gd) dT dR) := HM19.out.below hb20
    have hsz20 : w19.heap.size ≤ w20.heap.size := hb20.size
    clear HZ19 HY19 HV19 HQ19 HM19 hb20 hB19 z0 z1 z2 z3 z4 z5
    obtain ⟨p0, p1, p2⟩ := blk_c3 HZ20.out
    obtain ⟨p3, p4, p5⟩ := blk_c3 HY20.out
    have hz20 : w.heap.size + 1 < w20.heap.size := blkW_lt HY20.out
    have hbd : Below w20.heap.size w20 w20.drew := (Below.refl _ _).drew
    go_wp2_with fail
    go_cut [13] (fun p wx => ∃ (P : Nat) (v1 v2 : Value), p = .pointer (some ⟨P, 0, none⟩) ∧ Hid (KpB wx P w20.heap.size wx.heap.size cd wd X Y v1 v2 dT dR) ∧ w20.heap.size ≤ P ∧ Below w20.heap.size w20 wx)
    case first =>
      refine Lt.begin 6 (fun w' => w'.cell? ⟨w.heap.size, 0, none⟩ = some (.int .i64 n) ∧ w'.cell? ⟨w.heap.size, 1, none⟩ = some (.slice ta A.length tc) ∧ w'.cell? ⟨w.heap.size, 2, none⟩ = some (.slice ra RA.length rc) ∧ w'.cell? ⟨w.heap.size + 1, 0, none⟩ = some (.int .i64 m) ∧ w'.cell? ⟨w.heap.size + 1, 1, none⟩ = some (.slice tb B.length uc) ∧ w'.cell? ⟨w.heap.size + 1, 2, none⟩ = some (.slice rb RB.length sc)) (by kernel_rfl) ?_
      obtain ⟨wD, eD⟩ : ∃ y, w20.drew = y := ⟨_, rfl⟩
      rw [eD]
      have bD : Below w20.heap.size w20 wD := by rw [← eD]; exact (Below.refl _ _).drew
      have HS : ∀ V : World, Below w20.heap.size w20 V → (fun w' => w'.cell? ⟨w.heap.size, 0, none⟩ = some (.int .i64 n) ∧ w'.cell? ⟨w.heap.size, 1, none⟩ = some (.slice ta A.length tc) ∧ w'.cell? ⟨w.heap.size, 2, none⟩ = some (.slice ra RA.length rc) ∧ w'.cell? ⟨w.heap.size + 1, 0, none⟩ = some (.int .i64 m) ∧ w'.cell? ⟨w.heap.size + 1, 1, none⟩ = some (.slice tb B.length uc) ∧ w'.cell? ⟨w.heap.size + 1, 2, none⟩ = some (.slice rb RB.length sc)) V := fun V h => ⟨cell_below h p0, cell_below h p1, cell_below h p2, cell_below h p3, cell_below h p4, cell_below h p5⟩
      clear eD hbd p0 p1 p2 p3 p4 p5
      refine Lt.take (i := 0) (oi := { dst := some 75, op := Op.load 25 (Operand.tmp 2), type := 25, pos := "exact.go:2202", after := #[], guard := none }) (v := ?_) rfl (by kernel_rfl) (by kernel_rfl) (by kernel_rfl) (by kernel_rfl) (fun _ _ _ h => h) (HS _ bD) (Or.inl ⟨by rfl, ?_⟩) ?_
      rotate_left 1
      · rintro w ⟨s1, s2, s3, s4, s5, s6⟩
        go_simp
        first | done | with_reducible rfl
      simp only [Act.put]
      refine Lt.take (i := 2) (oi := { dst := some 77, op := Op.load 25 (Operand.tmp 3), type := 25, pos := "exact.go:2202", after := #[], guard := none }) (v := ?_) rfl (by kernel_rfl) (by kernel_rfl) (by kernel_rfl) (by kernel_rfl) (fun _ _ _ h => h) (HS _ bD) (Or.inl ⟨by rfl, ?_⟩) ?_
      rotate_left 1
      · rintro w ⟨s1, s2, s3, s4, s5, s6⟩
        go_simp
        first | done | with_reducible rfl
      simp only [Act.put]
      refine Lt.two (i := 1) (j := 5) (oi := { dst := some 76, op := Op.call { callee := Callee.value (Operand.func 6), args := #[Operand.tmp 75], argTypes := #[25] }, type := 29, pos := "exact.go:2202", after := #[{ on := 0, ground := Ground.data }], guard := none }) (oj := { dst := some 13, op := Op.alloc 31, type := 0, pos := "exact.go:2202", after := #[], guard := none }) (by kernel_rfl) rfl rfl (fun K hK => ?_) (fun K hK => ?_)
      · go_simp
        refine (HTA.out _ (bt hB20 bD)).mono ?_
        rintro e wA ⟨hbA, g1, q2, rfl, oy1, oy2⟩
        obtain ⟨a2, c2, rfl, _⟩ := oy2.sl
        have bA := bt bD hbA
        refine hK.out _ _ (fun _ => HS _ bA) (fun _ => ?_)
        clear hK K
        refine Lt.two (i := 3) (j := 5) (oi := { dst := some 78, op := Op.call { callee := Callee.value (Operand.func 6), args := #[Operand.tmp 77], argTypes := #[25] }, type := 29, pos := "exact.go:2202", after := #[{ on := 2, ground := Ground.data }, { on := 1, ground := Ground.chain }], guard := none }) (oj := { dst := some 13, op := Op.alloc 31, type := 0, pos := "exact.go:2202", after := #[], guard := none }) (by kernel_rfl) rfl rfl (fun K hK => ?_) (fun K hK => ?_)
        · go_simp
          refine (HTB.out _ (bt hB20 bA)).mono ?_
          rintro e wB ⟨hbB, g2, s2, rfl, ou1, ou2⟩
          obtain ⟨b2, d2, rfl, _⟩ := ou2.sl
          have bB := bt bA hbB
          replace oy1 := oy1.below hbB
          replace oy2 := oy2.below hbB
          refine hK.out _ _ (fun _ => HS _ bB) (fun _ => ?_)
          clear hK K
          refine Lt.two (i := 4) (j := 5) (oi := { dst := some 79, op := Op.call { callee := Callee.value (Operand.func 7), args := #[Operand.tmp 76, Operand.tmp 78], argTypes := #[29, 29] }, type := 31, pos := "exact.go:2202", after := #[{ on := 1, ground := Ground.data }, { on := 3, ground := Ground.data }, { on := 3, ground := Ground.chain }], guard := none }) (oj := { dst := some 13, op := Op.alloc 31, type := 0, pos := "exact.go:2202", after := #[], guard := none }) (by kernel_rfl) rfl rfl (fun K hK => ?_) (fun K hK => ?_)
          · go_simp
            refine (HDR.out _ _ _ _ _ _ _ _ _ (HT.out.below (bt hB20 bB)) oy1 oy2 ou1 ou2).mono ?_
            rintro e wC ⟨hbC, v1, v2, rfl, o1, o2⟩
            obtain ⟨e1, e2, rfl, _⟩ := o1.sl
            obtain ⟨f1, f2, rfl, _⟩ := o2.sl
            replace o1 := o1.wide (bB.size) (Nat.le_refl _)
            replace o2 := o2.wide (bB.size) (Nat.le_refl _)
            have bC := bt bB hbC
            refine hK.out _ _ (fun _ => HS _ bC) (fun _ => ?_)
            clear hK K
            clear oy1 oy2 ou1 ou2
            refine Lt.step (i := 5) (o := { dst := some 13, op := Op.alloc 31, type := 0, pos := "exact.go:2202", after := #[], guard := none }) (by kernel_rfl) rfl (fun K hK => ?_)
            go_simp
            obtain ⟨wP, eP⟩ : ∃ y, wC.alloc (.cells #[.int .i64 0, .int .i64 0, .slice none 0 0, .slice none 0 0, .string ⟨#[]⟩, .string ⟨#[]⟩] 31) = y := ⟨_, rfl⟩
            rw [eP]
            have hbP : Below wC.heap.size wC wP := by rw [← eP]; exact (Below.refl _ _).alloc (Nat.le_refl _) _
            have zP : wP.heap[wC.heap.size]? = some (.cells #[.int .i64 0, .int .i64 0, .slice none 0 0, .slice none 0 0, .string ⟨#[]⟩, .string ⟨#[]⟩] 31 (0, 0)) := by rw [← eP]; exact heapW_new _ _
            have bP := bt bC hbP
            have hPl : w20.heap.size ≤ wC.heap.size := bC.size
            replace o1 := o1.below hbP
            replace o2 := o2.below hbP
            replace o1 := o1.wide (Nat.le_refl _) hbP.size
            replace o2 := o2.wide (Nat.le_refl _) hbP.size
            refine hK.out _ _ (fun _ => HS _ bP) (fun _ => ?_)
            clear hK K eP
            obtain ⟨k0, k1, k2, k3, k4, k5⟩ := blk_c6 zP
            have kf := (fun j => Lib.frozen_of_heap zP j)
            refine Lt.step (i := 6) (o := { dst := none, op := Op.store 31 (Operand.tmp 13) (Operand.tmp 79), type := 0, pos := "exact.go:2202", after := #[{ on := 5, ground := Ground.data }, { on := 4, ground := Ground.data }, { on := 4, ground := Ground.chain }, { on := 0, ground := Ground.phase }, { on := 1, ground := Ground.phase }, { on := 2, ground := Ground.phase }, { on := 3, ground := Ground.phase }, { on := 4, ground := Ground.phase }, { on := 5, ground := Ground.phase }], guard := none }) (by kernel_rfl) rfl (fun K hK => ?_)
            go_simp
            refine hK.out _ _ (fun h => absurd rfl h) (fun _ => ?_)
            clear hK K
            refine Lt.done (by kernel_rfl) ?_ _
            go_wp2_with fail
            go_meet
            exact ⟨wC.heap.size, _, _, rfl, (KpB.old zP o1 o2).wide (Nat.le_refl _) (by simp), hPl, below_set6P bP hPl _ _ _ _ _ _⟩
          · go_simp
            obtain ⟨wP, eP⟩ : ∃ y, wB.alloc (.cells #[.int .i64 0, .int .i64 0, .slice none 0 0, .slice none 0 0, .string ⟨#[]⟩, .string ⟨#[]⟩] 31) = y := ⟨_, rfl⟩
            rw [eP]
            have hbP : Below wB.heap.size wB wP := by rw [← eP]; exact (Below.refl _ _).alloc (Nat.le_refl _) _
            have zP : wP.heap[wB.heap.size]? = some (.cells #[.int .i64 0, .int .i64 0, .slice none 0 0, .slice none 0 0, .string ⟨#[]⟩, .string ⟨#[]⟩] 31 (0, 0)) := by rw [← eP]; exact heapW_new _ _
            have bP := bt bB hbP
            have hPl : w20.heap.size ≤ wB.heap.size := bB.size
            replace oy1 := oy1.below hbP
            replace oy2 := oy2.below hbP
            replace ou1 := ou1.below hbP
            replace ou2 := ou2.below hbP
            refine hK.out _ _ (fun _ => HS _ bP) (fun _ => ?_)
            clear hK K eP
            refine Lt.step (i := 4) (o := { dst := some 79, op := Op.call { callee := Callee.value (Operand.func 7), args := #[Operand.tmp 76, Operand.tmp 78], argTypes := #[29, 29] }, type := 31, pos := "exact.go:2202", after := #[{ on := 1, ground := Ground.data }, { on := 3, ground := Ground.data }, { on := 3, ground := Ground.chain }], guard := none }) (by kernel_rfl) rfl (fun K hK => ?_)
            go_simp
            refine (HDR.out _ _ _ _ _ _ _ _ _ (HT.out.below (bt hB20 bP)) oy1 oy2 ou1 ou2).mono ?_
            rintro e wC ⟨hbC, v1, v2, rfl, o1, o2⟩
            obtain ⟨e1, e2, rfl, _⟩ := o1.sl
            obtain ⟨f1, f2, rfl, _⟩ := o2.sl
            replace o1 := o1.wide (bP.size) (Nat.le_refl _)
            replace o2 := o2.wide (bP.size) (Nat.le_refl _)
            have bC := bt bP hbC
            replace zP := blk_below zP hbC
            refine hK.out _ _ (fun _ => HS _ bC) (fun _ => ?_)
            clear hK K
            clear oy1 oy2 ou1 ou2
            obtain ⟨k0, k1, k2, k3, k4, k5⟩ := blk_c6 zP
            have kf := (fun j => Lib.frozen_of_heap zP j)
            refine Lt.step (i := 6) (o := { dst := none, op := Op.store 31 (Operand.tmp 13) (Operand.tmp 79), type := 0, pos := "exact.go:2202", after := #[{ on := 5, ground := Ground.data }, { on := 4, ground := Ground.data }, { on := 4, ground := Ground.chain }, { on := 0, ground := Ground.phase }, { on := 1, ground := Ground.phase }, { on := 2, ground := Ground.phase }, { on := 3, ground := Ground.phase }, { on := 4, ground := Ground.phase }, { on := 5, ground := Ground.phase }], guard := none }) (by kernel_rfl) rfl (fun K hK => ?_)
            go_simp
            refine hK.out _ _ (fun h => absurd rfl h) (fun _ => ?_)
            clear hK K
            refine Lt.done (by kernel_rfl) ?_ _
            go_wp2_with fail
            go_meet
            exact ⟨wB.heap.size, _, _, rfl, (KpB.old zP o1 o2).wide (Nat.le_refl _) (by simp), hPl, below_set6P bC hPl _ _ _ _ _ _⟩
        · go_simp
          obtain ⟨wP, eP⟩ : ∃ y, wA.alloc (.cells #[.int .i64 0, .int .i64 0, .slice none 0 0, .slice none 0 0, .string ⟨#[]⟩, .string ⟨#[]⟩] 31) = y := ⟨_, rfl⟩
          rw [eP]
          have hbP : Below wA.heap.size wA wP := by rw [← eP]; exact (Below.refl _ _).alloc (Nat.le_refl _) _
          have zP : wP.heap[wA.heap.size]? = some (.cells #[.int .i64 0, .int .i64 0, .slice none 0 0, .slice none 0 0, .string ⟨#[]⟩, .string ⟨#[]⟩] 31 (0, 0)) := by rw [← eP]; exact heapW_new _ _
          have bP := bt bA hbP
          have hPl : w20.heap.size ≤ wA.heap.size := bA.size
          replace oy1 := oy1.below hbP
          replace oy2 := oy2.below hbP
          refine hK.out _ _ (fun _ => HS _ bP) (fun _ => ?_)
          clear hK K eP
          refine Lt.step (i := 3) (o := { dst := some 78, op := Op.call { callee := Callee.value (Operand.func 6), args := #[Operand.tmp 77], argTypes := #[25] }, type := 29, pos := "exact.go:2202", after := #[{ on := 2, ground := Ground.data }, { on := 1, ground := Ground.chain }], guard := none }) (by kernel_rfl) rfl (fun K hK => ?_)
          go_simp
          refine (HTB.out _ (bt hB20 bP)).mono ?_
          rintro e wB ⟨hbB, g2, s2, rfl, ou1, ou2⟩
          obtain ⟨b2, d2, rfl, _⟩ := ou2.sl
          have bB := bt bP hbB
          replace oy1 := oy1.below hbB
          replace oy2 := oy2.below hbB
          replace zP := blk_below zP hbB
          refine hK.out _ _ (fun _ => HS _ bB) (fun _ => ?_)
          clear hK K
          refine Lt.step (i := 4) (o := { dst := some 79, op := Op.call { callee := Callee.value (Operand.func 7), args := #[Operand.tmp 76, Operand.tmp 78], argTypes := #[29, 29] }, type := 31, pos := "exact.go:2202", after := #[{ on := 1, ground := Ground.data }, { on := 3, ground := Ground.data }, { on := 3, ground := Ground.chain }], guard := none }) (by kernel_rfl) rfl (fun K hK => ?_)
          go_simp
          refine (HDR.out _ _ _ _ _ _ _ _ _ (HT.out.below (bt hB20 bB)) oy1 oy2 ou1 ou2).mono ?_
          rintro e wC ⟨hbC, v1, v2, rfl, o1, o2⟩
          obtain ⟨e1, e2, rfl, _⟩ := o1.sl
          obtain ⟨f1, f2, rfl, _⟩ := o2.sl
          replace o1 := o1.wide (bB.size) (Nat.le_refl _)
          replace o2 := o2.wide (bB.size) (Nat.le_refl _)
          have bC := bt bB hbC
          replace zP := blk_below zP hbC
          refine hK.out _ _ (fun _ => HS _ bC) (fun _ => ?_)
          clear hK K
          clear oy1 oy2 ou1 ou2
          obtain ⟨k0, k1, k2, k3, k4, k5⟩ := blk_c6 zP
          have kf := (fun j => Lib.frozen_of_heap zP j)
          refine Lt.step (i := 6) (o := { dst := none, op := Op.store 31 (Operand.tmp 13) (Operand.tmp 79), type := 0, pos := "exact.go:2202", after := #[{ on := 5, ground := Ground.data }, { on := 4, ground := Ground.data }, { on := 4, ground := Ground.chain }, { on := 0, ground := Ground.phase }, { on := 1, ground := Ground.phase }, { on := 2, ground := Ground.phase }, { on := 3, ground := Ground.phase }, { on := 4, ground := Ground.phase }, { on := 5, ground := Ground.phase }], guard := none }) (by kernel_rfl) rfl (fun K hK => ?_)
          go_simp
          refine hK.out _ _ (fun h => absurd rfl h) (fun _ => ?_)
          clear hK K
          refine Lt.done (by kernel_rfl) ?_ _
          go_wp2_with fail
          go_meet
          exact ⟨wA.heap.size, _, _, rfl, (KpB.old zP o1 o2).wide (Nat.le_refl _) (by simp), hPl, below_set6P bC hPl _ _ _ _ _ _⟩
      · go_simp
        obtain ⟨wP, eP⟩ : ∃ y, wD.alloc (.cells #[.int .i64 0, .int .i64 0, .slice none 0 0, .slice none 0 0, .string ⟨#[]⟩, .string ⟨#[]⟩] 31) = y := ⟨_, rfl⟩
        rw [eP]
        have hbP : Below wD.heap.size wD wP := by rw [← eP]; exact (Below.refl _ _).alloc (Nat.le_refl _) _
        have zP : wP.heap[wD.heap.size]? = some (.cells #[.int .i64 0, .int .i64 0, .slice none 0 0, .slice none 0 0, .string ⟨#[]⟩, .string ⟨#[]⟩] 31 (0, 0)) := by rw [← eP]; exact heapW_new _ _
        have bP := bt bD hbP
        have hPl : w20.heap.size ≤ wD.heap.size := bD.size
        refine hK.out _ _ (fun _ => HS _ bP) (fun _ => ?_)
        clear hK K eP
        refine Lt.step (i := 1) (o := { dst := some 76, op := Op.call { callee := Callee.value (Operand.func 6), args := #[Operand.tmp 75], argTypes := #[25] }, type := 29, pos := "exact.go:2202", after := #[{ on := 0, ground := Ground.data }], guard := none }) (by kernel_rfl) rfl (fun K hK => ?_)
        go_simp
        refine (HTA.out _ (bt hB20 bP)).mono ?_
        rintro e wA ⟨hbA, g1, q2, rfl, oy1, oy2⟩
        obtain ⟨a2, c2, rfl, _⟩ := oy2.sl
        have bA := bt bP hbA
        replace zP := blk_below zP hbA
        refine hK.out _ _ (fun _ => HS _ bA) (fun _ => ?_)
        clear hK K
        refine Lt.step (i := 3) (o := { dst := some 78, op := Op.call { callee := Callee.value (Operand.func 6), args := #[Operand.tmp 77], argTypes := #[25] }, type := 29, pos := "exact.go:2202", after := #[{ on := 2, ground := Ground.data }, { on := 1, ground := Ground.chain }], guard := none }) (by kernel_rfl) rfl (fun K hK => ?_)
        go_simp
        refine (HTB.out _ (bt hB20 bA)).mono ?_
        rintro e wB ⟨hbB, g2, s2, rfl, ou1, ou2⟩
        obtain ⟨b2, d2, rfl, _⟩ := ou2.sl
        have bB := bt bA hbB
        replace oy1 := oy1.below hbB
        replace oy2 := oy2.below hbB
        replace zP := blk_below zP hbB
        refine hK.out _ _ (fun _ => HS _ bB) (fun _ => ?_)
        clear hK K
        refine Lt.step (i := 4) (o := { dst := some 79, op := Op.call { callee := Callee.value (Operand.func 7), args := #[Operand.tmp 76, Operand.tmp 78], argTypes := #[29, 29] }, type := 31, pos := "exact.go:2202", after := #[{ on := 1, ground := Ground.data }, { on := 3, ground := Ground.data }, { on := 3, ground := Ground.chain }], guard := none }) (by kernel_rfl) rfl (fun K hK => ?_)
        go_simp
        refine (HDR.out _ _ _ _ _ _ _ _ _ (HT.out.below (bt hB20 bB)) oy1 oy2 ou1 ou2).mono ?_
        rintro e wC ⟨hbC, v1, v2, rfl, o1, o2⟩
        obtain ⟨e1, e2, rfl, _⟩ := o1.sl
        obtain ⟨f1, f2, rfl, _⟩ := o2.sl
        replace o1 := o1.wide (bB.size) (Nat.le_refl _)
        replace o2 := o2.wide (bB.size) (Nat.le_refl _)
        have bC := bt bB hbC
        replace zP := blk_below zP hbC
        refine hK.out _ _ (fun _ => HS _ bC) (fun _ => ?_)
        clear hK K
        clear oy1 oy2 ou1 ou2
        obtain ⟨k0, k1, k2, k3, k4, k5⟩ := blk_c6 zP
        have kf := (fun j => Lib.frozen_of_heap zP j)
        refine Lt.step (i := 6) (o := { dst := none, op := Op.store 31 (Operand.tmp 13) (Operand.tmp 79), type := 0, pos := "exact.go:2202", after := #[{ on := 5, ground := Ground.data }, { on := 4, ground := Ground.data }, { on := 4, ground := Ground.chain }, { on := 0, ground := Ground.phase }, { on := 1, ground := Ground.phase }, { on := 2, ground := Ground.phase }, { on := 3, ground := Ground.phase }, { on := 4, ground := Ground.phase }, { on := 5, ground := Ground.phase }], guard := none }) (by kernel_rfl) rfl (fun K hK => ?_)
        go_simp
        refine hK.out _ _ (fun h => absurd rfl h) (fun _ => ?_)
        clear hK K
        refine Lt.done (by kernel_rfl) ?_ _
        go_wp2_with fail
        go_meet
        exact ⟨wD.heap.size, _, _, rfl, (KpB.old zP o1 o2).wide (Nat.le_refl _) (by simp), hPl, below_set6P bC hPl _ _ _ _ _ _⟩
    case rest =>
      obtain ⟨P2, i1, i2, rfl, HH21, hPl2, hbx⟩ := hcut
      clear p0 p1 p2 p3 p4 p5 hbd
      have hB21 := bt hB20 hbx
      obtain ⟨ia, ic, ev1, _⟩ := HH21.out.s.sl
      obtain ⟨ib, id, ev2, _⟩ := HH21.out.t.sl
      subst ev1
      subst ev2
      have HQ21 : Hid (wc.heap[w9.heap.size]? = some (.cells #[.int .i64 cd, .int .i64 wd, .slice ga dT.length gc, .slice gb dR.length gd, .string X, .string Y] 31 (0, 0))) := blk_below HQ20.out hbx
      have HV21 : Hid (KpB wc P w2.heap.size wk.heap.size cd wd X Y (.slice va dT.length vc) (.slice vb dR.length vd) dT dR) := HV20.out.below hbx
      have HM21 : Hid (MkL wc w8.heap.size w9.heap.size (.slice ga dT.length gc) (.slice gb dR.length gd) dT dR) := HM20.out.below hbx
      clear HZ20 HY20 HV20 HQ20 HM20 hbx hB20
      obtain ⟨z0, z1, z2, z3, z4, z5⟩ := HH21.out.c
      obtain ⟨y0, y1, y2, y3, y4, y5⟩ := HV21.out.c
      go_wp2_with fail
      refine (eqKept_own cd wd X Y HH21.out.s HH21.out.t HV21.out.s HV21.out.t HSM.out).mono ?_
      rintro e w22 ⟨hb22, rfl⟩
      have hB22 := bt hB21 hb22
      have HQ22 : Hid (w22.heap[w9.heap.size]? = some (.cells #[.int .i64 cd, .int .i64 wd, .slice ga dT.length gc, .slice gb dR.length gd, .string X, .string Y] 31 (0, 0))) := blk_below HQ21.out hb22
      have HM22 : Hid (MkL w22 w8.heap.size w9.heap.size (.slice ga dT.length gc) (.slice gb dR.length gd) dT dR) := HM21.out.below hb22
      clear hb22 hB21 HH21 HV21 HQ21 HM21 z0 z1 z2 z3 z4 z5 y0 y1 y2 y3 y4 y5
      obtain ⟨z0, z1, z2, z3, z4, z5⟩ := blk_c6 HQ22.out
      go_wp2_with fail
      refine (HH.out w22 HM22.out).mono ?_
      rintro e w23 ⟨rfl, hb23⟩
      have hB23 := bt hB22 hb23
      clear hb23 hB22 HQ22 HM22 z0 z1 z2 z3 z4 z5
      go_wp2
      go_ret
      exact ⟨rfl, hB23⟩

end Go.Proofs.YtllhbgmadiclcaaGreatDoor
