import Derived.Test.YtjdjhenijihpfaaGreatDoorEdF
namespace Go.Proofs.YtjdjhenijihpfaaGreatDoor
open Go.RowKit Go.Deep
set_option linter.unusedVariables false

set_option maxRecDepth 100000 in
set_option maxHeartbeats 4000000 in
theorem l2Any_any (B R : Nat) (a : Option Addr) (len cap p : Nat) (w : World) (h : Rd B w R a len cap p) (hBw : B ≤ w.heap.size) (hp : p ≤ 50000) :
    Calls Tryz.prog 24 #[.pointer (some ⟨R, 0, none⟩)] w fun e w' => ∃ (g n c : Nat) (is : List I3), e = .returned (.agg #[.slice (some ⟨g, 0, none⟩) n c]) ∧ n = is.length ∧ w'.ownsRow w.heap.size 84 3 (.slice (some ⟨g, 0, none⟩) n c) n (insC is) ∧ n ≤ 400 ∧ (∀ x ∈ is, x.text.size ≤ 50000) ∧ RdK B R a len cap p 2000 w w' := by
  have hRB := h.lt
  have hRw : R < w.heap.size := by omega
  obtain ⟨w1, e1⟩ : ∃ y, w.alloc (.cells #[.slice none 0 0] 31) = y := ⟨_, rfl⟩
  have hb1 : Below w.heap.size w w1 := by rw [← e1]; exact (Below.refl _ _).alloc (Nat.le_refl _) _
  have HQ : Hid (w1.heap[w.heap.size]? = some (.cells #[.slice none 0 0] 31 (0, 0))) := by show _ = _; rw [← e1]; exact heapW_new _ _
  have HR : Hid (RdK B R a len cap p (0) w w1) := ⟨gb_below (gb_refl w R) hb1, p, by omega, h.below hBw hb1⟩
  have hlo := HR.out.size
  clear hb1 h
  go_enter Tryz.func24, Tryz.ntmps24
  go_wp2_with fail
  clear e1
  refine (HR.out.prog hBw (by omega)).mono ?_
  rintro e w2 ⟨g, n, c, is, rfl, ho, h0, hL, hr1, hg1⟩
  replace HQ := hid (blk_gb HQ.out hg1 (by omega))
  replace HR := hid hr1
  clear hg1 hr1
  obtain ⟨w3, e3⟩ : ∃ y, w2.alloc (.cells #[.slice (some ⟨g, 0, none⟩) n c] 31) = y := ⟨_, rfl⟩
  have hb3 : Below w2.heap.size w2 w3 := by rw [← e3]; exact (Below.refl _ _).alloc (Nat.le_refl _) _
  have HP : Hid (w3.heap[w2.heap.size]? = some (.cells #[.slice (some ⟨g, 0, none⟩) n c] 31 (0, 0))) := by show _ = _; rw [← e3]; exact heapW_new _ _
  have hpl : w.heap.size < w2.heap.size := blkW_lt HQ.out
  have HO := hid (own_bel (own_base ho.row hlo) hb3)
  have HNL := hid ho.ln
  have HX := hid ho.tx
  replace HQ := hid (blk_below HQ.out hb3)
  replace HR := hid (HR.out.below hBw hb3)
  clear ho hb3
  go_wp2_with fail
  clear e3
  refine (HR.out.pick (by omega) 6 (by omega) (by omega)).mono ?_
  rintro e w4 ⟨x, rfl, hx, hr1, hg1⟩
  replace HQ := hid (blk_gb HQ.out hg1 (by omega))
  replace HP := hid (blk_gb HP.out hg1 (by omega))
  replace HO := hid (own_gb HO.out hg1 hRw)
  replace HR := hid hr1
  clear hg1 hr1
  have d0 := blk_c1 HP.out
  rcases Nat.eq_zero_or_pos x with rfl | hx0
  · have hn := HNL.out
    clear HNL
    subst hn
    obtain ⟨aa, cc, ee, r3⟩ := row3_ownD rfl HO.out
    cases ee
    go_wp2_with fail
    obtain ⟨k1, p2, k2, k3⟩ := HR.out
    refine (l2Spoil_any B R a len cap p2 g c is w4 k3 (Nat.le_trans hBw k1.size) (by omega) r3 h0 hL HX.out).mono ?_
    rintro e w5 ⟨g', n', c', is', rfl, ho, hL', hk⟩
    have HQ5 := hid (blk_gb HQ.out hk.1 (by omega))
    have HR5 := hid (RdK.then k1 k2 hk)
    have HO5 := hid (own_base (B' := w.heap.size) ho.row k1.size)
    have HN5 := hid ho.ln
    have HX5 := hid ho.tx
    clear ho hk k1 k2 k3 r3 d0 HQ HR HP HO HX
    have r0 := blk_c1 HQ5.out
    have fr := fun j => Lib.frozen_of_heap HQ5.out j
    go_wp2
    refine bodyPost_ret (v := .agg #[.slice (some ⟨g', 0, none⟩) n' c']) (by simp [results, Tryz.results24, go_sem, r0]) rfl ?_
    exact ⟨g', n', c', is', rfl, HN5.out, own_setT HO5.out ⟨_, HQ5.out⟩ (by decide) _, hL', HX5.out, (HR5.out.set hBw (Nat.le_refl _) _).more (by omega)⟩
  · have hx0I : ¬ ((x : Int) = 0) := by omega
    have r0 := blk_c1 HQ.out
    have fr := fun j => Lib.frozen_of_heap HQ.out j
    go_wp2
    refine bodyPost_ret (v := .agg #[.slice (some ⟨g, 0, none⟩) n c]) (by simp [results, Tryz.results24, go_sem, r0]) rfl ?_
    exact ⟨g, n, c, is, rfl, HNL.out, own_setT HO.out ⟨_, HQ.out⟩ (by decide) _, hL, HX.out, (HR.out.set hBw (Nat.le_refl _) _).more (by omega)⟩

set_option maxRecDepth 100000 in
set_option maxHeartbeats 4000000 in
theorem l3Asked_any (B R : Nat) (a : Option Addr) (len cap p : Nat) (w : World) {lo : Nat} {v1 v2 : Value} {l1 : List S2} {l2 : List TC} (h : Rd B w R a len cap p) (hBw : B ≤ w.heap.size) (hp : p ≤ 50000) (hd : Dw w lo v1 v2 l1 l2) (hbd : BdS l1 l2) (hRl : R < lo) :
    Calls Tryz.prog 20 #[.pointer (some ⟨R, 0, none⟩), .agg #[v1, v2]] w fun e w' => ∃ s : ByteArray, e = .returned (.string s) ∧ s.size ≤ 50000 ∧ RdK B R a len cap p 10 w w' := by
  have hRB := h.lt
  have hRw : R < w.heap.size := by omega
  obtain ⟨s1, q1, rfl⟩ := hd.s1
  obtain ⟨s2, q2, rfl⟩ := hd.s2
  obtain ⟨w1, e1⟩ : ∃ y, w.alloc (.cells #[.slice s1 l1.length q1, .slice s2 l2.length q2] 26) = y := ⟨_, rfl⟩
  have hb1 : Below w.heap.size w w1 := by rw [← e1]; exact (Below.refl _ _).alloc (Nat.le_refl _) _
  have HP : Hid (w1.heap[w.heap.size]? = some (.cells #[.slice s1 l1.length q1, .slice s2 l2.length q2] 26 (0, 0))) := by show _ = _; rw [← e1]; exact heapW_new _ _
  have HR : Hid (RdK B R a len cap p (0) w w1) := ⟨gb_below (gb_refl w R) hb1, p, by omega, h.below hBw hb1⟩
  have HD := hid (hd.below hb1)
  have HBD := hid hbd
  have hn2 := hbd.n2
  obtain ⟨c0, c1⟩ := blk_c HP.out
  clear hb1 h hd hbd
  rcases Nat.eq_zero_or_pos l2.length with hk0 | hkp
  · have hkz : ¬ (0 : Int) < (l2.length : Int) := by omega
    clear hk0
    go_enter Tryz.func20, Tryz.ntmps20
    obtain ⟨wL, eL⟩ : ∃ y, w1.alloc (.cells #[.string ⟨#[97]⟩, .string ⟨#[110, 111, 110, 101]⟩, .string ⟨#[]⟩, .string ⟨#[120, 32, 121]⟩, .string ⟨#[116, 48]⟩] 9) = y := ⟨_, rfl⟩
    have hbL : Below w1.heap.size w1 wL := by rw [← eL]; exact (Below.refl _ _).alloc (Nat.le_refl _) _
    have HL : Hid (wL.heap[w1.heap.size]? = some (.cells #[.string ⟨#[97]⟩, .string ⟨#[110, 111, 110, 101]⟩, .string ⟨#[]⟩, .string ⟨#[120, 32, 121]⟩, .string ⟨#[116, 48]⟩] 9 (0, 0))) := by show _ = _; rw [← eL]; exact heapW_new _ _
    have hLR : R < w1.heap.size := by have := HR.out.size; omega
    replace HR := hid (HR.out.below hBw hbL)
    clear hbL
    go_wp2_with fail
    try rw [eL]
    clear eL
    refine (HR.out.pick (by omega) 5 (by omega) (by omega)).mono ?_
    rintro e wM ⟨j, rfl, hj, hr1, hg1⟩
    replace HL := hid (blk_gb HL.out hg1 (by omega))
    clear hg1 HR
    have HR := hid hr1
    clear hr1
    have k0 : wM.cell? ⟨w1.heap.size, 0, none⟩ = some (.string ⟨#[97]⟩) := by rw [Lib.cell_of_heap HL.out]; rfl
    have k1 : wM.cell? ⟨w1.heap.size, 1, none⟩ = some (.string ⟨#[110, 111, 110, 101]⟩) := by rw [Lib.cell_of_heap HL.out]; rfl
    have k2 : wM.cell? ⟨w1.heap.size, 2, none⟩ = some (.string ⟨#[]⟩) := by rw [Lib.cell_of_heap HL.out]; rfl
    have k3 : wM.cell? ⟨w1.heap.size, 3, none⟩ = some (.string ⟨#[120, 32, 121]⟩) := by rw [Lib.cell_of_heap HL.out]; rfl
    have k4 : wM.cell? ⟨w1.heap.size, 4, none⟩ = some (.string ⟨#[116, 48]⟩) := by rw [Lib.cell_of_heap HL.out]; rfl
    rcases (show j = 0 ∨ j = 1 ∨ j = 2 ∨ j = 3 ∨ j = 4 from by omega) with rfl | rfl | rfl | rfl | rfl
    all_goals
      go_wp2
      go_ret
      exact ⟨_, rfl, by decide, HR.out.more (by omega)⟩
  · have hkz : (0 : Int) < (l2.length : Int) := by omega
    obtain ⟨g2, cp2, ev, hg2, _⟩ := HD.out.tc 0 hkp
    cases ev
    go_enter Tryz.func20, Tryz.ntmps20
    go_wp2_with fail
    clear e1 c0 c1
    refine (HR.out.pick (by omega) 8 (by omega) (by omega)).mono ?_
    rintro e w2 ⟨x, rfl, hx, hr1, hg1⟩
    replace HP := hid (blk_gb HP.out hg1 (by omega))
    replace HD := hid (HD.out.gb hg1 hRl)
    clear HR
    have HR := hid hr1
    clear hr1 hg1
    rcases Nat.eq_zero_or_pos x with rfl | hx0
    · clear HP HD
      obtain ⟨wL, eL⟩ : ∃ y, w2.alloc (.cells #[.string ⟨#[97]⟩, .string ⟨#[110, 111, 110, 101]⟩, .string ⟨#[]⟩, .string ⟨#[120, 32, 121]⟩, .string ⟨#[116, 48]⟩] 9) = y := ⟨_, rfl⟩
      have hbL : Below w2.heap.size w2 wL := by rw [← eL]; exact (Below.refl _ _).alloc (Nat.le_refl _) _
      have HL : Hid (wL.heap[w2.heap.size]? = some (.cells #[.string ⟨#[97]⟩, .string ⟨#[110, 111, 110, 101]⟩, .string ⟨#[]⟩, .string ⟨#[120, 32, 121]⟩, .string ⟨#[116, 48]⟩] 9 (0, 0))) := by show _ = _; rw [← eL]; exact heapW_new _ _
      have hLR : R < w2.heap.size := by have := HR.out.size; omega
      replace HR := hid (HR.out.below hBw hbL)
      clear hbL
      go_wp2_with fail
      try rw [eL]
      clear eL
      refine (HR.out.pick (by omega) 5 (by omega) (by omega)).mono ?_
      rintro e wM ⟨j, rfl, hj, hr1, hg1⟩
      replace HL := hid (blk_gb HL.out hg1 (by omega))
      clear hg1 HR
      have HR := hid hr1
      clear hr1
      have k0 : wM.cell? ⟨w2.heap.size, 0, none⟩ = some (.string ⟨#[97]⟩) := by rw [Lib.cell_of_heap HL.out]; rfl
      have k1 : wM.cell? ⟨w2.heap.size, 1, none⟩ = some (.string ⟨#[110, 111, 110, 101]⟩) := by rw [Lib.cell_of_heap HL.out]; rfl
      have k2 : wM.cell? ⟨w2.heap.size, 2, none⟩ = some (.string ⟨#[]⟩) := by rw [Lib.cell_of_heap HL.out]; rfl
      have k3 : wM.cell? ⟨w2.heap.size, 3, none⟩ = some (.string ⟨#[120, 32, 121]⟩) := by rw [Lib.cell_of_heap HL.out]; rfl
      have k4 : wM.cell? ⟨w2.heap.size, 4, none⟩ = some (.string ⟨#[116, 48]⟩) := by rw [Lib.cell_of_heap HL.out]; rfl
      rcases (show j = 0 ∨ j = 1 ∨ j = 2 ∨ j = 3 ∨ j = 4 from by omega) with rfl | rfl | rfl | rfl | rfl
      all_goals
        go_wp2
        go_ret
        exact ⟨_, rfl, by decide, HR.out.more (by omega)⟩
    · have hx0I : (0 : Int) < (x : Int) := by omega
      go_wp2_with fail
      refine Lt.begin 10 (fun w' => w'.heap[w.heap.size]? = some (.cells #[.slice s1 l1.length q1, .slice (some ⟨g2, 0, none⟩) l2.length q2] 26 (0, 0)) ∧ w'.ownsRow lo 64 2 (.slice (some ⟨g2, 0, none⟩) l2.length q2) l2.length (tcV l2)) (by kernel_rfl) ?_
      obtain ⟨wD, eD⟩ : ∃ y, w2.drew = y := ⟨_, rfl⟩
      rw [eD]
      have hbD : Below w2.heap.size w2 wD := by rw [← eD]; exact (Below.refl _ _).drew
      clear eD
      replace HD := hid (HD.out.below hbD)
      replace HR := hid (HR.out.below hBw hbD)
      replace HP := hid (blk_below HP.out hbD)
      have hS0 : (fun w' => w'.heap[w.heap.size]? = some (.cells #[.slice s1 l1.length q1, .slice (some ⟨g2, 0, none⟩) l2.length q2] 26 (0, 0)) ∧ w'.ownsRow lo 64 2 (.slice (some ⟨g2, 0, none⟩) l2.length q2) l2.length (tcV l2)) wD := ⟨HP.out, HD.out.t⟩
      refine Lt.take (i := 0) (oi := { dst := some 14, op := Op.fieldAddr 26 (Operand.tmp 3) 1, type := 0, pos := "l3_draw.go:110", after := #[], guard := none }) (v := ?_) rfl (by kernel_rfl) (by kernel_rfl) (by kernel_rfl) (by kernel_rfl) (fun _ _ _ h => h) hS0 (Or.inl ⟨by rfl, ?_⟩) ?_
      rotate_left 1
      · rintro w ⟨hs1, hs2⟩
        obtain ⟨c0, c1⟩ := blk_c hs1
        go_simp
        first | done | with_reducible rfl
      simp only [Act.put, List.setIfInBounds_toArray, List.set_cons_zero, List.set_cons_succ]
      refine Lt.take (i := 1) (oi := { dst := some 15, op := Op.load 24 (Operand.tmp 14), type := 24, pos := "l3_draw.go:110", after := #[{ on := 0, ground := Ground.data }], guard := none }) (v := ?_) rfl (by kernel_rfl) (by kernel_rfl) (by kernel_rfl) (by kernel_rfl) (fun _ _ _ h => h) hS0 (Or.inl ⟨by rfl, ?_⟩) ?_
      rotate_left 1
      · rintro w ⟨hs1, hs2⟩
        obtain ⟨c0, c1⟩ := blk_c hs1
        go_simp
        first | done | with_reducible rfl
      simp only [Act.put, List.setIfInBounds_toArray, List.set_cons_zero, List.set_cons_succ]
      refine Lt.take (i := 2) (oi := { dst := some 16, op := Op.move (Operand.tmp 0), type := 46, pos := "l3_draw.go:110", after := #[], guard := none }) (v := ?_) rfl (by kernel_rfl) (by kernel_rfl) (by kernel_rfl) (by kernel_rfl) (fun _ _ _ h => h) hS0 (Or.inl ⟨by rfl, ?_⟩) ?_
      rotate_left 1
      · rintro w ⟨hs1, hs2⟩
        obtain ⟨c0, c1⟩ := blk_c hs1
        go_simp
        first | done | with_reducible rfl
      simp only [Act.put, List.setIfInBounds_toArray, List.set_cons_zero, List.set_cons_succ]
      refine Lt.take (i := 3) (oi := { dst := some 17, op := Op.fieldAddr 26 (Operand.tmp 3) 1, type := 0, pos := "l3_draw.go:110", after := #[], guard := none }) (v := ?_) rfl (by kernel_rfl) (by kernel_rfl) (by kernel_rfl) (by kernel_rfl) (fun _ _ _ h => h) hS0 (Or.inl ⟨by rfl, ?_⟩) ?_
      rotate_left 1
      · rintro w ⟨hs1, hs2⟩
        obtain ⟨c0, c1⟩ := blk_c hs1
        go_simp
        first | done | with_reducible rfl
      simp only [Act.put, List.setIfInBounds_toArray, List.set_cons_zero, List.set_cons_succ]
      refine Lt.take (i := 4) (oi := { dst := some 18, op := Op.load 24 (Operand.tmp 17), type := 24, pos := "l3_draw.go:110", after := #[{ on := 3, ground := Ground.data }], guard := none }) (v := ?_) rfl (by kernel_rfl) (by kernel_rfl) (by kernel_rfl) (by kernel_rfl) (fun _ _ _ h => h) hS0 (Or.inl ⟨by rfl, ?_⟩) ?_
      rotate_left 1
      · rintro w ⟨hs1, hs2⟩
        obtain ⟨c0, c1⟩ := blk_c hs1
        go_simp
        first | done | with_reducible rfl
      simp only [Act.put, List.setIfInBounds_toArray, List.set_cons_zero, List.set_cons_succ]
      refine Lt.take (i := 5) (oi := { dst := some 19, op := Op.call { callee := Callee.builtin Builtin.len, args := #[Operand.tmp 18], argTypes := #[24] }, type := 3, pos := "l3_draw.go:110", after := #[{ on := 4, ground := Ground.data }], guard := none }) (v := ?_) rfl (by kernel_rfl) (by kernel_rfl) (by kernel_rfl) (by kernel_rfl) (fun _ _ _ h => h) hS0 (Or.inl ⟨by rfl, ?_⟩) ?_
      rotate_left 1
      · rintro w ⟨hs1, hs2⟩
        obtain ⟨c0, c1⟩ := blk_c hs1
        go_simp
        first | done | with_reducible rfl
      simp only [Act.put, List.setIfInBounds_toArray, List.set_cons_zero, List.set_cons_succ]
      refine Lt.step (i := 6) (o := { dst := some 20, op := Op.call { callee := Callee.value (Operand.func 19), args := #[Operand.tmp 16, Operand.tmp 19], argTypes := #[46, 3] }, type := 3, pos := "l3_draw.go:110", after := #[{ on := 2, ground := Ground.data }, { on := 5, ground := Ground.data }], guard := none }) (by kernel_rfl) rfl (fun K hK => ?_)
      go_simp
      refine (HR.out.pick (by omega) (l2.length : Int) (by omega) (by omega)).mono ?_
      rintro e wA ⟨j, rfl, hj, hrA, hgA⟩
      replace hj : j < l2.length := by omega
      replace HD := hid (HD.out.gb hgA hRl)
      replace HR := hid hrA
      replace HP := hid (blk_gb HP.out hgA (by omega))
      have hS1 : (fun w' => w'.heap[w.heap.size]? = some (.cells #[.slice s1 l1.length q1, .slice (some ⟨g2, 0, none⟩) l2.length q2] 26 (0, 0)) ∧ w'.ownsRow lo 64 2 (.slice (some ⟨g2, 0, none⟩) l2.length q2) l2.length (tcV l2)) wA := ⟨HP.out, HD.out.t⟩
      refine hK.out _ _ (fun _ => hS1) (fun _ => ?_)
      clear hK K hgA hrA
      try simp only [Act.put, List.setIfInBounds_toArray, List.set_cons_zero, List.set_cons_succ]
      have hjI : (j : Int) < (l2.length : Int) := by omega
      refine Lt.take (i := 7) (oi := { dst := some 21, op := Op.indexAddr 24 (Operand.tmp 15) (Operand.tmp 20), type := 0, pos := "l3_draw.go:110", after := #[{ on := 1, ground := Ground.data }, { on := 6, ground := Ground.data }], guard := none }) (v := ?_) rfl (by kernel_rfl) (by kernel_rfl) (by kernel_rfl) (by kernel_rfl) (fun _ _ _ h => h) hS1 (Or.inl ⟨by rfl, ?_⟩) ?_
      rotate_left 1
      · rintro w ⟨hs1, hs2⟩
        obtain ⟨c0, c1⟩ := blk_c hs1
        obtain ⟨c2, c3⟩ := own_row hs2 j hj rfl
        go_simp
        first | done | with_reducible rfl
      simp only [Act.put, List.setIfInBounds_toArray, List.set_cons_zero, List.set_cons_succ]
      refine Lt.take (i := 8) (oi := { dst := some 22, op := Op.fieldAddr 64 (Operand.tmp 21) 0, type := 0, pos := "l3_draw.go:110", after := #[{ on := 7, ground := Ground.data }], guard := none }) (v := ?_) rfl (by kernel_rfl) (by kernel_rfl) (by kernel_rfl) (by kernel_rfl) (fun _ _ _ h => h) hS1 (Or.inl ⟨by rfl, ?_⟩) ?_
      rotate_left 1
      · rintro w ⟨hs1, hs2⟩
        obtain ⟨c0, c1⟩ := blk_c hs1
        obtain ⟨c2, c3⟩ := own_row hs2 j hj rfl
        go_simp
        first | done | with_reducible rfl
      simp only [Act.put, List.setIfInBounds_toArray, List.set_cons_zero, List.set_cons_succ]
      refine Lt.take (i := 9) (oi := { dst := some 23, op := Op.load 9 (Operand.tmp 22), type := 9, pos := "l3_draw.go:110", after := #[{ on := 8, ground := Ground.data }], guard := none }) (v := ?_) rfl (by kernel_rfl) (by kernel_rfl) (by kernel_rfl) (by kernel_rfl) (fun _ _ _ h => h) hS1 (Or.inl ⟨by rfl, ?_⟩) ?_
      rotate_left 1
      · rintro w ⟨hs1, hs2⟩
        obtain ⟨c0, c1⟩ := blk_c hs1
        obtain ⟨c2, c3⟩ := own_row hs2 j hj rfl
        go_simp
        first | done | with_reducible rfl
      simp only [Act.put, List.setIfInBounds_toArray, List.set_cons_zero, List.set_cons_succ]
      refine Lt.step (i := 10) (o := { dst := some 4, op := Op.assign (Operand.tmp 23), type := 9, pos := "l3_draw.go:110", after := #[{ on := 9, ground := Ground.data }, { on := 6, ground := Ground.chain }, { on := 0, ground := Ground.phase }, { on := 1, ground := Ground.phase }, { on := 2, ground := Ground.phase }, { on := 3, ground := Ground.phase }, { on := 4, ground := Ground.phase }, { on := 5, ground := Ground.phase }, { on := 6, ground := Ground.phase }, { on := 7, ground := Ground.phase }, { on := 8, ground := Ground.phase }, { on := 9, ground := Ground.phase }], guard := none }) (by kernel_rfl) rfl (fun K hK => ?_)
      go_simp
      refine hK.out _ _ (fun h => absurd rfl h) (fun _ => ?_)
      clear hK K
      refine Lt.done (by kernel_rfl) ?_ _
      go_wp2
      go_ret
      exact ⟨_, rfl, (HBD.out.t _ (cx_mem hj)).1, HR.out.more (by omega)⟩
end Go.Proofs.YtjdjhenijihpfaaGreatDoor
