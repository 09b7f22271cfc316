import Derived.Test.YtjdjhenijihpfaaGreatDoorEdK
import Derived.Test.YtjdjhenijihpfaaGreatDoorEdG
namespace Go.Proofs.YtjdjhenijihpfaaGreatDoor
open Go.RowKit Go.Deep
set_option linter.unusedVariables false

/-- What DrawPutSource gives. -/
def DrS (w : World) (e : Ending) (w' : World) : Prop := Below w.heap.size w w' ∧ ∃ v1 v2 l1 l2, ∃ nm tx : ByteArray, e = .returned (.tuple #[.agg #[v1, v2], .string nm, .string tx]) ∧ Dw w' w.heap.size v1 v2 l1 l2 ∧ BdS l1 l2 ∧ nm.size ≤ 50000 ∧ tx.size ≤ 50000
theorem DrS.mk' {w w1 w2 W : World} {v1 v2 x y : Value} {l1 : List S2} {l2 : List TC} {nm tx : ByteArray} {R : Nat} (hb : Below w.heap.size w w2) (hg : w2.grownBy W (some R)) (hR : w.heap.size < R) (hd : Dw W w.heap.size v1 v2 l1 l2) (hbd : BdS l1 l2) (hq : W.heap[w.heap.size]? = some (.cells #[x, y] 26 (0, 0))) (h1 : nm.size ≤ 50000) (h2 : tx.size ≤ 50000) :
    DrS w (.returned (.tuple #[.agg #[v1, v2], .string nm, .string tx])) ((W.setCell ⟨w.heap.size, 0, none⟩ v1).setCell ⟨w.heap.size, 1, none⟩ v2) := by
  have hbW : Below w.heap.size w W := hb.grown hg hb.size (fun k hk => by cases hk; omega)
  exact ⟨below_set2 hbW (Nat.le_refl _) _ _, v1, v2, l1, l2, nm, tx, rfl, hd.ret hq, hbd, h1, h2⟩

theorem DrS.bel {w W W' : World} {e : Ending} (h : DrS w e W) (hb : Below W.heap.size W W') : DrS w e W' := by
  obtain ⟨h1, v1, v2, l1, l2, nm, tx, he, h2, h3⟩ := h
  exact ⟨bt h1 hb, v1, v2, l1, l2, nm, tx, he, h2.below hb, h3⟩
theorem blk_set2q {W : World} {b : Nat} {x y : Value} (h : W.heap[b]? = some (.cells #[x, y] 26 (0, 0))) (u v : Value) : ((W.setCell ⟨b, 0, none⟩ u).setCell ⟨b, 1, none⟩ v).heap[b]? = some (.cells #[u, v] 26 (0, 0)) := by
  have h1 : (W.setCell ⟨b, 0, none⟩ u).heap[b]? = some (.cells #[u, y] 26 (0, 0)) := by rw [Joins.block_setCell h]; rfl
  rw [Joins.block_setCell h1]; rfl

set_option maxRecDepth 100000 in
set_option maxHeartbeats 16000000 in
theorem drawPS_any (w : World) (a : Option Addr) (len cap : Nat) (h : Bytes w a len) (hlc : len ≤ cap) (hl : len ≤ 1048576) :
    Calls Tryz.prog 4 #[.slice a len cap] w fun e w' => DrS w e w' := by
  obtain ⟨w1, e1⟩ : ∃ y, w.alloc (.cells #[.slice none 0 0, .slice none 0 0] 26) = y := ⟨_, rfl⟩
  have hb1 : Below w.heap.size w w1 := by rw [← e1]; exact (Below.refl _ _).alloc (Nat.le_refl _) _
  have hs1 : w1.heap.size = w.heap.size + 1 := by rw [← e1]; simp
  have HQ : Hid (w1.heap[w.heap.size]? = some (.cells #[.slice none 0 0, .slice none 0 0] 26 (0, 0))) := by show _ = _; rw [← e1]; exact heapW_new _ _
  have hby : Bytes w1 a len := fun i hi => by obtain ⟨b, off, v, h1, h2, h3⟩ := h i hi; exact ⟨b, off, v, h1, cell_below hb1 h2, h3⟩
  have HO := hid (l1Open_any w1 a len cap hby hlc hl)
  obtain ⟨R, eR⟩ : ∃ y, w1.heap.size = y := ⟨_, rfl⟩
  rw [eR] at HO
  have hRw : w.heap.size < R := by omega
  have HER := hid eR
  have HB1 := hid hb1
  clear hby h hlc hs1 eR hb1
  go_enter Tryz.func4, Tryz.ntmps4
  go_wp2_with fail
  clear e1
  refine HO.out.mono ?_
  rintro e w2 ⟨len', rfl, hr, hsz, hb2⟩
  clear HO
  have hR2 : R < w2.heap.size := by omega
  have hBw : R + 1 ≤ w2.heap.size := by omega
  have HR : Hid (RdK (R + 1) R a len' cap 0 (0) w2 w2) := ⟨gb_refl w2 R, 0, by omega, hr⟩
  have HB : Hid (Below w.heap.size w w2) := HB1.out.trans (hb2.mono (by have := HER.out; omega))
  replace HQ := hid (blk_below HQ.out (by rw [HER.out]; exact hb2))
  have HR0 := hid hr
  clear hr hsz hb2 HER HB1
  go_wp2_with fail
  refine (l3Any_any (R + 1) R a len' cap 0 w2 HR0.out hBw (by omega)).mono ?_
  unfold SpP
  rintro e w3 ⟨v1, v2, l1, l2, rfl, hd, hbd, hk⟩
  replace HQ := hid (blk_gb HQ.out hk.1 (by omega))
  clear HR HR0
  have HR := hid hk
  obtain ⟨a1, p1, rfl⟩ := hd.s1
  obtain ⟨a2, p2, rfl⟩ := hd.s2
  obtain ⟨w4, e4⟩ : ∃ y, w3.alloc (.cells #[.slice a1 l1.length p1, .slice a2 l2.length p2] 26) = y := ⟨_, rfl⟩
  have hb4 : Below w3.heap.size w3 w4 := by rw [← e4]; exact (Below.refl _ _).alloc (Nat.le_refl _) _
  obtain ⟨P, eP⟩ : ∃ P, w3.heap.size = P := ⟨_, rfl⟩
  have HP : Hid (w4.heap[P]? = some (.cells #[.slice a1 l1.length p1, .slice a2 l2.length p2] 26 (0, 0))) := by show _ = _; rw [← e4, ← eP]; exact heapW_new _ _
  have hPR : R < P := by have := hk.size; omega
  have hPQ : w.heap.size < P := by omega
  have HD := hid (hd.below hb4)
  have HBD := hid hbd
  replace HQ := hid (blk_below HQ.out hb4)
  replace HR := hid (HR.out.below hBw hb4)
  clear hd hbd hk hb4
  go_wp2_with fail
  clear e4 eP
  refine (HR.out.name hBw (by omega)).mono ?_
  rintro e w5 ⟨nm0, rfl, hnm0, hr1, hg1⟩
  replace HQ := hid (blk_gb HQ.out hg1 (by omega))
  replace HP := hid (blk_gb HP.out hg1 (by omega))
  replace HD := hid (HD.out.gb hg1 hR2)
  clear HR
  have HR := hid hr1
  clear hg1 hr1
  go_wp2_with fail
  refine (HR.out.pick (by omega) 10 (by omega) (by omega)).mono ?_
  rintro e w6 ⟨x, rfl, hx, hr1, hg1⟩
  replace HQ := hid (blk_gb HQ.out hg1 (by omega))
  replace HP := hid (blk_gb HP.out hg1 (by omega))
  replace HD := hid (HD.out.gb hg1 hR2)
  clear HR
  have HR := hid hr1
  clear hg1 hr1
  obtain ⟨c0, c1⟩ := blk_c HP.out
  rcases Nat.eq_zero_or_pos x with rfl | hx0
  case' inl =>
    go_wp2_with fail
    clear c0 c1
    obtain ⟨k1, p5, k2, k3⟩ := HR.out
    refine (l3Asked_any (R + 1) R a len' cap p5 w6 k3 (Nat.le_trans hBw k1.size) (by omega) HD.out HBD.out hR2).mono ?_
    rintro e wT ⟨nm, rfl, hnm, hk⟩
    have hg1 := hk.1
    have hr1 := RdK.then k1 k2 hk
    clear hk k1 k2 k3
    replace HQ := hid (blk_gb HQ.out hg1 (by omega))
    replace HP := hid (blk_gb HP.out hg1 (by omega))
    replace HD := hid (HD.out.gb hg1 hR2)
    clear HR
    have HR := hid hr1
    clear hg1 hr1
    replace HR := hid (HR.out.more (K' := 12020) (by omega))
    go_wp2_with fail
  case' inr =>
    have hx0I : ¬ ((x : Int) = 0) := by omega
    obtain ⟨wT, rfl⟩ : ∃ z, z = w6 := ⟨_, rfl⟩
    obtain ⟨nm, rfl⟩ : ∃ z, z = nm0 := ⟨_, rfl⟩
    have hnm : nm.size ≤ 50000 := by omega
    replace HR := hid (HR.out.more (K' := 12020) (by omega))
    go_wp2_with fail
    clear c0 c1
  all_goals
    refine (HR.out.pick (by omega) 12 (by omega) (by omega)).mono ?_
    rintro e w7 ⟨y, rfl, hy, hr1, hg1⟩
    replace HQ := hid (blk_gb HQ.out hg1 (by omega))
    replace HP := hid (blk_gb HP.out hg1 (by omega))
    replace HD := hid (HD.out.gb hg1 hR2)
    clear HR
    have HR := hid hr1
    clear hg1 hr1
    rcases Nat.eq_zero_or_pos y with rfl | hy0
    · go_wp2_with fail
      refine Lt.begin 99 (fun w' => w'.heap[P]? = some (.cells #[.slice a1 l1.length p1, .slice a2 l2.length p2] 26 (0, 0))) (by kernel_rfl) ?_
      obtain ⟨wD, eD⟩ : ∃ y, w7.drew = y := ⟨_, rfl⟩
      rw [eD]
      have hbD : Below w7.heap.size w7 wD := by rw [← eD]; exact (Below.refl _ _).drew
      clear eD
      replace HP := hid (blk_below HP.out hbD)
      replace HQ := hid (blk_below HQ.out hbD)
      replace HD := hid (HD.out.below hbD)
      replace HR := hid (HR.out.below hBw hbD)
      have hS0 : (fun w' => w'.heap[P]? = some (.cells #[.slice a1 l1.length p1, .slice a2 l2.length p2] 26 (0, 0))) wD := HP.out
      refine Lt.take (i := 0) (oi := { dst := some 23, op := Op.load 26 (Operand.tmp 6), type := 26, pos := "l3_draw.go:134", after := #[], guard := none }) (v := ?_) rfl (by kernel_rfl) (by kernel_rfl) (by kernel_rfl) (by kernel_rfl) (fun _ _ _ h => h) hS0 (Or.inl ⟨by rfl, ?_⟩) ?_
      rotate_left 1
      · rintro w hSw
        obtain ⟨c0, c1⟩ := blk_c hSw
        go_simp
        first | done | with_reducible rfl
      simp only [Act.put, List.setIfInBounds_toArray, List.set_cons_zero, List.set_cons_succ]
      refine Lt.take (i := 1) (oi := { dst := some 24, op := Op.move (Operand.tmp 5), type := 46, pos := "l3_draw.go:134", after := #[], guard := none }) (v := ?_) rfl (by kernel_rfl) (by kernel_rfl) (by kernel_rfl) (by kernel_rfl) (fun _ _ _ h => h) hS0 (Or.inl ⟨by rfl, ?_⟩) ?_
      rotate_left 1
      · rintro w hSw
        obtain ⟨c0, c1⟩ := blk_c hSw
        go_simp
        first | done | with_reducible rfl
      simp only [Act.put, List.setIfInBounds_toArray, List.set_cons_zero, List.set_cons_succ]
      refine Lt.take (i := 5) (oi := { dst := some 28, op := Op.move (Operand.tmp 5), type := 46, pos := "l3_draw.go:134", after := #[], guard := none }) (v := ?_) rfl (by kernel_rfl) (by kernel_rfl) (by kernel_rfl) (by kernel_rfl) (fun _ _ _ h => h) hS0 (Or.inl ⟨by rfl, ?_⟩) ?_
      rotate_left 1
      · rintro w hSw
        obtain ⟨c0, c1⟩ := blk_c hSw
        go_simp
        first | done | with_reducible rfl
      simp only [Act.put, List.setIfInBounds_toArray, List.set_cons_zero, List.set_cons_succ]
      refine Lt.two (i := 2) (j := 4) (oi := { dst := some 25, op := Op.call { callee := Callee.value (Operand.func 19), args := #[Operand.tmp 24, Operand.const (Value.int IntKind.i64 2)], argTypes := #[46, 3] }, type := 3, pos := "l3_draw.go:134", after := #[{ on := 1, ground := Ground.data }], guard := none }) (oj := { dst := some 27, op := Op.buildSlice 39 2 #[(0, Operand.const (Value.string { data := #[97] })), (1, Operand.const (Value.string { data := #[122, 110, 101, 119] }))], type := 39, pos := "l3_draw.go:134", after := #[{ on := 9, ground := Ground.gcOnly Departure.lateStores }], guard := none }) (by kernel_rfl) rfl rfl (fun K hK => ?_) (fun K hK => ?_)
      · go_simp
        refine (HR.out.pick (by omega) 2 (by omega) (by omega)).mono ?_
        rintro e wA ⟨q, rfl, hq, hrA, hgA⟩
        replace HP := hid (blk_gb HP.out hgA (by omega))
        replace HQ := hid (blk_gb HQ.out hgA (by omega))
        replace HD := hid (HD.out.gb hgA hR2)
        replace HR := hid hrA
        have hS1 : (fun w' => w'.heap[P]? = some (.cells #[.slice a1 l1.length p1, .slice a2 l2.length p2] 26 (0, 0))) wA := HP.out
        refine hK.out _ _ (fun _ => hS1) (fun _ => ?_)
        clear hK K hgA hrA
        try simp only [Act.put, List.setIfInBounds_toArray, List.set_cons_zero, List.set_cons_succ]
        refine Lt.two (i := 3) (j := 4) (oi := { dst := some 26, op := Op.call { callee := Callee.value (Operand.func 21), args := #[Operand.tmp 23, Operand.tmp 25], argTypes := #[26, 3] }, type := 26, pos := "l3_draw.go:134", after := #[{ on := 0, ground := Ground.data }, { on := 2, ground := Ground.data }, { on := 2, ground := Ground.chain }], guard := none }) (oj := { dst := some 27, op := Op.buildSlice 39 2 #[(0, Operand.const (Value.string { data := #[97] })), (1, Operand.const (Value.string { data := #[122, 110, 101, 119] }))], type := 39, pos := "l3_draw.go:134", after := #[{ on := 9, ground := Ground.gcOnly Departure.lateStores }], guard := none }) (by kernel_rfl) rfl rfl (fun K hK => ?_) (fun K hK => ?_)
        · go_simp
          refine (l3Full_any q (by omega) HD.out HBD.out).mono ?_
          rintro e wF ⟨hbF, u1, u2, m1, m2, rfl, hdF, hbdF⟩
          obtain ⟨b1, n1, rfl⟩ := hdF.s1
          obtain ⟨b2, n2, rfl⟩ := hdF.s2
          have HDF := hid (hdF.base (lo' := w2.heap.size) HR.out.size)
          have HBF := hid hbdF
          clear hdF hbdF
          replace HP := hid (blk_below HP.out hbF)
          replace HQ := hid (blk_below HQ.out hbF)
          replace HD := hid (HD.out.below hbF)
          replace HR := hid (HR.out.below hBw hbF)
          have hS2 : (fun w' => w'.heap[P]? = some (.cells #[.slice a1 l1.length p1, .slice a2 l2.length p2] 26 (0, 0))) wF := HP.out
          refine hK.out _ _ (fun _ => hS2) (fun _ => ?_)
          clear hK K hbF
          try simp only [Act.put, List.setIfInBounds_toArray, List.set_cons_zero, List.set_cons_succ]
          refine Lt.two (i := 4) (j := 6) (oi := { dst := some 27, op := Op.buildSlice 39 2 #[(0, Operand.const (Value.string { data := #[97] })), (1, Operand.const (Value.string { data := #[122, 110, 101, 119] }))], type := 39, pos := "l3_draw.go:134", after := #[{ on := 9, ground := Ground.gcOnly Departure.lateStores }], guard := none }) (oj := { dst := some 29, op := Op.call { callee := Callee.value (Operand.func 19), args := #[Operand.tmp 28, Operand.const (Value.int IntKind.i64 2)], argTypes := #[46, 3] }, type := 3, pos := "l3_draw.go:134", after := #[{ on := 5, ground := Ground.data }, { on := 3, ground := Ground.chain }], guard := none }) (by kernel_rfl) rfl rfl (fun K hK => ?_) (fun K hK => ?_)
          · go_simp
            refine name_alloc (Q := fun x => K _ x) ?_
            intro wX hbX HL
            try dsimp only
            obtain ⟨dl, edl⟩ : ∃ y, wF.heap.size = y := ⟨_, rfl⟩
            have hdl : w2.heap.size ≤ dl := by have := HR.out.size; omega
            rw [edl] at HL ⊢
            clear edl
            replace HP := hid (blk_below HP.out hbX)
            replace HQ := hid (blk_below HQ.out hbX)
            replace HD := hid (HD.out.below hbX)
            replace HR := hid (HR.out.below hBw hbX)
            replace HDF := hid (HDF.out.below hbX)
            have hS3 : (fun w' => w'.heap[P]? = some (.cells #[.slice a1 l1.length p1, .slice a2 l2.length p2] 26 (0, 0))) wX := HP.out
            refine hK.out _ _ (fun _ => hS3) (fun _ => ?_)
            clear hK K hbX
            try simp only [Act.put, List.setIfInBounds_toArray, List.set_cons_zero, List.set_cons_succ]
            refine Lt.step (i := 6) (o := { dst := some 29, op := Op.call { callee := Callee.value (Operand.func 19), args := #[Operand.tmp 28, Operand.const (Value.int IntKind.i64 2)], argTypes := #[46, 3] }, type := 3, pos := "l3_draw.go:134", after := #[{ on := 5, ground := Ground.data }, { on := 3, ground := Ground.chain }], guard := none }) (by kernel_rfl) rfl (fun K hK => ?_)
            go_simp
            refine (HR.out.pick (by omega) 2 (by omega) (by omega)).mono ?_
            rintro e wM ⟨j, rfl, hj, hrA, hgA⟩
            replace HP := hid (blk_gb HP.out hgA (by omega))
            replace HQ := hid (blk_gb HQ.out hgA (by omega))
            replace HD := hid (HD.out.gb hgA hR2)
            replace HR := hid hrA
            replace HDF := hid (HDF.out.gb hgA hR2)
            replace HL := hid (blk_gb HL.out hgA (by omega))
            have hS4 : (fun w' => w'.heap[P]? = some (.cells #[.slice a1 l1.length p1, .slice a2 l2.length p2] 26 (0, 0))) wM := HP.out
            refine hK.out _ _ (fun _ => hS4) (fun _ => ?_)
            clear hK K hgA hrA
            try simp only [Act.put, List.setIfInBounds_toArray, List.set_cons_zero, List.set_cons_succ]
            have k0 : wM.cell? ⟨dl, 0, none⟩ = some (.string ⟨#[97]⟩) := by rw [Lib.cell_of_heap HL.out]; rfl
            have k1 : wM.cell? ⟨dl, 1, none⟩ = some (.string ⟨#[122, 110, 101, 119]⟩) := by rw [Lib.cell_of_heap HL.out]; rfl
            obtain ⟨nl, knl, hnl⟩ : ∃ nl : ByteArray, wM.cell? ⟨dl, j, none⟩ = some (.string nl) ∧ nl.size ≤ 50000 := by rcases (show j = 0 ∨ j = 1 from by omega) with rfl | rfl <;> first | exact ⟨_, k0, by decide⟩ | exact ⟨_, k1, by decide⟩
            have hjI : (j : Int) < 2 := by omega
            clear k0 k1
            obtain ⟨r0, r1⟩ := blk_c HQ.out
            have fr := fun j => Lib.frozen_of_heap HQ.out j
            have kq : ∀ z1 z2, ((wM.setCell ⟨w.heap.size, 0, none⟩ z1).setCell ⟨w.heap.size, 1, none⟩ z2).cell? ⟨dl, j, none⟩ = some (.string nl) := fun z1 z2 => by rw [World.cell?_setCell_far _ _ _ _ (by simp; omega), World.cell?_setCell_far _ _ _ _ (by simp; omega)]; exact knl
            refine Lt.two (i := 7) (j := 9) (oi := { dst := some 30, op := Op.indexAddr 39 (Operand.tmp 27) (Operand.tmp 29), type := 0, pos := "l3_draw.go:134", after := #[{ on := 4, ground := Ground.data }, { on := 6, ground := Ground.data }, { on := 9, ground := Ground.gcOnly Departure.lateStores }], guard := none }) (oj := { dst := none, op := Op.store 26 (Operand.tmp 2) (Operand.tmp 26), type := 0, pos := "l3_draw.go:134", after := #[{ on := 3, ground := Ground.data }, { on := 6, ground := Ground.chain }, { on := 0, ground := Ground.phase }, { on := 1, ground := Ground.phase }, { on := 2, ground := Ground.phase }, { on := 3, ground := Ground.phase }, { on := 4, ground := Ground.textOnly Departure.lateStores }, { on := 5, ground := Ground.textOnly Departure.lateStores }, { on := 6, ground := Ground.textOnly Departure.lateStoresUnsure }, { on := 7, ground := Ground.textOnly Departure.lateStores }, { on := 8, ground := Ground.textOnly Departure.lateStores }], guard := none }) (by kernel_rfl) rfl rfl (fun K hK => ?_) (fun K hK => ?_)
            · go_simp
              refine hK.out _ _ (fun _ => hS4) (fun _ => ?_)
              clear hK K 
              try simp only [Act.put, List.setIfInBounds_toArray, List.set_cons_zero, List.set_cons_succ]
              refine Lt.two (i := 8) (j := 9) (oi := { dst := some 31, op := Op.load 9 (Operand.tmp 30), type := 9, pos := "l3_draw.go:134", after := #[{ on := 7, ground := Ground.data }, { on := 9, ground := Ground.gcOnly Departure.lateStores }], guard := none }) (oj := { dst := none, op := Op.store 26 (Operand.tmp 2) (Operand.tmp 26), type := 0, pos := "l3_draw.go:134", after := #[{ on := 3, ground := Ground.data }, { on := 6, ground := Ground.chain }, { on := 0, ground := Ground.phase }, { on := 1, ground := Ground.phase }, { on := 2, ground := Ground.phase }, { on := 3, ground := Ground.phase }, { on := 4, ground := Ground.textOnly Departure.lateStores }, { on := 5, ground := Ground.textOnly Departure.lateStores }, { on := 6, ground := Ground.textOnly Departure.lateStoresUnsure }, { on := 7, ground := Ground.textOnly Departure.lateStores }, { on := 8, ground := Ground.textOnly Departure.lateStores }], guard := none }) (by kernel_rfl) rfl rfl (fun K hK => ?_) (fun K hK => ?_)
              · go_simp
                refine hK.out _ _ (fun _ => hS4) (fun _ => ?_)
                clear hK K 
                try simp only [Act.put, List.setIfInBounds_toArray, List.set_cons_zero, List.set_cons_succ]
                refine Lt.step (i := 9) (o := { dst := none, op := Op.store 26 (Operand.tmp 2) (Operand.tmp 26), type := 0, pos := "l3_draw.go:134", after := #[{ on := 3, ground := Ground.data }, { on := 6, ground := Ground.chain }, { on := 0, ground := Ground.phase }, { on := 1, ground := Ground.phase }, { on := 2, ground := Ground.phase }, { on := 3, ground := Ground.phase }, { on := 4, ground := Ground.textOnly Departure.lateStores }, { on := 5, ground := Ground.textOnly Departure.lateStores }, { on := 6, ground := Ground.textOnly Departure.lateStoresUnsure }, { on := 7, ground := Ground.textOnly Departure.lateStores }, { on := 8, ground := Ground.textOnly Departure.lateStores }], guard := none }) (by kernel_rfl) rfl (fun K hK => ?_)
                go_simp
                refine hK.out _ _ (fun _ => blk_set (blk_set HP.out (by omega) _) (by omega) _) (fun _ => ?_)
                clear hK K
                try simp only [Act.put, List.setIfInBounds_toArray, List.set_cons_zero, List.set_cons_succ]
                refine Lt.step (i := 10) (o := { dst := some 3, op := Op.assign (Operand.tmp 31), type := 9, pos := "l3_draw.go:134", after := #[{ on := 8, ground := Ground.data }, { on := 9, ground := Ground.chain }, { on := 0, ground := Ground.phase }, { on := 1, ground := Ground.phase }, { on := 2, ground := Ground.phase }, { on := 3, ground := Ground.phase }, { on := 4, ground := Ground.phase }, { on := 5, ground := Ground.phase }, { on := 6, ground := Ground.phase }, { on := 7, ground := Ground.phase }, { on := 8, ground := Ground.phase }, { on := 9, ground := Ground.phase }], guard := none }) (by kernel_rfl) rfl (fun K hK => ?_)
                go_simp
                refine hK.out _ _ (fun _ => blk_set (blk_set HP.out (by omega) _) (by omega) _) (fun _ => ?_)
                clear hK K
                try simp only [Act.put, List.setIfInBounds_toArray, List.set_cons_zero, List.set_cons_succ]
                refine Lt.step (i := 11) (o := { dst := some 4, op := Op.assign (Operand.const (Value.string { data := #[120] })), type := 9, pos := "l3_draw.go:134", after := #[{ on := 10, ground := Ground.chain }, { on := 0, ground := Ground.phase }, { on := 1, ground := Ground.phase }, { on := 2, ground := Ground.phase }, { on := 3, ground := Ground.phase }, { on := 4, ground := Ground.phase }, { on := 5, ground := Ground.phase }, { on := 6, ground := Ground.phase }, { on := 7, ground := Ground.phase }, { on := 8, ground := Ground.phase }, { on := 9, ground := Ground.phase }, { on := 10, ground := Ground.phase }], guard := none }) (by kernel_rfl) rfl (fun K hK => ?_)
                go_simp
                refine hK.out _ _ (fun _ => blk_set (blk_set HP.out (by omega) _) (by omega) _) (fun _ => ?_)
                clear hK K
                try simp only [Act.put, List.setIfInBounds_toArray, List.set_cons_zero, List.set_cons_succ]
                refine Lt.done (by kernel_rfl) ?_ _
                go_wp2
                refine bodyPost_ret (v := .tuple #[.agg #[.slice b1 m1.length n1, .slice b2 m2.length n2], .string nl, .string ⟨#[120]⟩]) (by simp [results, Tryz.results4, go_sem, r0, r1]) rfl ?_
                exact DrS.mk' (w1 := w) HB.out HR.out.1 hRw (HDF.out.base (by omega)) HBF.out HQ.out hnl (by decide)
              · go_simp
                refine hK.out _ _ (fun _ => blk_set (blk_set HP.out (by omega) _) (by omega) _) (fun _ => ?_)
                clear hK K
                try simp only [Act.put, List.setIfInBounds_toArray, List.set_cons_zero, List.set_cons_succ]
                refine Lt.step (i := 8) (o := { dst := some 31, op := Op.load 9 (Operand.tmp 30), type := 9, pos := "l3_draw.go:134", after := #[{ on := 7, ground := Ground.data }, { on := 9, ground := Ground.gcOnly Departure.lateStores }], guard := none }) (by kernel_rfl) rfl (fun K hK => ?_)
                go_simp
                refine hK.out _ _ (fun _ => blk_set (blk_set HP.out (by omega) _) (by omega) _) (fun _ => ?_)
                clear hK K
                try simp only [Act.put, List.setIfInBounds_toArray, List.set_cons_zero, List.set_cons_succ]
                refine Lt.step (i := 10) (o := { dst := some 3, op := Op.assign (Operand.tmp 31), type := 9, pos := "l3_draw.go:134", after := #[{ on := 8, ground := Ground.data }, { on := 9, ground := Ground.chain }, { on := 0, ground := Ground.phase }, { on := 1, ground := Ground.phase }, { on := 2, ground := Ground.phase }, { on := 3, ground := Ground.phase }, { on := 4, ground := Ground.phase }, { on := 5, ground := Ground.phase }, { on := 6, ground := Ground.phase }, { on := 7, ground := Ground.phase }, { on := 8, ground := Ground.phase }, { on := 9, ground := Ground.phase }], guard := none }) (by kernel_rfl) rfl (fun K hK => ?_)
                go_simp
                refine hK.out _ _ (fun _ => blk_set (blk_set HP.out (by omega) _) (by omega) _) (fun _ => ?_)
                clear hK K
                try simp only [Act.put, List.setIfInBounds_toArray, List.set_cons_zero, List.set_cons_succ]
                refine Lt.step (i := 11) (o := { dst := some 4, op := Op.assign (Operand.const (Value.string { data := #[120] })), type := 9, pos := "l3_draw.go:134", after := #[{ on := 10, ground := Ground.chain }, { on := 0, ground := Ground.phase }, { on := 1, ground := Ground.phase }, { on := 2, ground := Ground.phase }, { on := 3, ground := Ground.phase }, { on := 4, ground := Ground.phase }, { on := 5, ground := Ground.phase }, { on := 6, ground := Ground.phase }, { on := 7, ground := Ground.phase }, { on := 8, ground := Ground.phase }, { on := 9, ground := Ground.phase }, { on := 10, ground := Ground.phase }], guard := none }) (by kernel_rfl) rfl (fun K hK => ?_)
                go_simp
                refine hK.out _ _ (fun _ => blk_set (blk_set HP.out (by omega) _) (by omega) _) (fun _ => ?_)
                clear hK K
                try simp only [Act.put, List.setIfInBounds_toArray, List.set_cons_zero, List.set_cons_succ]
                refine Lt.done (by kernel_rfl) ?_ _
                go_wp2
                refine bodyPost_ret (v := .tuple #[.agg #[.slice b1 m1.length n1, .slice b2 m2.length n2], .string nl, .string ⟨#[120]⟩]) (by simp [results, Tryz.results4, go_sem, r0, r1]) rfl ?_
                exact DrS.mk' (w1 := w) HB.out HR.out.1 hRw (HDF.out.base (by omega)) HBF.out HQ.out hnl (by decide)
            · go_simp
              refine hK.out _ _ (fun _ => blk_set (blk_set HP.out (by omega) _) (by omega) _) (fun _ => ?_)
              clear hK K
              try simp only [Act.put, List.setIfInBounds_toArray, List.set_cons_zero, List.set_cons_succ]
              refine Lt.step (i := 7) (o := { dst := some 30, op := Op.indexAddr 39 (Operand.tmp 27) (Operand.tmp 29), type := 0, pos := "l3_draw.go:134", after := #[{ on := 4, ground := Ground.data }, { on := 6, ground := Ground.data }, { on := 9, ground := Ground.gcOnly Departure.lateStores }], guard := none }) (by kernel_rfl) rfl (fun K hK => ?_)
              go_simp
              refine hK.out _ _ (fun _ => blk_set (blk_set HP.out (by omega) _) (by omega) _) (fun _ => ?_)
              clear hK K
              try simp only [Act.put, List.setIfInBounds_toArray, List.set_cons_zero, List.set_cons_succ]
              refine Lt.step (i := 8) (o := { dst := some 31, op := Op.load 9 (Operand.tmp 30), type := 9, pos := "l3_draw.go:134", after := #[{ on := 7, ground := Ground.data }, { on := 9, ground := Ground.gcOnly Departure.lateStores }], guard := none }) (by kernel_rfl) rfl (fun K hK => ?_)
              go_simp
              refine hK.out _ _ (fun _ => blk_set (blk_set HP.out (by omega) _) (by omega) _) (fun _ => ?_)
              clear hK K
              try simp only [Act.put, List.setIfInBounds_toArray, List.set_cons_zero, List.set_cons_succ]
              refine Lt.step (i := 10) (o := { dst := some 3, op := Op.assign (Operand.tmp 31), type := 9, pos := "l3_draw.go:134", after := #[{ on := 8, ground := Ground.data }, { on := 9, ground := Ground.chain }, { on := 0, ground := Ground.phase }, { on := 1, ground := Ground.phase }, { on := 2, ground := Ground.phase }, { on := 3, ground := Ground.phase }, { on := 4, ground := Ground.phase }, { on := 5, ground := Ground.phase }, { on := 6, ground := Ground.phase }, { on := 7, ground := Ground.phase }, { on := 8, ground := Ground.phase }, { on := 9, ground := Ground.phase }], guard := none }) (by kernel_rfl) rfl (fun K hK => ?_)
              go_simp
              refine hK.out _ _ (fun _ => blk_set (blk_set HP.out (by omega) _) (by omega) _) (fun _ => ?_)
              clear hK K
              try simp only [Act.put, List.setIfInBounds_toArray, List.set_cons_zero, List.set_cons_succ]
              refine Lt.step (i := 11) (o := { dst := some 4, op := Op.assign (Operand.const (Value.string { data := #[120] })), type := 9, pos := "l3_draw.go:134", after := #[{ on := 10, ground := Ground.chain }, { on := 0, ground := Ground.phase }, { on := 1, ground := Ground.phase }, { on := 2, ground := Ground.phase }, { on := 3, ground := Ground.phase }, { on := 4, ground := Ground.phase }, { on := 5, ground := Ground.phase }, { on := 6, ground := Ground.phase }, { on := 7, ground := Ground.phase }, { on := 8, ground := Ground.phase }, { on := 9, ground := Ground.phase }, { on := 10, ground := Ground.phase }], guard := none }) (by kernel_rfl) rfl (fun K hK => ?_)
              go_simp
              refine hK.out _ _ (fun _ => blk_set (blk_set HP.out (by omega) _) (by omega) _) (fun _ => ?_)
              clear hK K
              try simp only [Act.put, List.setIfInBounds_toArray, List.set_cons_zero, List.set_cons_succ]
              refine Lt.done (by kernel_rfl) ?_ _
              go_wp2
              refine bodyPost_ret (v := .tuple #[.agg #[.slice b1 m1.length n1, .slice b2 m2.length n2], .string nl, .string ⟨#[120]⟩]) (by simp [results, Tryz.results4, go_sem, r0, r1]) rfl ?_
              exact DrS.mk' (w1 := w) HB.out HR.out.1 hRw (HDF.out.base (by omega)) HBF.out HQ.out hnl (by decide)
          · go_simp
            refine (HR.out.pick (by omega) 2 (by omega) (by omega)).mono ?_
            rintro e wM ⟨j, rfl, hj, hrA, hgA⟩
            replace HP := hid (blk_gb HP.out hgA (by omega))
            replace HQ := hid (blk_gb HQ.out hgA (by omega))
            replace HD := hid (HD.out.gb hgA hR2)
            replace HR := hid hrA
            replace HDF := hid (HDF.out.gb hgA hR2)
            have hS3 : (fun w' => w'.heap[P]? = some (.cells #[.slice a1 l1.length p1, .slice a2 l2.length p2] 26 (0, 0))) wM := HP.out
            refine hK.out _ _ (fun _ => hS3) (fun _ => ?_)
            clear hK K hgA hrA
            try simp only [Act.put, List.setIfInBounds_toArray, List.set_cons_zero, List.set_cons_succ]
            obtain ⟨r0, r1⟩ := blk_c HQ.out
            have fr := fun j => Lib.frozen_of_heap HQ.out j
            refine Lt.two (i := 4) (j := 9) (oi := { dst := some 27, op := Op.buildSlice 39 2 #[(0, Operand.const (Value.string { data := #[97] })), (1, Operand.const (Value.string { data := #[122, 110, 101, 119] }))], type := 39, pos := "l3_draw.go:134", after := #[{ on := 9, ground := Ground.gcOnly Departure.lateStores }], guard := none }) (oj := { dst := none, op := Op.store 26 (Operand.tmp 2) (Operand.tmp 26), type := 0, pos := "l3_draw.go:134", after := #[{ on := 3, ground := Ground.data }, { on := 6, ground := Ground.chain }, { on := 0, ground := Ground.phase }, { on := 1, ground := Ground.phase }, { on := 2, ground := Ground.phase }, { on := 3, ground := Ground.phase }, { on := 4, ground := Ground.textOnly Departure.lateStores }, { on := 5, ground := Ground.textOnly Departure.lateStores }, { on := 6, ground := Ground.textOnly Departure.lateStoresUnsure }, { on := 7, ground := Ground.textOnly Departure.lateStores }, { on := 8, ground := Ground.textOnly Departure.lateStores }], guard := none }) (by kernel_rfl) rfl rfl (fun K hK => ?_) (fun K hK => ?_)
            · go_simp
              clear r0 r1 fr
              refine name_alloc (Q := fun x => K _ x) ?_
              intro wX hbX HL
              try dsimp only
              obtain ⟨dl, edl⟩ : ∃ y, wM.heap.size = y := ⟨_, rfl⟩
              have hdl : w2.heap.size ≤ dl := by have := HR.out.size; omega
              rw [edl] at HL ⊢
              clear edl
              replace HP := hid (blk_below HP.out hbX)
              replace HQ := hid (blk_below HQ.out hbX)
              replace HD := hid (HD.out.below hbX)
              replace HR := hid (HR.out.below hBw hbX)
              replace HDF := hid (HDF.out.below hbX)
              have hS4 : (fun w' => w'.heap[P]? = some (.cells #[.slice a1 l1.length p1, .slice a2 l2.length p2] 26 (0, 0))) wX := HP.out
              refine hK.out _ _ (fun _ => hS4) (fun _ => ?_)
              clear hK K hbX
              try simp only [Act.put, List.setIfInBounds_toArray, List.set_cons_zero, List.set_cons_succ]
              have k0 : wX.cell? ⟨dl, 0, none⟩ = some (.string ⟨#[97]⟩) := by rw [Lib.cell_of_heap HL.out]; rfl
              have k1 : wX.cell? ⟨dl, 1, none⟩ = some (.string ⟨#[122, 110, 101, 119]⟩) := by rw [Lib.cell_of_heap HL.out]; rfl
              obtain ⟨nl, knl, hnl⟩ : ∃ nl : ByteArray, wX.cell? ⟨dl, j, none⟩ = some (.string nl) ∧ nl.size ≤ 50000 := by rcases (show j = 0 ∨ j = 1 from by omega) with rfl | rfl <;> first | exact ⟨_, k0, by decide⟩ | exact ⟨_, k1, by decide⟩
              have hjI : (j : Int) < 2 := by omega
              clear k0 k1
              obtain ⟨r0, r1⟩ := blk_c HQ.out
              have fr := fun j => Lib.frozen_of_heap HQ.out j
              have kq : ∀ z1 z2, ((wX.setCell ⟨w.heap.size, 0, none⟩ z1).setCell ⟨w.heap.size, 1, none⟩ z2).cell? ⟨dl, j, none⟩ = some (.string nl) := fun z1 z2 => by rw [World.cell?_setCell_far _ _ _ _ (by simp; omega), World.cell?_setCell_far _ _ _ _ (by simp; omega)]; exact knl
              refine Lt.two (i := 7) (j := 9) (oi := { dst := some 30, op := Op.indexAddr 39 (Operand.tmp 27) (Operand.tmp 29), type := 0, pos := "l3_draw.go:134", after := #[{ on := 4, ground := Ground.data }, { on := 6, ground := Ground.data }, { on := 9, ground := Ground.gcOnly Departure.lateStores }], guard := none }) (oj := { dst := none, op := Op.store 26 (Operand.tmp 2) (Operand.tmp 26), type := 0, pos := "l3_draw.go:134", after := #[{ on := 3, ground := Ground.data }, { on := 6, ground := Ground.chain }, { on := 0, ground := Ground.phase }, { on := 1, ground := Ground.phase }, { on := 2, ground := Ground.phase }, { on := 3, ground := Ground.phase }, { on := 4, ground := Ground.textOnly Departure.lateStores }, { on := 5, ground := Ground.textOnly Departure.lateStores }, { on := 6, ground := Ground.textOnly Departure.lateStoresUnsure }, { on := 7, ground := Ground.textOnly Departure.lateStores }, { on := 8, ground := Ground.textOnly Departure.lateStores }], guard := none }) (by kernel_rfl) rfl rfl (fun K hK => ?_) (fun K hK => ?_)
              · go_simp
                refine hK.out _ _ (fun _ => hS4) (fun _ => ?_)
                clear hK K 
                try simp only [Act.put, List.setIfInBounds_toArray, List.set_cons_zero, List.set_cons_succ]
                refine Lt.two (i := 8) (j := 9) (oi := { dst := some 31, op := Op.load 9 (Operand.tmp 30), type := 9, pos := "l3_draw.go:134", after := #[{ on := 7, ground := Ground.data }, { on := 9, ground := Ground.gcOnly Departure.lateStores }], guard := none }) (oj := { dst := none, op := Op.store 26 (Operand.tmp 2) (Operand.tmp 26), type := 0, pos := "l3_draw.go:134", after := #[{ on := 3, ground := Ground.data }, { on := 6, ground := Ground.chain }, { on := 0, ground := Ground.phase }, { on := 1, ground := Ground.phase }, { on := 2, ground := Ground.phase }, { on := 3, ground := Ground.phase }, { on := 4, ground := Ground.textOnly Departure.lateStores }, { on := 5, ground := Ground.textOnly Departure.lateStores }, { on := 6, ground := Ground.textOnly Departure.lateStoresUnsure }, { on := 7, ground := Ground.textOnly Departure.lateStores }, { on := 8, ground := Ground.textOnly Departure.lateStores }], guard := none }) (by kernel_rfl) rfl rfl (fun K hK => ?_) (fun K hK => ?_)
                · go_simp
                  refine hK.out _ _ (fun _ => hS4) (fun _ => ?_)
                  clear hK K 
                  try simp only [Act.put, List.setIfInBounds_toArray, List.set_cons_zero, List.set_cons_succ]
                  refine Lt.step (i := 9) (o := { dst := none, op := Op.store 26 (Operand.tmp 2) (Operand.tmp 26), type := 0, pos := "l3_draw.go:134", after := #[{ on := 3, ground := Ground.data }, { on := 6, ground := Ground.chain }, { on := 0, ground := Ground.phase }, { on := 1, ground := Ground.phase }, { on := 2, ground := Ground.phase }, { on := 3, ground := Ground.phase }, { on := 4, ground := Ground.textOnly Departure.lateStores }, { on := 5, ground := Ground.textOnly Departure.lateStores }, { on := 6, ground := Ground.textOnly Departure.lateStoresUnsure }, { on := 7, ground := Ground.textOnly Departure.lateStores }, { on := 8, ground := Ground.textOnly Departure.lateStores }], guard := none }) (by kernel_rfl) rfl (fun K hK => ?_)
                  go_simp
                  refine hK.out _ _ (fun _ => blk_set (blk_set HP.out (by omega) _) (by omega) _) (fun _ => ?_)
                  clear hK K
                  try simp only [Act.put, List.setIfInBounds_toArray, List.set_cons_zero, List.set_cons_succ]
                  refine Lt.step (i := 10) (o := { dst := some 3, op := Op.assign (Operand.tmp 31), type := 9, pos := "l3_draw.go:134", after := #[{ on := 8, ground := Ground.data }, { on := 9, ground := Ground.chain }, { on := 0, ground := Ground.phase }, { on := 1, ground := Ground.phase }, { on := 2, ground := Ground.phase }, { on := 3, ground := Ground.phase }, { on := 4, ground := Ground.phase }, { on := 5, ground := Ground.phase }, { on := 6, ground := Ground.phase }, { on := 7, ground := Ground.phase }, { on := 8, ground := Ground.phase }, { on := 9, ground := Ground.phase }], guard := none }) (by kernel_rfl) rfl (fun K hK => ?_)
                  go_simp
                  refine hK.out _ _ (fun _ => blk_set (blk_set HP.out (by omega) _) (by omega) _) (fun _ => ?_)
                  clear hK K
                  try simp only [Act.put, List.setIfInBounds_toArray, List.set_cons_zero, List.set_cons_succ]
                  refine Lt.step (i := 11) (o := { dst := some 4, op := Op.assign (Operand.const (Value.string { data := #[120] })), type := 9, pos := "l3_draw.go:134", after := #[{ on := 10, ground := Ground.chain }, { on := 0, ground := Ground.phase }, { on := 1, ground := Ground.phase }, { on := 2, ground := Ground.phase }, { on := 3, ground := Ground.phase }, { on := 4, ground := Ground.phase }, { on := 5, ground := Ground.phase }, { on := 6, ground := Ground.phase }, { on := 7, ground := Ground.phase }, { on := 8, ground := Ground.phase }, { on := 9, ground := Ground.phase }, { on := 10, ground := Ground.phase }], guard := none }) (by kernel_rfl) rfl (fun K hK => ?_)
                  go_simp
                  refine hK.out _ _ (fun _ => blk_set (blk_set HP.out (by omega) _) (by omega) _) (fun _ => ?_)
                  clear hK K
                  try simp only [Act.put, List.setIfInBounds_toArray, List.set_cons_zero, List.set_cons_succ]
                  refine Lt.done (by kernel_rfl) ?_ _
                  go_wp2
                  refine bodyPost_ret (v := .tuple #[.agg #[.slice b1 m1.length n1, .slice b2 m2.length n2], .string nl, .string ⟨#[120]⟩]) (by simp [results, Tryz.results4, go_sem, r0, r1]) rfl ?_
                  exact DrS.mk' (w1 := w) HB.out HR.out.1 hRw (HDF.out.base (by omega)) HBF.out HQ.out hnl (by decide)
                · go_simp
                  refine hK.out _ _ (fun _ => blk_set (blk_set HP.out (by omega) _) (by omega) _) (fun _ => ?_)
                  clear hK K
                  try simp only [Act.put, List.setIfInBounds_toArray, List.set_cons_zero, List.set_cons_succ]
                  refine Lt.step (i := 8) (o := { dst := some 31, op := Op.load 9 (Operand.tmp 30), type := 9, pos := "l3_draw.go:134", after := #[{ on := 7, ground := Ground.data }, { on := 9, ground := Ground.gcOnly Departure.lateStores }], guard := none }) (by kernel_rfl) rfl (fun K hK => ?_)
                  go_simp
                  refine hK.out _ _ (fun _ => blk_set (blk_set HP.out (by omega) _) (by omega) _) (fun _ => ?_)
                  clear hK K
                  try simp only [Act.put, List.setIfInBounds_toArray, List.set_cons_zero, List.set_cons_succ]
                  refine Lt.step (i := 10) (o := { dst := some 3, op := Op.assign (Operand.tmp 31), type := 9, pos := "l3_draw.go:134", after := #[{ on := 8, ground := Ground.data }, { on := 9, ground := Ground.chain }, { on := 0, ground := Ground.phase }, { on := 1, ground := Ground.phase }, { on := 2, ground := Ground.phase }, { on := 3, ground := Ground.phase }, { on := 4, ground := Ground.phase }, { on := 5, ground := Ground.phase }, { on := 6, ground := Ground.phase }, { on := 7, ground := Ground.phase }, { on := 8, ground := Ground.phase }, { on := 9, ground := Ground.phase }], guard := none }) (by kernel_rfl) rfl (fun K hK => ?_)
                  go_simp
                  refine hK.out _ _ (fun _ => blk_set (blk_set HP.out (by omega) _) (by omega) _) (fun _ => ?_)
                  clear hK K
                  try simp only [Act.put, List.setIfInBounds_toArray, List.set_cons_zero, List.set_cons_succ]
                  refine Lt.step (i := 11) (o := { dst := some 4, op := Op.assign (Operand.const (Value.string { data := #[120] })), type := 9, pos := "l3_draw.go:134", after := #[{ on := 10, ground := Ground.chain }, { on := 0, ground := Ground.phase }, { on := 1, ground := Ground.phase }, { on := 2, ground := Ground.phase }, { on := 3, ground := Ground.phase }, { on := 4, ground := Ground.phase }, { on := 5, ground := Ground.phase }, { on := 6, ground := Ground.phase }, { on := 7, ground := Ground.phase }, { on := 8, ground := Ground.phase }, { on := 9, ground := Ground.phase }, { on := 10, ground := Ground.phase }], guard := none }) (by kernel_rfl) rfl (fun K hK => ?_)
                  go_simp
                  refine hK.out _ _ (fun _ => blk_set (blk_set HP.out (by omega) _) (by omega) _) (fun _ => ?_)
                  clear hK K
                  try simp only [Act.put, List.setIfInBounds_toArray, List.set_cons_zero, List.set_cons_succ]
                  refine Lt.done (by kernel_rfl) ?_ _
                  go_wp2
                  refine bodyPost_ret (v := .tuple #[.agg #[.slice b1 m1.length n1, .slice b2 m2.length n2], .string nl, .string ⟨#[120]⟩]) (by simp [results, Tryz.results4, go_sem, r0, r1]) rfl ?_
                  exact DrS.mk' (w1 := w) HB.out HR.out.1 hRw (HDF.out.base (by omega)) HBF.out HQ.out hnl (by decide)
              · go_simp
                refine hK.out _ _ (fun _ => blk_set (blk_set HP.out (by omega) _) (by omega) _) (fun _ => ?_)
                clear hK K
                try simp only [Act.put, List.setIfInBounds_toArray, List.set_cons_zero, List.set_cons_succ]
                refine Lt.step (i := 7) (o := { dst := some 30, op := Op.indexAddr 39 (Operand.tmp 27) (Operand.tmp 29), type := 0, pos := "l3_draw.go:134", after := #[{ on := 4, ground := Ground.data }, { on := 6, ground := Ground.data }, { on := 9, ground := Ground.gcOnly Departure.lateStores }], guard := none }) (by kernel_rfl) rfl (fun K hK => ?_)
                go_simp
                refine hK.out _ _ (fun _ => blk_set (blk_set HP.out (by omega) _) (by omega) _) (fun _ => ?_)
                clear hK K
                try simp only [Act.put, List.setIfInBounds_toArray, List.set_cons_zero, List.set_cons_succ]
                refine Lt.step (i := 8) (o := { dst := some 31, op := Op.load 9 (Operand.tmp 30), type := 9, pos := "l3_draw.go:134", after := #[{ on := 7, ground := Ground.data }, { on := 9, ground := Ground.gcOnly Departure.lateStores }], guard := none }) (by kernel_rfl) rfl (fun K hK => ?_)
                go_simp
                refine hK.out _ _ (fun _ => blk_set (blk_set HP.out (by omega) _) (by omega) _) (fun _ => ?_)
                clear hK K
                try simp only [Act.put, List.setIfInBounds_toArray, List.set_cons_zero, List.set_cons_succ]
                refine Lt.step (i := 10) (o := { dst := some 3, op := Op.assign (Operand.tmp 31), type := 9, pos := "l3_draw.go:134", after := #[{ on := 8, ground := Ground.data }, { on := 9, ground := Ground.chain }, { on := 0, ground := Ground.phase }, { on := 1, ground := Ground.phase }, { on := 2, ground := Ground.phase }, { on := 3, ground := Ground.phase }, { on := 4, ground := Ground.phase }, { on := 5, ground := Ground.phase }, { on := 6, ground := Ground.phase }, { on := 7, ground := Ground.phase }, { on := 8, ground := Ground.phase }, { on := 9, ground := Ground.phase }], guard := none }) (by kernel_rfl) rfl (fun K hK => ?_)
                go_simp
                refine hK.out _ _ (fun _ => blk_set (blk_set HP.out (by omega) _) (by omega) _) (fun _ => ?_)
                clear hK K
                try simp only [Act.put, List.setIfInBounds_toArray, List.set_cons_zero, List.set_cons_succ]
                refine Lt.step (i := 11) (o := { dst := some 4, op := Op.assign (Operand.const (Value.string { data := #[120] })), type := 9, pos := "l3_draw.go:134", after := #[{ on := 10, ground := Ground.chain }, { on := 0, ground := Ground.phase }, { on := 1, ground := Ground.phase }, { on := 2, ground := Ground.phase }, { on := 3, ground := Ground.phase }, { on := 4, ground := Ground.phase }, { on := 5, ground := Ground.phase }, { on := 6, ground := Ground.phase }, { on := 7, ground := Ground.phase }, { on := 8, ground := Ground.phase }, { on := 9, ground := Ground.phase }, { on := 10, ground := Ground.phase }], guard := none }) (by kernel_rfl) rfl (fun K hK => ?_)
                go_simp
                refine hK.out _ _ (fun _ => blk_set (blk_set HP.out (by omega) _) (by omega) _) (fun _ => ?_)
                clear hK K
                try simp only [Act.put, List.setIfInBounds_toArray, List.set_cons_zero, List.set_cons_succ]
                refine Lt.done (by kernel_rfl) ?_ _
                go_wp2
                refine bodyPost_ret (v := .tuple #[.agg #[.slice b1 m1.length n1, .slice b2 m2.length n2], .string nl, .string ⟨#[120]⟩]) (by simp [results, Tryz.results4, go_sem, r0, r1]) rfl ?_
                exact DrS.mk' (w1 := w) HB.out HR.out.1 hRw (HDF.out.base (by omega)) HBF.out HQ.out hnl (by decide)
            · go_simp
              have HQ9 := hid (blk_set2q HQ.out (.slice b1 m1.length n1) (.slice b2 m2.length n2))
              refine hK.out _ _ (fun _ => blk_set (blk_set HP.out (by omega) _) (by omega) _) (fun _ => ?_)
              clear hK K
              try simp only [Act.put, List.setIfInBounds_toArray, List.set_cons_zero, List.set_cons_succ]
              refine Lt.step (i := 4) (o := { dst := some 27, op := Op.buildSlice 39 2 #[(0, Operand.const (Value.string { data := #[97] })), (1, Operand.const (Value.string { data := #[122, 110, 101, 119] }))], type := 39, pos := "l3_draw.go:134", after := #[{ on := 9, ground := Ground.gcOnly Departure.lateStores }], guard := none }) (by kernel_rfl) rfl (fun K hK => ?_)
              go_simp
              refine name_alloc (Q := fun x => K _ x) ?_
              intro wX hbX HL0
              try dsimp only
              have HL : Hid (wX.heap[wM.heap.size]? = some (.cells #[.string ⟨#[97]⟩, .string ⟨#[122, 110, 101, 119]⟩] 9 (0, 0))) := by have := HL0.out; show _ = _; simpa using this
              clear HL0
              have hSX := blk_below (blk_set (j := 1) (blk_set (j := 0) HP.out (c := w.heap.size) (by omega) (.slice b1 m1.length n1)) (c := w.heap.size) (by omega) (.slice b2 m2.length n2)) hbX
              have k0 : wX.cell? ⟨wM.heap.size, 0, none⟩ = some (.string ⟨#[97]⟩) := by rw [Lib.cell_of_heap HL.out]; rfl
              have k1 : wX.cell? ⟨wM.heap.size, 1, none⟩ = some (.string ⟨#[122, 110, 101, 119]⟩) := by rw [Lib.cell_of_heap HL.out]; rfl
              obtain ⟨nl, knl, hnl⟩ : ∃ nl : ByteArray, wX.cell? ⟨wM.heap.size, j, none⟩ = some (.string nl) ∧ nl.size ≤ 50000 := by rcases (show j = 0 ∨ j = 1 from by omega) with rfl | rfl <;> first | exact ⟨_, k0, by decide⟩ | exact ⟨_, k1, by decide⟩
              have hjI : (j : Int) < 2 := by omega
              clear k0 k1
              obtain ⟨q0, q1⟩ := blk_c (blk_below HQ9.out hbX)
              refine hK.out _ _ (fun _ => hSX) (fun _ => ?_)
              clear hK K
              try simp only [Act.put, List.setIfInBounds_toArray, List.set_cons_zero, List.set_cons_succ]
              refine Lt.step (i := 7) (o := { dst := some 30, op := Op.indexAddr 39 (Operand.tmp 27) (Operand.tmp 29), type := 0, pos := "l3_draw.go:134", after := #[{ on := 4, ground := Ground.data }, { on := 6, ground := Ground.data }, { on := 9, ground := Ground.gcOnly Departure.lateStores }], guard := none }) (by kernel_rfl) rfl (fun K hK => ?_)
              go_simp
              refine hK.out _ _ (fun _ => hSX) (fun _ => ?_)
              clear hK K 
              try simp only [Act.put, List.setIfInBounds_toArray, List.set_cons_zero, List.set_cons_succ]
              refine Lt.step (i := 8) (o := { dst := some 31, op := Op.load 9 (Operand.tmp 30), type := 9, pos := "l3_draw.go:134", after := #[{ on := 7, ground := Ground.data }, { on := 9, ground := Ground.gcOnly Departure.lateStores }], guard := none }) (by kernel_rfl) rfl (fun K hK => ?_)
              go_simp
              refine hK.out _ _ (fun _ => hSX) (fun _ => ?_)
              clear hK K 
              try simp only [Act.put, List.setIfInBounds_toArray, List.set_cons_zero, List.set_cons_succ]
              refine Lt.step (i := 10) (o := { dst := some 3, op := Op.assign (Operand.tmp 31), type := 9, pos := "l3_draw.go:134", after := #[{ on := 8, ground := Ground.data }, { on := 9, ground := Ground.chain }, { on := 0, ground := Ground.phase }, { on := 1, ground := Ground.phase }, { on := 2, ground := Ground.phase }, { on := 3, ground := Ground.phase }, { on := 4, ground := Ground.phase }, { on := 5, ground := Ground.phase }, { on := 6, ground := Ground.phase }, { on := 7, ground := Ground.phase }, { on := 8, ground := Ground.phase }, { on := 9, ground := Ground.phase }], guard := none }) (by kernel_rfl) rfl (fun K hK => ?_)
              go_simp
              refine hK.out _ _ (fun _ => hSX) (fun _ => ?_)
              clear hK K 
              try simp only [Act.put, List.setIfInBounds_toArray, List.set_cons_zero, List.set_cons_succ]
              refine Lt.step (i := 11) (o := { dst := some 4, op := Op.assign (Operand.const (Value.string { data := #[120] })), type := 9, pos := "l3_draw.go:134", after := #[{ on := 10, ground := Ground.chain }, { on := 0, ground := Ground.phase }, { on := 1, ground := Ground.phase }, { on := 2, ground := Ground.phase }, { on := 3, ground := Ground.phase }, { on := 4, ground := Ground.phase }, { on := 5, ground := Ground.phase }, { on := 6, ground := Ground.phase }, { on := 7, ground := Ground.phase }, { on := 8, ground := Ground.phase }, { on := 9, ground := Ground.phase }, { on := 10, ground := Ground.phase }], guard := none }) (by kernel_rfl) rfl (fun K hK => ?_)
              go_simp
              refine hK.out _ _ (fun _ => hSX) (fun _ => ?_)
              clear hK K 
              try simp only [Act.put, List.setIfInBounds_toArray, List.set_cons_zero, List.set_cons_succ]
              refine Lt.done (by kernel_rfl) ?_ _
              go_wp2
              refine bodyPost_ret (v := .tuple #[.agg #[.slice b1 m1.length n1, .slice b2 m2.length n2], .string nl, .string ⟨#[120]⟩]) (by simp [results, Tryz.results4, go_sem, q0, q1]) rfl ?_
              exact (DrS.mk' (w1 := w) HB.out HR.out.1 hRw (HDF.out.base (by omega)) HBF.out HQ.out hnl (by decide)).bel hbX
        · go_simp
          refine name_alloc (Q := fun x => K _ x) ?_
          intro wX hbX HL
          try dsimp only
          obtain ⟨dl, edl⟩ : ∃ y, wA.heap.size = y := ⟨_, rfl⟩
          have hdl : w2.heap.size ≤ dl := by have := HR.out.size; omega
          rw [edl] at HL ⊢
          clear edl
          replace HP := hid (blk_below HP.out hbX)
          replace HQ := hid (blk_below HQ.out hbX)
          replace HD := hid (HD.out.below hbX)
          replace HR := hid (HR.out.below hBw hbX)
          have hS2 : (fun w' => w'.heap[P]? = some (.cells #[.slice a1 l1.length p1, .slice a2 l2.length p2] 26 (0, 0))) wX := HP.out
          refine hK.out _ _ (fun _ => hS2) (fun _ => ?_)
          clear hK K hbX
          try simp only [Act.put, List.setIfInBounds_toArray, List.set_cons_zero, List.set_cons_succ]
          refine Lt.step (i := 3) (o := { dst := some 26, op := Op.call { callee := Callee.value (Operand.func 21), args := #[Operand.tmp 23, Operand.tmp 25], argTypes := #[26, 3] }, type := 26, pos := "l3_draw.go:134", after := #[{ on := 0, ground := Ground.data }, { on := 2, ground := Ground.data }, { on := 2, ground := Ground.chain }], guard := none }) (by kernel_rfl) rfl (fun K hK => ?_)
          go_simp
          refine (l3Full_any q (by omega) HD.out HBD.out).mono ?_
          rintro e wF ⟨hbF, u1, u2, m1, m2, rfl, hdF, hbdF⟩
          obtain ⟨b1, n1, rfl⟩ := hdF.s1
          obtain ⟨b2, n2, rfl⟩ := hdF.s2
          have HDF := hid (hdF.base (lo' := w2.heap.size) HR.out.size)
          have HBF := hid hbdF
          clear hdF hbdF
          replace HP := hid (blk_below HP.out hbF)
          replace HQ := hid (blk_below HQ.out hbF)
          replace HD := hid (HD.out.below hbF)
          replace HR := hid (HR.out.below hBw hbF)
          replace HL := hid (blk_below HL.out hbF)
          have hS3 : (fun w' => w'.heap[P]? = some (.cells #[.slice a1 l1.length p1, .slice a2 l2.length p2] 26 (0, 0))) wF := HP.out
          refine hK.out _ _ (fun _ => hS3) (fun _ => ?_)
          clear hK K hbF
          try simp only [Act.put, List.setIfInBounds_toArray, List.set_cons_zero, List.set_cons_succ]
          refine Lt.step (i := 6) (o := { dst := some 29, op := Op.call { callee := Callee.value (Operand.func 19), args := #[Operand.tmp 28, Operand.const (Value.int IntKind.i64 2)], argTypes := #[46, 3] }, type := 3, pos := "l3_draw.go:134", after := #[{ on := 5, ground := Ground.data }, { on := 3, ground := Ground.chain }], guard := none }) (by kernel_rfl) rfl (fun K hK => ?_)
          go_simp
          refine (HR.out.pick (by omega) 2 (by omega) (by omega)).mono ?_
          rintro e wM ⟨j, rfl, hj, hrA, hgA⟩
          replace HP := hid (blk_gb HP.out hgA (by omega))
          replace HQ := hid (blk_gb HQ.out hgA (by omega))
          replace HD := hid (HD.out.gb hgA hR2)
          replace HR := hid hrA
          replace HL := hid (blk_gb HL.out hgA (by omega))
          replace HDF := hid (HDF.out.gb hgA hR2)
          have hS4 : (fun w' => w'.heap[P]? = some (.cells #[.slice a1 l1.length p1, .slice a2 l2.length p2] 26 (0, 0))) wM := HP.out
          refine hK.out _ _ (fun _ => hS4) (fun _ => ?_)
          clear hK K hgA hrA
          try simp only [Act.put, List.setIfInBounds_toArray, List.set_cons_zero, List.set_cons_succ]
          have k0 : wM.cell? ⟨dl, 0, none⟩ = some (.string ⟨#[97]⟩) := by rw [Lib.cell_of_heap HL.out]; rfl
          have k1 : wM.cell? ⟨dl, 1, none⟩ = some (.string ⟨#[122, 110, 101, 119]⟩) := by rw [Lib.cell_of_heap HL.out]; rfl
          obtain ⟨nl, knl, hnl⟩ : ∃ nl : ByteArray, wM.cell? ⟨dl, j, none⟩ = some (.string nl) ∧ nl.size ≤ 50000 := by rcases (show j = 0 ∨ j = 1 from by omega) with rfl | rfl <;> first | exact ⟨_, k0, by decide⟩ | exact ⟨_, k1, by decide⟩
          have hjI : (j : Int) < 2 := by omega
          clear k0 k1
          obtain ⟨r0, r1⟩ := blk_c HQ.out
          have fr := fun j => Lib.frozen_of_heap HQ.out j
          have kq : ∀ z1 z2, ((wM.setCell ⟨w.heap.size, 0, none⟩ z1).setCell ⟨w.heap.size, 1, none⟩ z2).cell? ⟨dl, j, none⟩ = some (.string nl) := fun z1 z2 => by rw [World.cell?_setCell_far _ _ _ _ (by simp; omega), World.cell?_setCell_far _ _ _ _ (by simp; omega)]; exact knl
          refine Lt.two (i := 7) (j := 9) (oi := { dst := some 30, op := Op.indexAddr 39 (Operand.tmp 27) (Operand.tmp 29), type := 0, pos := "l3_draw.go:134", after := #[{ on := 4, ground := Ground.data }, { on := 6, ground := Ground.data }, { on := 9, ground := Ground.gcOnly Departure.lateStores }], guard := none }) (oj := { dst := none, op := Op.store 26 (Operand.tmp 2) (Operand.tmp 26), type := 0, pos := "l3_draw.go:134", after := #[{ on := 3, ground := Ground.data }, { on := 6, ground := Ground.chain }, { on := 0, ground := Ground.phase }, { on := 1, ground := Ground.phase }, { on := 2, ground := Ground.phase }, { on := 3, ground := Ground.phase }, { on := 4, ground := Ground.textOnly Departure.lateStores }, { on := 5, ground := Ground.textOnly Departure.lateStores }, { on := 6, ground := Ground.textOnly Departure.lateStoresUnsure }, { on := 7, ground := Ground.textOnly Departure.lateStores }, { on := 8, ground := Ground.textOnly Departure.lateStores }], guard := none }) (by kernel_rfl) rfl rfl (fun K hK => ?_) (fun K hK => ?_)
          · go_simp
            refine hK.out _ _ (fun _ => hS4) (fun _ => ?_)
            clear hK K 
            try simp only [Act.put, List.setIfInBounds_toArray, List.set_cons_zero, List.set_cons_succ]
            refine Lt.two (i := 8) (j := 9) (oi := { dst := some 31, op := Op.load 9 (Operand.tmp 30), type := 9, pos := "l3_draw.go:134", after := #[{ on := 7, ground := Ground.data }, { on := 9, ground := Ground.gcOnly Departure.lateStores }], guard := none }) (oj := { dst := none, op := Op.store 26 (Operand.tmp 2) (Operand.tmp 26), type := 0, pos := "l3_draw.go:134", after := #[{ on := 3, ground := Ground.data }, { on := 6, ground := Ground.chain }, { on := 0, ground := Ground.phase }, { on := 1, ground := Ground.phase }, { on := 2, ground := Ground.phase }, { on := 3, ground := Ground.phase }, { on := 4, ground := Ground.textOnly Departure.lateStores }, { on := 5, ground := Ground.textOnly Departure.lateStores }, { on := 6, ground := Ground.textOnly Departure.lateStoresUnsure }, { on := 7, ground := Ground.textOnly Departure.lateStores }, { on := 8, ground := Ground.textOnly Departure.lateStores }], guard := none }) (by kernel_rfl) rfl rfl (fun K hK => ?_) (fun K hK => ?_)
            · go_simp
              refine hK.out _ _ (fun _ => hS4) (fun _ => ?_)
              clear hK K 
              try simp only [Act.put, List.setIfInBounds_toArray, List.set_cons_zero, List.set_cons_succ]
              refine Lt.step (i := 9) (o := { dst := none, op := Op.store 26 (Operand.tmp 2) (Operand.tmp 26), type := 0, pos := "l3_draw.go:134", after := #[{ on := 3, ground := Ground.data }, { on := 6, ground := Ground.chain }, { on := 0, ground := Ground.phase }, { on := 1, ground := Ground.phase }, { on := 2, ground := Ground.phase }, { on := 3, ground := Ground.phase }, { on := 4, ground := Ground.textOnly Departure.lateStores }, { on := 5, ground := Ground.textOnly Departure.lateStores }, { on := 6, ground := Ground.textOnly Departure.lateStoresUnsure }, { on := 7, ground := Ground.textOnly Departure.lateStores }, { on := 8, ground := Ground.textOnly Departure.lateStores }], guard := none }) (by kernel_rfl) rfl (fun K hK => ?_)
              go_simp
              refine hK.out _ _ (fun _ => blk_set (blk_set HP.out (by omega) _) (by omega) _) (fun _ => ?_)
              clear hK K
              try simp only [Act.put, List.setIfInBounds_toArray, List.set_cons_zero, List.set_cons_succ]
              refine Lt.step (i := 10) (o := { dst := some 3, op := Op.assign (Operand.tmp 31), type := 9, pos := "l3_draw.go:134", after := #[{ on := 8, ground := Ground.data }, { on := 9, ground := Ground.chain }, { on := 0, ground := Ground.phase }, { on := 1, ground := Ground.phase }, { on := 2, ground := Ground.phase }, { on := 3, ground := Ground.phase }, { on := 4, ground := Ground.phase }, { on := 5, ground := Ground.phase }, { on := 6, ground := Ground.phase }, { on := 7, ground := Ground.phase }, { on := 8, ground := Ground.phase }, { on := 9, ground := Ground.phase }], guard := none }) (by kernel_rfl) rfl (fun K hK => ?_)
              go_simp
              refine hK.out _ _ (fun _ => blk_set (blk_set HP.out (by omega) _) (by omega) _) (fun _ => ?_)
              clear hK K
              try simp only [Act.put, List.setIfInBounds_toArray, List.set_cons_zero, List.set_cons_succ]
              refine Lt.step (i := 11) (o := { dst := some 4, op := Op.assign (Operand.const (Value.string { data := #[120] })), type := 9, pos := "l3_draw.go:134", after := #[{ on := 10, ground := Ground.chain }, { on := 0, ground := Ground.phase }, { on := 1, ground := Ground.phase }, { on := 2, ground := Ground.phase }, { on := 3, ground := Ground.phase }, { on := 4, ground := Ground.phase }, { on := 5, ground := Ground.phase }, { on := 6, ground := Ground.phase }, { on := 7, ground := Ground.phase }, { on := 8, ground := Ground.phase }, { on := 9, ground := Ground.phase }, { on := 10, ground := Ground.phase }], guard := none }) (by kernel_rfl) rfl (fun K hK => ?_)
              go_simp
              refine hK.out _ _ (fun _ => blk_set (blk_set HP.out (by omega) _) (by omega) _) (fun _ => ?_)
              clear hK K
              try simp only [Act.put, List.setIfInBounds_toArray, List.set_cons_zero, List.set_cons_succ]
              refine Lt.done (by kernel_rfl) ?_ _
              go_wp2
              refine bodyPost_ret (v := .tuple #[.agg #[.slice b1 m1.length n1, .slice b2 m2.length n2], .string nl, .string ⟨#[120]⟩]) (by simp [results, Tryz.results4, go_sem, r0, r1]) rfl ?_
              exact DrS.mk' (w1 := w) HB.out HR.out.1 hRw (HDF.out.base (by omega)) HBF.out HQ.out hnl (by decide)
            · go_simp
              refine hK.out _ _ (fun _ => blk_set (blk_set HP.out (by omega) _) (by omega) _) (fun _ => ?_)
              clear hK K
              try simp only [Act.put, List.setIfInBounds_toArray, List.set_cons_zero, List.set_cons_succ]
              refine Lt.step (i := 8) (o := { dst := some 31, op := Op.load 9 (Operand.tmp 30), type := 9, pos := "l3_draw.go:134", after := #[{ on := 7, ground := Ground.data }, { on := 9, ground := Ground.gcOnly Departure.lateStores }], guard := none }) (by kernel_rfl) rfl (fun K hK => ?_)
              go_simp
              refine hK.out _ _ (fun _ => blk_set (blk_set HP.out (by omega) _) (by omega) _) (fun _ => ?_)
              clear hK K
              try simp only [Act.put, List.setIfInBounds_toArray, List.set_cons_zero, List.set_cons_succ]
              refine Lt.step (i := 10) (o := { dst := some 3, op := Op.assign (Operand.tmp 31), type := 9, pos := "l3_draw.go:134", after := #[{ on := 8, ground := Ground.data }, { on := 9, ground := Ground.chain }, { on := 0, ground := Ground.phase }, { on := 1, ground := Ground.phase }, { on := 2, ground := Ground.phase }, { on := 3, ground := Ground.phase }, { on := 4, ground := Ground.phase }, { on := 5, ground := Ground.phase }, { on := 6, ground := Ground.phase }, { on := 7, ground := Ground.phase }, { on := 8, ground := Ground.phase }, { on := 9, ground := Ground.phase }], guard := none }) (by kernel_rfl) rfl (fun K hK => ?_)
              go_simp
              refine hK.out _ _ (fun _ => blk_set (blk_set HP.out (by omega) _) (by omega) _) (fun _ => ?_)
              clear hK K
              try simp only [Act.put, List.setIfInBounds_toArray, List.set_cons_zero, List.set_cons_succ]
              refine Lt.step (i := 11) (o := { dst := some 4, op := Op.assign (Operand.const (Value.string { data := #[120] })), type := 9, pos := "l3_draw.go:134", after := #[{ on := 10, ground := Ground.chain }, { on := 0, ground := Ground.phase }, { on := 1, ground := Ground.phase }, { on := 2, ground := Ground.phase }, { on := 3, ground := Ground.phase }, { on := 4, ground := Ground.phase }, { on := 5, ground := Ground.phase }, { on := 6, ground := Ground.phase }, { on := 7, ground := Ground.phase }, { on := 8, ground := Ground.phase }, { on := 9, ground := Ground.phase }, { on := 10, ground := Ground.phase }], guard := none }) (by kernel_rfl) rfl (fun K hK => ?_)
              go_simp
              refine hK.out _ _ (fun _ => blk_set (blk_set HP.out (by omega) _) (by omega) _) (fun _ => ?_)
              clear hK K
              try simp only [Act.put, List.setIfInBounds_toArray, List.set_cons_zero, List.set_cons_succ]
              refine Lt.done (by kernel_rfl) ?_ _
              go_wp2
              refine bodyPost_ret (v := .tuple #[.agg #[.slice b1 m1.length n1, .slice b2 m2.length n2], .string nl, .string ⟨#[120]⟩]) (by simp [results, Tryz.results4, go_sem, r0, r1]) rfl ?_
              exact DrS.mk' (w1 := w) HB.out HR.out.1 hRw (HDF.out.base (by omega)) HBF.out HQ.out hnl (by decide)
          · go_simp
            refine hK.out _ _ (fun _ => blk_set (blk_set HP.out (by omega) _) (by omega) _) (fun _ => ?_)
            clear hK K
            try simp only [Act.put, List.setIfInBounds_toArray, List.set_cons_zero, List.set_cons_succ]
            refine Lt.step (i := 7) (o := { dst := some 30, op := Op.indexAddr 39 (Operand.tmp 27) (Operand.tmp 29), type := 0, pos := "l3_draw.go:134", after := #[{ on := 4, ground := Ground.data }, { on := 6, ground := Ground.data }, { on := 9, ground := Ground.gcOnly Departure.lateStores }], guard := none }) (by kernel_rfl) rfl (fun K hK => ?_)
            go_simp
            refine hK.out _ _ (fun _ => blk_set (blk_set HP.out (by omega) _) (by omega) _) (fun _ => ?_)
            clear hK K
            try simp only [Act.put, List.setIfInBounds_toArray, List.set_cons_zero, List.set_cons_succ]
            refine Lt.step (i := 8) (o := { dst := some 31, op := Op.load 9 (Operand.tmp 30), type := 9, pos := "l3_draw.go:134", after := #[{ on := 7, ground := Ground.data }, { on := 9, ground := Ground.gcOnly Departure.lateStores }], guard := none }) (by kernel_rfl) rfl (fun K hK => ?_)
            go_simp
            refine hK.out _ _ (fun _ => blk_set (blk_set HP.out (by omega) _) (by omega) _) (fun _ => ?_)
            clear hK K
            try simp only [Act.put, List.setIfInBounds_toArray, List.set_cons_zero, List.set_cons_succ]
            refine Lt.step (i := 10) (o := { dst := some 3, op := Op.assign (Operand.tmp 31), type := 9, pos := "l3_draw.go:134", after := #[{ on := 8, ground := Ground.data }, { on := 9, ground := Ground.chain }, { on := 0, ground := Ground.phase }, { on := 1, ground := Ground.phase }, { on := 2, ground := Ground.phase }, { on := 3, ground := Ground.phase }, { on := 4, ground := Ground.phase }, { on := 5, ground := Ground.phase }, { on := 6, ground := Ground.phase }, { on := 7, ground := Ground.phase }, { on := 8, ground := Ground.phase }, { on := 9, ground := Ground.phase }], guard := none }) (by kernel_rfl) rfl (fun K hK => ?_)
            go_simp
            refine hK.out _ _ (fun _ => blk_set (blk_set HP.out (by omega) _) (by omega) _) (fun _ => ?_)
            clear hK K
            try simp only [Act.put, List.setIfInBounds_toArray, List.set_cons_zero, List.set_cons_succ]
            refine Lt.step (i := 11) (o := { dst := some 4, op := Op.assign (Operand.const (Value.string { data := #[120] })), type := 9, pos := "l3_draw.go:134", after := #[{ on := 10, ground := Ground.chain }, { on := 0, ground := Ground.phase }, { on := 1, ground := Ground.phase }, { on := 2, ground := Ground.phase }, { on := 3, ground := Ground.phase }, { on := 4, ground := Ground.phase }, { on := 5, ground := Ground.phase }, { on := 6, ground := Ground.phase }, { on := 7, ground := Ground.phase }, { on := 8, ground := Ground.phase }, { on := 9, ground := Ground.phase }, { on := 10, ground := Ground.phase }], guard := none }) (by kernel_rfl) rfl (fun K hK => ?_)
            go_simp
            refine hK.out _ _ (fun _ => blk_set (blk_set HP.out (by omega) _) (by omega) _) (fun _ => ?_)
            clear hK K
            try simp only [Act.put, List.setIfInBounds_toArray, List.set_cons_zero, List.set_cons_succ]
            refine Lt.done (by kernel_rfl) ?_ _
            go_wp2
            refine bodyPost_ret (v := .tuple #[.agg #[.slice b1 m1.length n1, .slice b2 m2.length n2], .string nl, .string ⟨#[120]⟩]) (by simp [results, Tryz.results4, go_sem, r0, r1]) rfl ?_
            exact DrS.mk' (w1 := w) HB.out HR.out.1 hRw (HDF.out.base (by omega)) HBF.out HQ.out hnl (by decide)
      · go_simp
        refine name_alloc (Q := fun x => K _ x) ?_
        intro wX hbX HL
        try dsimp only
        obtain ⟨dl, edl⟩ : ∃ y, wD.heap.size = y := ⟨_, rfl⟩
        have hdl : w2.heap.size ≤ dl := by have := HR.out.size; omega
        rw [edl] at HL ⊢
        clear edl
        replace HP := hid (blk_below HP.out hbX)
        replace HQ := hid (blk_below HQ.out hbX)
        replace HD := hid (HD.out.below hbX)
        replace HR := hid (HR.out.below hBw hbX)
        have hS1 : (fun w' => w'.heap[P]? = some (.cells #[.slice a1 l1.length p1, .slice a2 l2.length p2] 26 (0, 0))) wX := HP.out
        refine hK.out _ _ (fun _ => hS1) (fun _ => ?_)
        clear hK K hbX
        try simp only [Act.put, List.setIfInBounds_toArray, List.set_cons_zero, List.set_cons_succ]
        refine Lt.step (i := 2) (o := { dst := some 25, op := Op.call { callee := Callee.value (Operand.func 19), args := #[Operand.tmp 24, Operand.const (Value.int IntKind.i64 2)], argTypes := #[46, 3] }, type := 3, pos := "l3_draw.go:134", after := #[{ on := 1, ground := Ground.data }], guard := none }) (by kernel_rfl) rfl (fun K hK => ?_)
        go_simp
        refine (HR.out.pick (by omega) 2 (by omega) (by omega)).mono ?_
        rintro e wA ⟨q, rfl, hq, hrA, hgA⟩
        replace HP := hid (blk_gb HP.out hgA (by omega))
        replace HQ := hid (blk_gb HQ.out hgA (by omega))
        replace HD := hid (HD.out.gb hgA hR2)
        replace HR := hid hrA
        replace HL := hid (blk_gb HL.out hgA (by omega))
        have hS2 : (fun w' => w'.heap[P]? = some (.cells #[.slice a1 l1.length p1, .slice a2 l2.length p2] 26 (0, 0))) wA := HP.out
        refine hK.out _ _ (fun _ => hS2) (fun _ => ?_)
        clear hK K hgA hrA
        try simp only [Act.put, List.setIfInBounds_toArray, List.set_cons_zero, List.set_cons_succ]
        refine Lt.step (i := 3) (o := { dst := some 26, op := Op.call { callee := Callee.value (Operand.func 21), args := #[Operand.tmp 23, Operand.tmp 25], argTypes := #[26, 3] }, type := 26, pos := "l3_draw.go:134", after := #[{ on := 0, ground := Ground.data }, { on := 2, ground := Ground.data }, { on := 2, ground := Ground.chain }], guard := none }) (by kernel_rfl) rfl (fun K hK => ?_)
        go_simp
        refine (l3Full_any q (by omega) HD.out HBD.out).mono ?_
        rintro e wF ⟨hbF, u1, u2, m1, m2, rfl, hdF, hbdF⟩
        obtain ⟨b1, n1, rfl⟩ := hdF.s1
        obtain ⟨b2, n2, rfl⟩ := hdF.s2
        have HDF := hid (hdF.base (lo' := w2.heap.size) HR.out.size)
        have HBF := hid hbdF
        clear hdF hbdF
        replace HP := hid (blk_below HP.out hbF)
        replace HQ := hid (blk_below HQ.out hbF)
        replace HD := hid (HD.out.below hbF)
        replace HR := hid (HR.out.below hBw hbF)
        replace HL := hid (blk_below HL.out hbF)
        have hS3 : (fun w' => w'.heap[P]? = some (.cells #[.slice a1 l1.length p1, .slice a2 l2.length p2] 26 (0, 0))) wF := HP.out
        refine hK.out _ _ (fun _ => hS3) (fun _ => ?_)
        clear hK K hbF
        try simp only [Act.put, List.setIfInBounds_toArray, List.set_cons_zero, List.set_cons_succ]
        refine Lt.step (i := 6) (o := { dst := some 29, op := Op.call { callee := Callee.value (Operand.func 19), args := #[Operand.tmp 28, Operand.const (Value.int IntKind.i64 2)], argTypes := #[46, 3] }, type := 3, pos := "l3_draw.go:134", after := #[{ on := 5, ground := Ground.data }, { on := 3, ground := Ground.chain }], guard := none }) (by kernel_rfl) rfl (fun K hK => ?_)
        go_simp
        refine (HR.out.pick (by omega) 2 (by omega) (by omega)).mono ?_
        rintro e wM ⟨j, rfl, hj, hrA, hgA⟩
        replace HP := hid (blk_gb HP.out hgA (by omega))
        replace HQ := hid (blk_gb HQ.out hgA (by omega))
        replace HD := hid (HD.out.gb hgA hR2)
        replace HR := hid hrA
        replace HL := hid (blk_gb HL.out hgA (by omega))
        replace HDF := hid (HDF.out.gb hgA hR2)
        have hS4 : (fun w' => w'.heap[P]? = some (.cells #[.slice a1 l1.length p1, .slice a2 l2.length p2] 26 (0, 0))) wM := HP.out
        refine hK.out _ _ (fun _ => hS4) (fun _ => ?_)
        clear hK K hgA hrA
        try simp only [Act.put, List.setIfInBounds_toArray, List.set_cons_zero, List.set_cons_succ]
        have k0 : wM.cell? ⟨dl, 0, none⟩ = some (.string ⟨#[97]⟩) := by rw [Lib.cell_of_heap HL.out]; rfl
        have k1 : wM.cell? ⟨dl, 1, none⟩ = some (.string ⟨#[122, 110, 101, 119]⟩) := by rw [Lib.cell_of_heap HL.out]; rfl
        obtain ⟨nl, knl, hnl⟩ : ∃ nl : ByteArray, wM.cell? ⟨dl, j, none⟩ = some (.string nl) ∧ nl.size ≤ 50000 := by rcases (show j = 0 ∨ j = 1 from by omega) with rfl | rfl <;> first | exact ⟨_, k0, by decide⟩ | exact ⟨_, k1, by decide⟩
        have hjI : (j : Int) < 2 := by omega
        clear k0 k1
        obtain ⟨r0, r1⟩ := blk_c HQ.out
        have fr := fun j => Lib.frozen_of_heap HQ.out j
        have kq : ∀ z1 z2, ((wM.setCell ⟨w.heap.size, 0, none⟩ z1).setCell ⟨w.heap.size, 1, none⟩ z2).cell? ⟨dl, j, none⟩ = some (.string nl) := fun z1 z2 => by rw [World.cell?_setCell_far _ _ _ _ (by simp; omega), World.cell?_setCell_far _ _ _ _ (by simp; omega)]; exact knl
        refine Lt.two (i := 7) (j := 9) (oi := { dst := some 30, op := Op.indexAddr 39 (Operand.tmp 27) (Operand.tmp 29), type := 0, pos := "l3_draw.go:134", after := #[{ on := 4, ground := Ground.data }, { on := 6, ground := Ground.data }, { on := 9, ground := Ground.gcOnly Departure.lateStores }], guard := none }) (oj := { dst := none, op := Op.store 26 (Operand.tmp 2) (Operand.tmp 26), type := 0, pos := "l3_draw.go:134", after := #[{ on := 3, ground := Ground.data }, { on := 6, ground := Ground.chain }, { on := 0, ground := Ground.phase }, { on := 1, ground := Ground.phase }, { on := 2, ground := Ground.phase }, { on := 3, ground := Ground.phase }, { on := 4, ground := Ground.textOnly Departure.lateStores }, { on := 5, ground := Ground.textOnly Departure.lateStores }, { on := 6, ground := Ground.textOnly Departure.lateStoresUnsure }, { on := 7, ground := Ground.textOnly Departure.lateStores }, { on := 8, ground := Ground.textOnly Departure.lateStores }], guard := none }) (by kernel_rfl) rfl rfl (fun K hK => ?_) (fun K hK => ?_)
        · go_simp
          refine hK.out _ _ (fun _ => hS4) (fun _ => ?_)
          clear hK K 
          try simp only [Act.put, List.setIfInBounds_toArray, List.set_cons_zero, List.set_cons_succ]
          refine Lt.two (i := 8) (j := 9) (oi := { dst := some 31, op := Op.load 9 (Operand.tmp 30), type := 9, pos := "l3_draw.go:134", after := #[{ on := 7, ground := Ground.data }, { on := 9, ground := Ground.gcOnly Departure.lateStores }], guard := none }) (oj := { dst := none, op := Op.store 26 (Operand.tmp 2) (Operand.tmp 26), type := 0, pos := "l3_draw.go:134", after := #[{ on := 3, ground := Ground.data }, { on := 6, ground := Ground.chain }, { on := 0, ground := Ground.phase }, { on := 1, ground := Ground.phase }, { on := 2, ground := Ground.phase }, { on := 3, ground := Ground.phase }, { on := 4, ground := Ground.textOnly Departure.lateStores }, { on := 5, ground := Ground.textOnly Departure.lateStores }, { on := 6, ground := Ground.textOnly Departure.lateStoresUnsure }, { on := 7, ground := Ground.textOnly Departure.lateStores }, { on := 8, ground := Ground.textOnly Departure.lateStores }], guard := none }) (by kernel_rfl) rfl rfl (fun K hK => ?_) (fun K hK => ?_)
          · go_simp
            refine hK.out _ _ (fun _ => hS4) (fun _ => ?_)
            clear hK K 
            try simp only [Act.put, List.setIfInBounds_toArray, List.set_cons_zero, List.set_cons_succ]
            refine Lt.step (i := 9) (o := { dst := none, op := Op.store 26 (Operand.tmp 2) (Operand.tmp 26), type := 0, pos := "l3_draw.go:134", after := #[{ on := 3, ground := Ground.data }, { on := 6, ground := Ground.chain }, { on := 0, ground := Ground.phase }, { on := 1, ground := Ground.phase }, { on := 2, ground := Ground.phase }, { on := 3, ground := Ground.phase }, { on := 4, ground := Ground.textOnly Departure.lateStores }, { on := 5, ground := Ground.textOnly Departure.lateStores }, { on := 6, ground := Ground.textOnly Departure.lateStoresUnsure }, { on := 7, ground := Ground.textOnly Departure.lateStores }, { on := 8, ground := Ground.textOnly Departure.lateStores }], guard := none }) (by kernel_rfl) rfl (fun K hK => ?_)
            go_simp
            refine hK.out _ _ (fun _ => blk_set (blk_set HP.out (by omega) _) (by omega) _) (fun _ => ?_)
            clear hK K
            try simp only [Act.put, List.setIfInBounds_toArray, List.set_cons_zero, List.set_cons_succ]
            refine Lt.step (i := 10) (o := { dst := some 3, op := Op.assign (Operand.tmp 31), type := 9, pos := "l3_draw.go:134", after := #[{ on := 8, ground := Ground.data }, { on := 9, ground := Ground.chain }, { on := 0, ground := Ground.phase }, { on := 1, ground := Ground.phase }, { on := 2, ground := Ground.phase }, { on := 3, ground := Ground.phase }, { on := 4, ground := Ground.phase }, { on := 5, ground := Ground.phase }, { on := 6, ground := Ground.phase }, { on := 7, ground := Ground.phase }, { on := 8, ground := Ground.phase }, { on := 9, ground := Ground.phase }], guard := none }) (by kernel_rfl) rfl (fun K hK => ?_)
            go_simp
            refine hK.out _ _ (fun _ => blk_set (blk_set HP.out (by omega) _) (by omega) _) (fun _ => ?_)
            clear hK K
            try simp only [Act.put, List.setIfInBounds_toArray, List.set_cons_zero, List.set_cons_succ]
            refine Lt.step (i := 11) (o := { dst := some 4, op := Op.assign (Operand.const (Value.string { data := #[120] })), type := 9, pos := "l3_draw.go:134", after := #[{ on := 10, ground := Ground.chain }, { on := 0, ground := Ground.phase }, { on := 1, ground := Ground.phase }, { on := 2, ground := Ground.phase }, { on := 3, ground := Ground.phase }, { on := 4, ground := Ground.phase }, { on := 5, ground := Ground.phase }, { on := 6, ground := Ground.phase }, { on := 7, ground := Ground.phase }, { on := 8, ground := Ground.phase }, { on := 9, ground := Ground.phase }, { on := 10, ground := Ground.phase }], guard := none }) (by kernel_rfl) rfl (fun K hK => ?_)
            go_simp
            refine hK.out _ _ (fun _ => blk_set (blk_set HP.out (by omega) _) (by omega) _) (fun _ => ?_)
            clear hK K
            try simp only [Act.put, List.setIfInBounds_toArray, List.set_cons_zero, List.set_cons_succ]
            refine Lt.done (by kernel_rfl) ?_ _
            go_wp2
            refine bodyPost_ret (v := .tuple #[.agg #[.slice b1 m1.length n1, .slice b2 m2.length n2], .string nl, .string ⟨#[120]⟩]) (by simp [results, Tryz.results4, go_sem, r0, r1]) rfl ?_
            exact DrS.mk' (w1 := w) HB.out HR.out.1 hRw (HDF.out.base (by omega)) HBF.out HQ.out hnl (by decide)
          · go_simp
            refine hK.out _ _ (fun _ => blk_set (blk_set HP.out (by omega) _) (by omega) _) (fun _ => ?_)
            clear hK K
            try simp only [Act.put, List.setIfInBounds_toArray, List.set_cons_zero, List.set_cons_succ]
            refine Lt.step (i := 8) (o := { dst := some 31, op := Op.load 9 (Operand.tmp 30), type := 9, pos := "l3_draw.go:134", after := #[{ on := 7, ground := Ground.data }, { on := 9, ground := Ground.gcOnly Departure.lateStores }], guard := none }) (by kernel_rfl) rfl (fun K hK => ?_)
            go_simp
            refine hK.out _ _ (fun _ => blk_set (blk_set HP.out (by omega) _) (by omega) _) (fun _ => ?_)
            clear hK K
            try simp only [Act.put, List.setIfInBounds_toArray, List.set_cons_zero, List.set_cons_succ]
            refine Lt.step (i := 10) (o := { dst := some 3, op := Op.assign (Operand.tmp 31), type := 9, pos := "l3_draw.go:134", after := #[{ on := 8, ground := Ground.data }, { on := 9, ground := Ground.chain }, { on := 0, ground := Ground.phase }, { on := 1, ground := Ground.phase }, { on := 2, ground := Ground.phase }, { on := 3, ground := Ground.phase }, { on := 4, ground := Ground.phase }, { on := 5, ground := Ground.phase }, { on := 6, ground := Ground.phase }, { on := 7, ground := Ground.phase }, { on := 8, ground := Ground.phase }, { on := 9, ground := Ground.phase }], guard := none }) (by kernel_rfl) rfl (fun K hK => ?_)
            go_simp
            refine hK.out _ _ (fun _ => blk_set (blk_set HP.out (by omega) _) (by omega) _) (fun _ => ?_)
            clear hK K
            try simp only [Act.put, List.setIfInBounds_toArray, List.set_cons_zero, List.set_cons_succ]
            refine Lt.step (i := 11) (o := { dst := some 4, op := Op.assign (Operand.const (Value.string { data := #[120] })), type := 9, pos := "l3_draw.go:134", after := #[{ on := 10, ground := Ground.chain }, { on := 0, ground := Ground.phase }, { on := 1, ground := Ground.phase }, { on := 2, ground := Ground.phase }, { on := 3, ground := Ground.phase }, { on := 4, ground := Ground.phase }, { on := 5, ground := Ground.phase }, { on := 6, ground := Ground.phase }, { on := 7, ground := Ground.phase }, { on := 8, ground := Ground.phase }, { on := 9, ground := Ground.phase }, { on := 10, ground := Ground.phase }], guard := none }) (by kernel_rfl) rfl (fun K hK => ?_)
            go_simp
            refine hK.out _ _ (fun _ => blk_set (blk_set HP.out (by omega) _) (by omega) _) (fun _ => ?_)
            clear hK K
            try simp only [Act.put, List.setIfInBounds_toArray, List.set_cons_zero, List.set_cons_succ]
            refine Lt.done (by kernel_rfl) ?_ _
            go_wp2
            refine bodyPost_ret (v := .tuple #[.agg #[.slice b1 m1.length n1, .slice b2 m2.length n2], .string nl, .string ⟨#[120]⟩]) (by simp [results, Tryz.results4, go_sem, r0, r1]) rfl ?_
            exact DrS.mk' (w1 := w) HB.out HR.out.1 hRw (HDF.out.base (by omega)) HBF.out HQ.out hnl (by decide)
        · go_simp
          refine hK.out _ _ (fun _ => blk_set (blk_set HP.out (by omega) _) (by omega) _) (fun _ => ?_)
          clear hK K
          try simp only [Act.put, List.setIfInBounds_toArray, List.set_cons_zero, List.set_cons_succ]
          refine Lt.step (i := 7) (o := { dst := some 30, op := Op.indexAddr 39 (Operand.tmp 27) (Operand.tmp 29), type := 0, pos := "l3_draw.go:134", after := #[{ on := 4, ground := Ground.data }, { on := 6, ground := Ground.data }, { on := 9, ground := Ground.gcOnly Departure.lateStores }], guard := none }) (by kernel_rfl) rfl (fun K hK => ?_)
          go_simp
          refine hK.out _ _ (fun _ => blk_set (blk_set HP.out (by omega) _) (by omega) _) (fun _ => ?_)
          clear hK K
          try simp only [Act.put, List.setIfInBounds_toArray, List.set_cons_zero, List.set_cons_succ]
          refine Lt.step (i := 8) (o := { dst := some 31, op := Op.load 9 (Operand.tmp 30), type := 9, pos := "l3_draw.go:134", after := #[{ on := 7, ground := Ground.data }, { on := 9, ground := Ground.gcOnly Departure.lateStores }], guard := none }) (by kernel_rfl) rfl (fun K hK => ?_)
          go_simp
          refine hK.out _ _ (fun _ => blk_set (blk_set HP.out (by omega) _) (by omega) _) (fun _ => ?_)
          clear hK K
          try simp only [Act.put, List.setIfInBounds_toArray, List.set_cons_zero, List.set_cons_succ]
          refine Lt.step (i := 10) (o := { dst := some 3, op := Op.assign (Operand.tmp 31), type := 9, pos := "l3_draw.go:134", after := #[{ on := 8, ground := Ground.data }, { on := 9, ground := Ground.chain }, { on := 0, ground := Ground.phase }, { on := 1, ground := Ground.phase }, { on := 2, ground := Ground.phase }, { on := 3, ground := Ground.phase }, { on := 4, ground := Ground.phase }, { on := 5, ground := Ground.phase }, { on := 6, ground := Ground.phase }, { on := 7, ground := Ground.phase }, { on := 8, ground := Ground.phase }, { on := 9, ground := Ground.phase }], guard := none }) (by kernel_rfl) rfl (fun K hK => ?_)
          go_simp
          refine hK.out _ _ (fun _ => blk_set (blk_set HP.out (by omega) _) (by omega) _) (fun _ => ?_)
          clear hK K
          try simp only [Act.put, List.setIfInBounds_toArray, List.set_cons_zero, List.set_cons_succ]
          refine Lt.step (i := 11) (o := { dst := some 4, op := Op.assign (Operand.const (Value.string { data := #[120] })), type := 9, pos := "l3_draw.go:134", after := #[{ on := 10, ground := Ground.chain }, { on := 0, ground := Ground.phase }, { on := 1, ground := Ground.phase }, { on := 2, ground := Ground.phase }, { on := 3, ground := Ground.phase }, { on := 4, ground := Ground.phase }, { on := 5, ground := Ground.phase }, { on := 6, ground := Ground.phase }, { on := 7, ground := Ground.phase }, { on := 8, ground := Ground.phase }, { on := 9, ground := Ground.phase }, { on := 10, ground := Ground.phase }], guard := none }) (by kernel_rfl) rfl (fun K hK => ?_)
          go_simp
          refine hK.out _ _ (fun _ => blk_set (blk_set HP.out (by omega) _) (by omega) _) (fun _ => ?_)
          clear hK K
          try simp only [Act.put, List.setIfInBounds_toArray, List.set_cons_zero, List.set_cons_succ]
          refine Lt.done (by kernel_rfl) ?_ _
          go_wp2
          refine bodyPost_ret (v := .tuple #[.agg #[.slice b1 m1.length n1, .slice b2 m2.length n2], .string nl, .string ⟨#[120]⟩]) (by simp [results, Tryz.results4, go_sem, r0, r1]) rfl ?_
          exact DrS.mk' (w1 := w) HB.out HR.out.1 hRw (HDF.out.base (by omega)) HBF.out HQ.out hnl (by decide)
    · have hy0I : ¬ ((y : Int) = 0) := by omega
      go_wp2_with fail
      refine (HR.out.pick (by omega) 20 (by omega) (by omega)).mono ?_
      rintro e w8 ⟨z, rfl, hz, hr1, hg1⟩
      replace HQ := hid (blk_gb HQ.out hg1 (by omega))
      replace HP := hid (blk_gb HP.out hg1 (by omega))
      replace HD := hid (HD.out.gb hg1 hR2)
      clear HR
      have HR := hid hr1
      clear hg1 hr1
      rcases Nat.eq_zero_or_pos z with rfl | hz0
      · go_wp2_with fail
        refine Lt.begin 99 (fun w' => w'.heap[P]? = some (.cells #[.slice a1 l1.length p1, .slice a2 l2.length p2] 26 (0, 0))) (by kernel_rfl) ?_
        obtain ⟨wD, eD⟩ : ∃ y, w8.drew = y := ⟨_, rfl⟩
        rw [eD]
        have hbD : Below w8.heap.size w8 wD := by rw [← eD]; exact (Below.refl _ _).drew
        clear eD
        replace HP := hid (blk_below HP.out hbD)
        replace HQ := hid (blk_below HQ.out hbD)
        replace HD := hid (HD.out.below hbD)
        replace HR := hid (HR.out.below hBw hbD)
        have hS0 : (fun w' => w'.heap[P]? = some (.cells #[.slice a1 l1.length p1, .slice a2 l2.length p2] 26 (0, 0))) wD := HP.out
        refine Lt.take (i := 0) (oi := { dst := some 35, op := Op.load 26 (Operand.tmp 6), type := 26, pos := "l3_draw.go:137", after := #[], guard := none }) (v := ?_) rfl (by kernel_rfl) (by kernel_rfl) (by kernel_rfl) (by kernel_rfl) (fun _ _ _ h => h) hS0 (Or.inl ⟨by rfl, ?_⟩) ?_
        rotate_left 1
        · rintro w hSw
          obtain ⟨c0, c1⟩ := blk_c hSw
          go_simp
          first | done | with_reducible rfl
        simp only [Act.put, List.setIfInBounds_toArray, List.set_cons_zero, List.set_cons_succ]
        refine Lt.take (i := 1) (oi := { dst := some 36, op := Op.move (Operand.tmp 7), type := 9, pos := "l3_draw.go:137", after := #[{ on := 6, ground := Ground.gcOnly Departure.lateStores }], guard := none }) (v := ?_) rfl (by kernel_rfl) (by kernel_rfl) (by kernel_rfl) (by kernel_rfl) (fun _ _ _ h => h) hS0 (Or.inl ⟨by rfl, ?_⟩) ?_
        rotate_left 1
        · rintro w hSw
          obtain ⟨c0, c1⟩ := blk_c hSw
          go_simp
          first | done | with_reducible rfl
        simp only [Act.put, List.setIfInBounds_toArray, List.set_cons_zero, List.set_cons_succ]
        refine Lt.take (i := 2) (oi := { dst := some 37, op := Op.move (Operand.tmp 5), type := 46, pos := "l3_draw.go:137", after := #[], guard := none }) (v := ?_) rfl (by kernel_rfl) (by kernel_rfl) (by kernel_rfl) (by kernel_rfl) (fun _ _ _ h => h) hS0 (Or.inl ⟨by rfl, ?_⟩) ?_
        rotate_left 1
        · rintro w hSw
          obtain ⟨c0, c1⟩ := blk_c hSw
          go_simp
          first | done | with_reducible rfl
        simp only [Act.put, List.setIfInBounds_toArray, List.set_cons_zero, List.set_cons_succ]
        refine Lt.step (i := 3) (o := { dst := some 38, op := Op.call { callee := Callee.value (Operand.func 19), args := #[Operand.tmp 37, Operand.const (Value.int IntKind.i64 2)], argTypes := #[46, 3] }, type := 3, pos := "l3_draw.go:137", after := #[{ on := 2, ground := Ground.data }], guard := none }) (by kernel_rfl) rfl (fun K hK => ?_)
        go_simp
        refine (HR.out.pick (by omega) 2 (by omega) (by omega)).mono ?_
        rintro e wA ⟨j, rfl, hj, hrA, hgA⟩
        replace HP := hid (blk_gb HP.out hgA (by omega))
        replace HQ := hid (blk_gb HQ.out hgA (by omega))
        replace HD := hid (HD.out.gb hgA hR2)
        replace HR := hid hrA
        have hS1 : (fun w' => w'.heap[P]? = some (.cells #[.slice a1 l1.length p1, .slice a2 l2.length p2] 26 (0, 0))) wA := HP.out
        refine hK.out _ _ (fun _ => hS1) (fun _ => ?_)
        clear hK K hgA hrA
        try simp only [Act.put, List.setIfInBounds_toArray, List.set_cons_zero, List.set_cons_succ]
        have hwr : IntKind.i64.wrap (2000 + (j : Int)) = 2000 + (j : Int) := by rw [IntKind.wrap_i64]; omega
        refine Lt.take (i := 4) (oi := { dst := some 39, op := Op.binOp BinOp.add 3 (Operand.const (Value.int IntKind.i64 2000)) (Operand.tmp 38) 3, type := 3, pos := "l3_draw.go:137", after := #[{ on := 3, ground := Ground.data }], guard := none }) (v := ?_) rfl (by kernel_rfl) (by kernel_rfl) (by kernel_rfl) (by kernel_rfl) (fun _ _ _ h => h) hS1 (Or.inl ⟨by rfl, ?_⟩) ?_
        rotate_left 1
        · rintro w hSw
          obtain ⟨c0, c1⟩ := blk_c hSw
          go_simp
          first | done | with_reducible rfl
        simp only [Act.put, List.setIfInBounds_toArray, List.set_cons_zero, List.set_cons_succ]
        refine Lt.step (i := 5) (o := { dst := some 40, op := Op.call { callee := Callee.value (Operand.func 22), args := #[Operand.const (Value.string { data := #[112] }), Operand.tmp 39], argTypes := #[9, 3] }, type := 9, pos := "l3_draw.go:137", after := #[{ on := 4, ground := Ground.data }, { on := 3, ground := Ground.chain }], guard := none }) (by kernel_rfl) rfl (fun K hK => ?_)
        go_simp
        have hmq := l1Many_any ⟨#[112]⟩ (2000 + j) wA (by decide) (by omega)
        rw [show ((2000 + j : Nat) : Int) = 2000 + (j : Int) from by omega] at hmq
        refine hmq.mono ?_
        rintro e wB ⟨r, rfl, hrs, rfl⟩
        have hrs2 : r.size ≤ 50000 := by rw [hrs]; show 1 * (2000 + j) ≤ 50000; omega
        clear hrs hmq
        refine hK.out _ _ (fun _ => hS1) (fun _ => ?_)
        clear hK K 
        try simp only [Act.put, List.setIfInBounds_toArray, List.set_cons_zero, List.set_cons_succ]
        obtain ⟨r0, r1⟩ := blk_c HQ.out
        have fr := fun j => Lib.frozen_of_heap HQ.out j
        refine Lt.step (i := 6) (o := { dst := none, op := Op.store 26 (Operand.tmp 2) (Operand.tmp 35), type := 0, pos := "l3_draw.go:137", after := #[{ on := 0, ground := Ground.data }, { on := 5, ground := Ground.chain }, { on := 0, ground := Ground.phase }, { on := 1, ground := Ground.textOnly Departure.lateStores }, { on := 2, ground := Ground.textOnly Departure.lateStores }, { on := 3, ground := Ground.textOnly Departure.lateStoresUnsure }, { on := 4, ground := Ground.textOnly Departure.lateStores }, { on := 5, ground := Ground.textOnly Departure.lateStoresUnsure }], guard := none }) (by kernel_rfl) rfl (fun K hK => ?_)
        go_simp
        refine hK.out _ _ (fun _ => blk_set (blk_set HP.out (by omega) _) (by omega) _) (fun _ => ?_)
        clear hK K
        try simp only [Act.put, List.setIfInBounds_toArray, List.set_cons_zero, List.set_cons_succ]
        refine Lt.step (i := 7) (o := { dst := some 3, op := Op.assign (Operand.tmp 36), type := 9, pos := "l3_draw.go:137", after := #[{ on := 1, ground := Ground.data }, { on := 6, ground := Ground.chain }, { on := 0, ground := Ground.phase }, { on := 1, ground := Ground.phase }, { on := 2, ground := Ground.textOnly Departure.lateStores }, { on := 3, ground := Ground.textOnly Departure.lateStoresUnsure }, { on := 4, ground := Ground.textOnly Departure.lateStores }, { on := 5, ground := Ground.textOnly Departure.lateStoresUnsure }, { on := 6, ground := Ground.phase }], guard := none }) (by kernel_rfl) rfl (fun K hK => ?_)
        go_simp
        refine hK.out _ _ (fun _ => blk_set (blk_set HP.out (by omega) _) (by omega) _) (fun _ => ?_)
        clear hK K
        try simp only [Act.put, List.setIfInBounds_toArray, List.set_cons_zero, List.set_cons_succ]
        refine Lt.step (i := 8) (o := { dst := some 4, op := Op.assign (Operand.tmp 40), type := 9, pos := "l3_draw.go:137", after := #[{ on := 5, ground := Ground.data }, { on := 7, ground := Ground.chain }, { on := 0, ground := Ground.phase }, { on := 1, ground := Ground.phase }, { on := 2, ground := Ground.phase }, { on := 3, ground := Ground.phase }, { on := 4, ground := Ground.phase }, { on := 5, ground := Ground.phase }, { on := 6, ground := Ground.phase }, { on := 7, ground := Ground.phase }], guard := none }) (by kernel_rfl) rfl (fun K hK => ?_)
        go_simp
        refine hK.out _ _ (fun _ => blk_set (blk_set HP.out (by omega) _) (by omega) _) (fun _ => ?_)
        clear hK K
        try simp only [Act.put, List.setIfInBounds_toArray, List.set_cons_zero, List.set_cons_succ]
        refine Lt.done (by kernel_rfl) ?_ _
        go_wp2
        refine bodyPost_ret (v := .tuple #[.agg #[.slice a1 l1.length p1, .slice a2 l2.length p2], .string nm, .string r]) (by simp [results, Tryz.results4, go_sem, r0, r1]) rfl ?_
        exact DrS.mk' (w1 := w) HB.out HR.out.1 hRw (HD.out.base (by omega)) HBD.out HQ.out hnm hrs2
      · have hz0I : ¬ ((z : Int) = 0) := by omega
        go_wp2_with fail
        refine Lt.begin 99 (fun w' => w'.heap[P]? = some (.cells #[.slice a1 l1.length p1, .slice a2 l2.length p2] 26 (0, 0))) (by kernel_rfl) ?_
        obtain ⟨wD, eD⟩ : ∃ y, w8.drew = y := ⟨_, rfl⟩
        rw [eD]
        have hbD : Below w8.heap.size w8 wD := by rw [← eD]; exact (Below.refl _ _).drew
        clear eD
        replace HP := hid (blk_below HP.out hbD)
        replace HQ := hid (blk_below HQ.out hbD)
        replace HD := hid (HD.out.below hbD)
        replace HR := hid (HR.out.below hBw hbD)
        have hS0 : (fun w' => w'.heap[P]? = some (.cells #[.slice a1 l1.length p1, .slice a2 l2.length p2] 26 (0, 0))) wD := HP.out
        refine Lt.take (i := 0) (oi := { dst := some 41, op := Op.load 26 (Operand.tmp 6), type := 26, pos := "l3_draw.go:139", after := #[], guard := none }) (v := ?_) rfl (by kernel_rfl) (by kernel_rfl) (by kernel_rfl) (by kernel_rfl) (fun _ _ _ h => h) hS0 (Or.inl ⟨by rfl, ?_⟩) ?_
        rotate_left 1
        · rintro w hSw
          obtain ⟨c0, c1⟩ := blk_c hSw
          go_simp
          first | done | with_reducible rfl
        simp only [Act.put, List.setIfInBounds_toArray, List.set_cons_zero, List.set_cons_succ]
        refine Lt.take (i := 1) (oi := { dst := some 42, op := Op.move (Operand.tmp 7), type := 9, pos := "l3_draw.go:139", after := #[{ on := 4, ground := Ground.gcOnly Departure.lateStores }], guard := none }) (v := ?_) rfl (by kernel_rfl) (by kernel_rfl) (by kernel_rfl) (by kernel_rfl) (fun _ _ _ h => h) hS0 (Or.inl ⟨by rfl, ?_⟩) ?_
        rotate_left 1
        · rintro w hSw
          obtain ⟨c0, c1⟩ := blk_c hSw
          go_simp
          first | done | with_reducible rfl
        simp only [Act.put, List.setIfInBounds_toArray, List.set_cons_zero, List.set_cons_succ]
        refine Lt.take (i := 2) (oi := { dst := some 43, op := Op.move (Operand.tmp 5), type := 46, pos := "l3_draw.go:139", after := #[], guard := none }) (v := ?_) rfl (by kernel_rfl) (by kernel_rfl) (by kernel_rfl) (by kernel_rfl) (fun _ _ _ h => h) hS0 (Or.inl ⟨by rfl, ?_⟩) ?_
        rotate_left 1
        · rintro w hSw
          obtain ⟨c0, c1⟩ := blk_c hSw
          go_simp
          first | done | with_reducible rfl
        simp only [Act.put, List.setIfInBounds_toArray, List.set_cons_zero, List.set_cons_succ]
        refine Lt.step (i := 3) (o := { dst := some 44, op := Op.call { callee := Callee.value (Operand.func 23), args := #[Operand.tmp 43], argTypes := #[46] }, type := 9, pos := "l3_draw.go:139", after := #[{ on := 2, ground := Ground.data }], guard := none }) (by kernel_rfl) rfl (fun K hK => ?_)
        go_simp
        refine (HR.out.text hBw (by omega)).mono ?_
        rintro e wA ⟨r, rfl, hrs, hrA, hgA⟩
        replace HP := hid (blk_gb HP.out hgA (by omega))
        replace HQ := hid (blk_gb HQ.out hgA (by omega))
        replace HD := hid (HD.out.gb hgA hR2)
        replace HR := hid hrA
        have hS1 : (fun w' => w'.heap[P]? = some (.cells #[.slice a1 l1.length p1, .slice a2 l2.length p2] 26 (0, 0))) wA := HP.out
        refine hK.out _ _ (fun _ => hS1) (fun _ => ?_)
        clear hK K hgA hrA
        try simp only [Act.put, List.setIfInBounds_toArray, List.set_cons_zero, List.set_cons_succ]
        have hrs2 : r.size ≤ 50000 := by omega
        obtain ⟨r0, r1⟩ := blk_c HQ.out
        have fr := fun j => Lib.frozen_of_heap HQ.out j
        refine Lt.step (i := 4) (o := { dst := none, op := Op.store 26 (Operand.tmp 2) (Operand.tmp 41), type := 0, pos := "l3_draw.go:139", after := #[{ on := 0, ground := Ground.data }, { on := 3, ground := Ground.chain }, { on := 0, ground := Ground.phase }, { on := 1, ground := Ground.textOnly Departure.lateStores }, { on := 2, ground := Ground.textOnly Departure.lateStores }, { on := 3, ground := Ground.textOnly Departure.lateStoresUnsure }], guard := none }) (by kernel_rfl) rfl (fun K hK => ?_)
        go_simp
        refine hK.out _ _ (fun _ => blk_set (blk_set HP.out (by omega) _) (by omega) _) (fun _ => ?_)
        clear hK K
        try simp only [Act.put, List.setIfInBounds_toArray, List.set_cons_zero, List.set_cons_succ]
        refine Lt.step (i := 5) (o := { dst := some 3, op := Op.assign (Operand.tmp 42), type := 9, pos := "l3_draw.go:139", after := #[{ on := 1, ground := Ground.data }, { on := 4, ground := Ground.chain }, { on := 0, ground := Ground.phase }, { on := 1, ground := Ground.phase }, { on := 2, ground := Ground.textOnly Departure.lateStores }, { on := 3, ground := Ground.textOnly Departure.lateStoresUnsure }, { on := 4, ground := Ground.phase }], guard := none }) (by kernel_rfl) rfl (fun K hK => ?_)
        go_simp
        refine hK.out _ _ (fun _ => blk_set (blk_set HP.out (by omega) _) (by omega) _) (fun _ => ?_)
        clear hK K
        try simp only [Act.put, List.setIfInBounds_toArray, List.set_cons_zero, List.set_cons_succ]
        refine Lt.step (i := 6) (o := { dst := some 4, op := Op.assign (Operand.tmp 44), type := 9, pos := "l3_draw.go:139", after := #[{ on := 3, ground := Ground.data }, { on := 5, ground := Ground.chain }, { on := 0, ground := Ground.phase }, { on := 1, ground := Ground.phase }, { on := 2, ground := Ground.phase }, { on := 3, ground := Ground.phase }, { on := 4, ground := Ground.phase }, { on := 5, ground := Ground.phase }], guard := none }) (by kernel_rfl) rfl (fun K hK => ?_)
        go_simp
        refine hK.out _ _ (fun _ => blk_set (blk_set HP.out (by omega) _) (by omega) _) (fun _ => ?_)
        clear hK K
        try simp only [Act.put, List.setIfInBounds_toArray, List.set_cons_zero, List.set_cons_succ]
        refine Lt.done (by kernel_rfl) ?_ _
        go_wp2
        refine bodyPost_ret (v := .tuple #[.agg #[.slice a1 l1.length p1, .slice a2 l2.length p2], .string nm, .string r]) (by simp [results, Tryz.results4, go_sem, r0, r1]) rfl ?_
        exact DrS.mk' (w1 := w) HB.out HR.out.1 hRw (HD.out.base (by omega)) HBD.out HQ.out hnm hrs2
end Go.Proofs.YtjdjhenijihpfaaGreatDoor
