import Derived.Test.YtjdjhenijihpfaaGreatDoorEdE
import Derived.Test.YtjdjhenijihpfaaGreatDoorEdC
namespace Go.Proofs.YtjdjhenijihpfaaGreatDoor
open Go.RowKit Go.Deep
set_option linter.unusedVariables false

set_option maxRecDepth 100000 in
set_option maxHeartbeats 8000000 in
theorem l3Full_any {w : World} {lo0 : Nat} {v1 v2 : Value} {l1 : List S2} {l2 : List TC} (less : Nat) (hle : less ≤ 1) (h : Dw w lo0 v1 v2 l1 l2) (hb : BdS l1 l2) :
    Calls Tryz.prog 21 #[.agg #[v1, v2], .int .i64 less] w fun e w' => Below w.heap.size w w' ∧ ∃ u1 u2 m1 m2, e = .returned (.agg #[u1, u2]) ∧ Dw w' w.heap.size u1 u2 m1 m2 ∧ BdS m1 m2 := by
  obtain ⟨s1, q1, rfl⟩ := h.s1
  obtain ⟨s2, q2, rfl⟩ := h.s2
  obtain ⟨w2, e2⟩ : ∃ y, (w.alloc (.cells #[.slice s1 l1.length q1, .slice s2 l2.length q2] 26)).alloc (.cells #[.slice none 0 0, .slice none 0 0] 26) = y := ⟨_, rfl⟩
  have hb2 : Below w.heap.size w w2 := by rw [← e2]; exact ((Below.refl _ _).alloc (Nat.le_refl _) _).alloc (by simp) _
  have q0 : w2.heap[w.heap.size]? = some (.cells #[.slice s1 l1.length q1, .slice s2 l2.length q2] 26 (0, 0)) := by rw [← e2, Lib.alloc_old _ _ _ (by simp)]; exact heapW_new _ _
  have qQ : w2.heap[w.heap.size + 1]? = some (.cells #[.slice none 0 0, .slice none 0 0] 26 (0, 0)) := by
    have hh := heapW_new (w.alloc (.cells #[.slice s1 l1.length q1, .slice s2 l2.length q2] 26)) (.cells #[.slice none 0 0, .slice none 0 0] 26)
    rw [show (w.alloc (.cells #[.slice s1 l1.length q1, .slice s2 l2.length q2] 26)).heap.size = w.heap.size + 1 from by simp, e2] at hh
    exact hh
  have hws : w.heap.size + 2 = w2.heap.size := by rw [← e2]; simp
  have HW := hid (l3Without_dw ⟨#[]⟩ (h.below hb2) hb)
  obtain ⟨c0, c1⟩ := blk_c q0
  have E2 : Hid ((w.alloc (.cells #[.slice s1 l1.length q1, .slice s2 l2.length q2] 26)).alloc (.cells #[.slice none 0 0, .slice none 0 0] 26) = w2) := e2
  have HQ := hid qQ
  have HB := hid hb2
  have HWS := hid hws
  clear h hb hb2 e2 qQ q0 hws
  go_enter Tryz.func21, Tryz.ntmps21
  clear c0 c1
  go_wp2_with fail
  rw [E2.out]
  clear E2
  refine HW.out.mono ?_
  rintro e w3 ⟨hb3, u1, u2, m1, m2, rfl, hd, hbd, _⟩
  clear HW
  obtain ⟨a1, p1, rfl⟩ := hd.s1
  obtain ⟨a2, p2, rfl⟩ := hd.s2
  obtain ⟨w4, e4⟩ : ∃ y, w3.alloc (.cells #[.slice a1 m1.length p1, .slice a2 m2.length p2] 26) = y := ⟨_, rfl⟩
  have hb4 : Below w3.heap.size w3 w4 := by rw [← e4]; exact (Below.refl _ _).alloc (Nat.le_refl _) _
  obtain ⟨P, eP⟩ : ∃ P, w3.heap.size = P := ⟨_, rfl⟩
  have hP2 : w.heap.size + 2 ≤ P := by have := hb3.size; have := HWS.out; omega
  have q4 : w4.heap[P]? = some (.cells #[.slice a1 m1.length p1, .slice a2 m2.length p2] 26 (0, 0)) := by rw [← e4, ← eP]; exact heapW_new _ _
  have HS4 : Hid (Sw w4 P w.heap.size (.slice a1 m1.length p1) (.slice a2 m2.length p2) m1 m2) := ⟨q4, (hd.base (by have := HWS.out; omega)).below hb4, hbd, by omega⟩
  have HB4 := hid (bt (bt HB.out hb3) hb4)
  have HQ4 := hid (blk_below (blk_below HQ.out hb3) hb4)
  have hPw : w.heap.size ≤ P := by omega
  have hPn : w.heap.size + 1 ≠ P := by omega
  clear hd hbd q4 hb3 hb4 HB HQ HWS
  go_wp2_with fail
  clear e4 eP
  go_loopw [6] (fun i wr => ∃ (k : Nat) (u2 : Value) (l2 : List TC), k ≤ 202 ∧ i = .int .i64 k ∧ Hid (l2.length = m2.length + k) ∧ Hid (Sw wr P w.heap.size (.slice a1 m1.length p1) u2 m1 l2) ∧ Hid (Below w.heap.size w wr) ∧ Hid (wr.heap[w.heap.size + 1]? = some (.cells #[.slice none 0 0, .slice none 0 0] 26 (0, 0)))) (fun i _ => 300 - (intOf i).toNat)
  case atStart => exact ⟨0, _, m2, by omega, rfl, (rfl : m2.length = m2.length + 0), HS4, HB4, HQ4⟩
  case round =>
    obtain ⟨k, u2, l2, hk, rfl, HL, HS, HB, HQ⟩ := hrel
    clear HS4 HB4 HQ4
    obtain ⟨d0, d1, _⟩ := HS.out.c
    obtain ⟨a3, p3, rfl⟩ := HS.out.dw.s2
    have hlI : (less : Int) ≤ 1 := by omega
    have hn1 := HS.out.bd.n1
    have hn2 := HS.out.bd.n2
    by_cases hlt : (m1.length : Int) + (l2.length : Int) < 200 - (less : Int)
    · have hkk : k ≤ 200 := by have := HL.out; omega
      have hl2 : l2.length ≤ 200 := by omega
      go_wp2_with fail
      clear d0 d1 hlt
      refine Lt.begin 13 (fun w' => w'.heap[P]? = some (.cells #[.slice a1 m1.length p1, .slice a3 l2.length p3] 26 (0, 0))) (by kernel_rfl) ?_
      obtain ⟨wD, eD⟩ : ∃ y, wr.drew = y := ⟨_, rfl⟩
      rw [eD]
      have hbD : Below wr.heap.size wr wD := by rw [← eD]; exact (Below.refl _ _).drew
      clear eD
      replace HS := hid (HS.out.below hbD)
      replace HB := hid (bt HB.out hbD)
      replace HQ := hid (blk_below HQ.out hbD)
      have hS0 : (fun w' => w'.heap[P]? = some (.cells #[.slice a1 m1.length p1, .slice a3 l2.length p3] 26 (0, 0))) wD := HS.out.blk
      refine Lt.take (i := 0) (oi := { dst := some 21, op := Op.fieldAddr 26 (Operand.tmp 5) 1, type := 0, pos := "l3_draw.go:146", after := #[], guard := none }) (v := ?_) rfl (by kernel_rfl) (by kernel_rfl) (by kernel_rfl) (by kernel_rfl) (fun _ _ _ h => h) hS0 (Or.inl ⟨by rfl, ?_⟩) ?_
      rotate_left 1
      · rintro w hSw
        obtain ⟨c0, c1⟩ := blk_c hSw
        go_simp
        first | done | with_reducible rfl
      simp only [Act.put, List.setIfInBounds_toArray, List.set_cons_zero, List.set_cons_succ]
      refine Lt.take (i := 1) (oi := { dst := some 22, op := Op.load 24 (Operand.tmp 21), type := 24, pos := "l3_draw.go:146", after := #[{ on := 0, ground := Ground.data }], guard := none }) (v := ?_) rfl (by kernel_rfl) (by kernel_rfl) (by kernel_rfl) (by kernel_rfl) (fun _ _ _ h => h) hS0 (Or.inl ⟨by rfl, ?_⟩) ?_
      rotate_left 1
      · rintro w hSw
        obtain ⟨c0, c1⟩ := blk_c hSw
        go_simp
        first | done | with_reducible rfl
      simp only [Act.put, List.setIfInBounds_toArray, List.set_cons_zero, List.set_cons_succ]
      refine Lt.take (i := 2) (oi := { dst := some 23, op := Op.move (Operand.tmp 6), type := 3, pos := "l3_draw.go:146", after := #[], guard := none }) (v := ?_) rfl (by kernel_rfl) (by kernel_rfl) (by kernel_rfl) (by kernel_rfl) (fun _ _ _ h => h) hS0 (Or.inl ⟨by rfl, ?_⟩) ?_
      rotate_left 1
      · rintro w hSw
        obtain ⟨c0, c1⟩ := blk_c hSw
        go_simp
        first | done | with_reducible rfl
      simp only [Act.put, List.setIfInBounds_toArray, List.set_cons_zero, List.set_cons_succ]
      refine Lt.step (i := 3) (o := { dst := some 24, op := Op.call { callee := Callee.value (Operand.func 58), args := #[Operand.tmp 23], argTypes := #[3] }, type := 9, pos := "l3_draw.go:146", after := #[{ on := 2, ground := Ground.data }], guard := none }) (by kernel_rfl) rfl (fun K hK => ?_)
      go_simp
      refine (l3Label_any (k : Int) _ (by omega) (by omega)).mono ?_
      rintro e wA ⟨⟨nm, rfl, hnm⟩, hbA⟩
      have hqm : ¬ 9223372036854775807 < 1 + nm.size := by omega
      replace HS := hid (HS.out.below hbA)
      replace HB := hid (bt HB.out hbA)
      replace HQ := hid (blk_below HQ.out hbA)
      have hS1 : (fun w' => w'.heap[P]? = some (.cells #[.slice a1 m1.length p1, .slice a3 l2.length p3] 26 (0, 0))) wA := HS.out.blk
      refine hK.out _ _ (fun _ => hS1) (fun _ => ?_)
      clear hK K hbA
      try simp only [Act.put, List.setIfInBounds_toArray, List.set_cons_zero, List.set_cons_succ]
      refine Lt.take (i := 4) (oi := { dst := some 25, op := Op.binOp BinOp.add 9 (Operand.const (Value.string { data := #[118] })) (Operand.tmp 24) 9, type := 9, pos := "l3_draw.go:146", after := #[{ on := 3, ground := Ground.data }], guard := none }) (v := ?_) rfl (by kernel_rfl) (by kernel_rfl) (by kernel_rfl) (by kernel_rfl) (fun _ _ _ h => h) hS1 (Or.inl ⟨by rfl, ?_⟩) ?_
      rotate_left 1
      · rintro w hSw
        obtain ⟨c0, c1⟩ := blk_c hSw
        go_simp
        first | done | with_reducible rfl
      simp only [Act.put, List.setIfInBounds_toArray, List.set_cons_zero, List.set_cons_succ]
      refine Lt.step (i := 5) (o := { dst := some 26, op := Op.call { callee := Callee.value (Operand.func 53), args := #[Operand.const (Value.string { data := #[107] })], argTypes := #[9] }, type := 84, pos := "l3_draw.go:146", after := #[{ on := 3, ground := Ground.chain }], guard := none }) (by kernel_rfl) rfl (fun K hK => ?_)
      go_simp
      refine (l2Lit_any _ _).mono ?_
      rintro e wB ⟨rfl, hbB⟩
      replace HS := hid (HS.out.below hbB)
      replace HB := hid (bt HB.out hbB)
      replace HQ := hid (blk_below HQ.out hbB)
      have hS2 : (fun w' => w'.heap[P]? = some (.cells #[.slice a1 m1.length p1, .slice a3 l2.length p3] 26 (0, 0))) wB := HS.out.blk
      refine hK.out _ _ (fun _ => hS2) (fun _ => ?_)
      clear hK K hbB
      try simp only [Act.put, List.setIfInBounds_toArray, List.set_cons_zero, List.set_cons_succ]
      refine Lt.step (i := 6) (o := { dst := some 27, op := Op.call { callee := Callee.value (Operand.func 54), args := #[Operand.const (Value.int IntKind.i64 15)], argTypes := #[3] }, type := 84, pos := "l3_draw.go:146", after := #[{ on := 5, ground := Ground.chain }], guard := none }) (by kernel_rfl) rfl (fun K hK => ?_)
      go_simp
      refine (l2Op_any _ _).mono ?_
      rintro e wE ⟨rfl, hbE⟩
      replace HS := hid (HS.out.below hbE)
      replace HB := hid (bt HB.out hbE)
      replace HQ := hid (blk_below HQ.out hbE)
      have hS3 : (fun w' => w'.heap[P]? = some (.cells #[.slice a1 m1.length p1, .slice a3 l2.length p3] 26 (0, 0))) wE := HS.out.blk
      refine hK.out _ _ (fun _ => hS3) (fun _ => ?_)
      clear hK K hbE
      try simp only [Act.put, List.setIfInBounds_toArray, List.set_cons_zero, List.set_cons_succ]
      have hsE : w.heap.size ≤ wE.heap.size := HB.out.size
      refine Lt.step (i := 7) (o := { dst := some 28, op := Op.buildSlice 29 2 #[(0, Operand.tmp 26), (1, Operand.tmp 27)], type := 29, pos := "l3_draw.go:146", after := #[{ on := 5, ground := Ground.data }, { on := 6, ground := Ground.data }], guard := none }) (by kernel_rfl) rfl (fun K hK => ?_)
      go_simp
      refine name_alloc (Q := fun x => K _ x) ?_
      intro wF hbwF HF
      try dsimp only
      replace HS := hid (HS.out.below hbwF)
      replace HB := hid (bt HB.out hbwF)
      replace HQ := hid (blk_below HQ.out hbwF)
      have hS4 : (fun w' => w'.heap[P]? = some (.cells #[.slice a1 m1.length p1, .slice a3 l2.length p3] 26 (0, 0))) wF := HS.out.blk
      refine hK.out _ _ (fun _ => hS4) (fun _ => ?_)
      clear hK K hbwF
      try simp only [Act.put, List.setIfInBounds_toArray, List.set_cons_zero, List.set_cons_succ]
      refine Lt.take (i := 8) (oi := { dst := some 29, op := Op.build 31 #[(0, Operand.tmp 28)], type := 31, pos := "l3_draw.go:146", after := #[{ on := 7, ground := Ground.data }], guard := none }) (v := ?_) rfl (by kernel_rfl) (by kernel_rfl) (by kernel_rfl) (by kernel_rfl) (fun _ _ _ h => h) hS4 (Or.inl ⟨by rfl, ?_⟩) ?_
      rotate_left 1
      · rintro w hSw
        obtain ⟨c0, c1⟩ := blk_c hSw
        go_simp
        first | done | with_reducible rfl
      simp only [Act.put, List.setIfInBounds_toArray, List.set_cons_zero, List.set_cons_succ]
      refine Lt.take (i := 9) (oi := { dst := some 30, op := Op.build 64 #[(0, Operand.tmp 25), (1, Operand.tmp 29)], type := 64, pos := "l3_draw.go:146", after := #[{ on := 4, ground := Ground.data }, { on := 8, ground := Ground.data }], guard := none }) (v := ?_) rfl (by kernel_rfl) (by kernel_rfl) (by kernel_rfl) (by kernel_rfl) (fun _ _ _ h => h) hS4 (Or.inl ⟨by rfl, ?_⟩) ?_
      rotate_left 1
      · rintro w hSw
        obtain ⟨c0, c1⟩ := blk_c hSw
        go_simp
        first | done | with_reducible rfl
      simp only [Act.put, List.setIfInBounds_toArray, List.set_cons_zero, List.set_cons_succ]
      refine Lt.step (i := 10) (o := { dst := some 31, op := Op.buildSlice 24 1 #[(0, Operand.tmp 30)], type := 24, pos := "l3_draw.go:146", after := #[{ on := 9, ground := Ground.data }], guard := none }) (by kernel_rfl) rfl (fun K hK => ?_)
      go_simp
      refine name_alloc (Q := fun x => K _ x) ?_
      intro wG hbwG HG
      try dsimp only
      replace HS := hid (HS.out.below hbwG)
      replace HB := hid (bt HB.out hbwG)
      replace HQ := hid (blk_below HQ.out hbwG)
      replace HF := hid (blk_below HF.out hbwG)
      have hS5 : (fun w' => w'.heap[P]? = some (.cells #[.slice a1 m1.length p1, .slice a3 l2.length p3] 26 (0, 0))) wG := HS.out.blk
      refine hK.out _ _ (fun _ => hS5) (fun _ => ?_)
      clear hK K hbwG
      try simp only [Act.put, List.setIfInBounds_toArray, List.set_cons_zero, List.set_cons_succ]
      refine Lt.step (i := 11) (o := { dst := some 32, op := Op.call { callee := Callee.builtin Builtin.append, args := #[Operand.tmp 22, Operand.tmp 31], argTypes := #[24, 24] }, type := 24, pos := "l3_draw.go:146", after := #[{ on := 1, ground := Ground.data }, { on := 10, ground := Ground.data }, { on := 6, ground := Ground.chain }], guard := none }) (by kernel_rfl) rfl (fun K hK => ?_)
      refine step_appT rfl (by rfl) w.heap.size (.slice a3 l2.length p3) _ (tcV l2) (by rfl) HS.out.dw.t wF.heap.size _ _ rfl (by rfl) HG.out HB.out.size (by omega) ?_
      intro g' cap' w7 hown7 hgrow
      have HN := hid (HS.out.putT (s := ⟨_, [⟨1, ⟨#[107]⟩, 0⟩, ⟨15, ⟨#[]⟩, 0⟩]⟩) (own_lit (n := 2) HF.out hsE rfl rfl (by omega)) hgrow hown7 (by omega) ⟨by show (_ ++ _ : ByteArray).size ≤ 50000; rw [ByteArray.size_append]; show 1 + nm.size ≤ 50000; omega, by simp, short2 (by show 1 ≤ 50000; omega) (Nat.zero_le _)⟩)
      have hrow : ∀ j, Value.ownBlock (.slice a3 l2.length p3) = some j → w.heap.size ≤ j := fun j hj => (HS.out.dw.t.lt j hj).1
      have HP7 := hid (HS.out.app hgrow (Or.inr rfl))
      have HB7 := hid ((HB.out.grown hgrow HB.out.size (fun j hj => hrow j hj)).setCell (p := ⟨P, 1, none⟩) hPw (.slice (some ⟨g', 0, none⟩) (l2.length + 1) cap'))
      have HQ7 := hid (blk_set (blk_grow HQ.out hgrow (HasT.ne ⟨_, HQ.out⟩ HS.out.dw.t (by decide))) (by omega) (c := P) (j := 1) (.slice (some ⟨g', 0, none⟩) (l2.length + 1) cap'))
      obtain ⟨c0, c1⟩ := blk_c HP7.out
      have fz := fun j => Lib.frozen_of_heap HP7.out j
      have hS7 : (fun w' => w'.heap[P]? = some (.cells #[.slice a1 m1.length p1, .slice a3 l2.length p3] 26 (0, 0))) w7 := HP7.out
      refine hK.out _ _ (fun _ => hS7) (fun _ => ?_)
      clear hK K hgrow hown7 hrow
      simp only [Act.put, List.setIfInBounds_toArray, List.set_cons_zero, List.set_cons_succ]
      refine Lt.take (i := 12) (oi := { dst := some 33, op := Op.fieldAddr 26 (Operand.tmp 5) 1, type := 0, pos := "l3_draw.go:146", after := #[{ on := 0, ground := Ground.phase }, { on := 1, ground := Ground.phase }, { on := 2, ground := Ground.phase }, { on := 3, ground := Ground.phase }, { on := 4, ground := Ground.phase }, { on := 5, ground := Ground.phase }, { on := 6, ground := Ground.phase }, { on := 7, ground := Ground.phase }, { on := 8, ground := Ground.phase }, { on := 9, ground := Ground.phase }, { on := 10, ground := Ground.phase }, { on := 11, ground := Ground.phase }], guard := none }) (v := ?_) rfl (by kernel_rfl) (by kernel_rfl) (by kernel_rfl) (by kernel_rfl) (fun _ _ _ h => h) hS7 (Or.inl ⟨by rfl, ?_⟩) ?_
      rotate_left 1
      · rintro w hSw
        obtain ⟨c0, c1⟩ := blk_c hSw
        go_simp
        first | done | with_reducible rfl
      simp only [Act.put, List.setIfInBounds_toArray, List.set_cons_zero, List.set_cons_succ]
      refine Lt.step (i := 13) (o := { dst := none, op := Op.store 24 (Operand.tmp 33) (Operand.tmp 32), type := 0, pos := "l3_draw.go:146", after := #[{ on := 12, ground := Ground.data }, { on := 11, ground := Ground.data }, { on := 11, ground := Ground.chain }, { on := 0, ground := Ground.phase }, { on := 1, ground := Ground.phase }, { on := 2, ground := Ground.phase }, { on := 3, ground := Ground.phase }, { on := 4, ground := Ground.phase }, { on := 5, ground := Ground.phase }, { on := 6, ground := Ground.phase }, { on := 7, ground := Ground.phase }, { on := 8, ground := Ground.phase }, { on := 9, ground := Ground.phase }, { on := 10, ground := Ground.phase }, { on := 11, ground := Ground.phase }], guard := none }) (by kernel_rfl) rfl (fun K hK => ?_)
      go_simp
      refine hK.out _ _ (fun h => absurd rfl h) (fun _ => ?_)
      clear hK K
      refine Lt.done (by kernel_rfl) ?_ _
      go_wp2
      go_roundw
      case rel => exact ⟨k + 1, _, _, by omega, by go_num, hid (by have := HL.out; simp; omega), HN, HB7, HQ7⟩
      case measure => simp [intOf]; omega
    · have hltd := decide_eq_false hlt
      have hlt2 : ¬ (m1.length : Int) + (l2.length : Int) < 200 - (less : Int) := hlt
      obtain ⟨r0, r1⟩ := blk_c HQ.out
      have fr := fun j => Lib.frozen_of_heap HQ.out j
      go_wp2
      refine bodyPost_ret (v := .agg #[.slice a1 m1.length p1, .slice a3 l2.length p3]) (by simp [results, Tryz.results21, go_sem, r0, r1]) rfl ?_
      exact ⟨below_set2 HB.out (by omega) _ _, _, _, rfl, m1, l2, HS.out.dw.ret HQ.out, HS.out.bd⟩
end Go.Proofs.YtjdjhenijihpfaaGreatDoor
