import Derived.Test.YtjdjhenijihpfaaGreatDoorEdB
import Derived.Test.YtjdjhenijihpfaaGreatDoorEdD
namespace Go.Proofs.YtjdjhenijihpfaaGreatDoor
open Go.RowKit Go.Deep
set_option linter.unusedVariables false

theorem insC_lit3 (x y z : I3) : insC [x, y, z] = [.int .i64 x.op, .string x.text, .int .i64 x.n, .int .i64 y.op, .string y.text, .int .i64 y.n, .int .i64 z.op, .string z.text, .int .i64 z.n] := rfl
/-- A code that is a literal. -/
theorem own_lit {W : World} {d n : Nat} {cs : Array Value} {is : List I3} {lo : Nat} (h : W.heap[d]? = some (.cells cs 84 (0, 0))) (hl : lo ≤ d) (hc : cs.toList = insC is) (hn : n = is.length) (hs : n ≤ 1000) : W.ownsRow lo 84 3 (.slice (some ⟨d, 0, none⟩) n n) n (insC is) := by
  have e : cs.size = n * 3 := by rw [← Array.length_toList, hc, insC_length, hn]
  refine ⟨by rw [insC_length, hn], Or.inr ⟨d, n, cs, rfl, hl, h, Nat.le_refl _, by unfold maxLen; omega, e, ?_⟩⟩
  rw [hc, List.take_of_length_le (by rw [insC_length]; omega)]

set_option maxRecDepth 100000 in
set_option maxHeartbeats 4000000 in
theorem l3Chain_any (n : Nat) (end_ : ByteArray) (w : World) (hn : n ≤ 100) (he : end_.size ≤ 50000) :
    Calls Tryz.prog 52 #[.int .i64 n, .string end_] w fun e w' => Below w.heap.size w w' ∧ ∃ v1 v2 l1 l2, e = .returned (.agg #[v1, v2]) ∧ Dw w' w.heap.size v1 v2 l1 l2 ∧ BdS l1 l2 ∧ l2.length = n ∧ l1.length ≤ 10 ∧ ∀ a ∈ l2, a.t.code.length = 3 := by
  obtain ⟨w3, e3⟩ : ∃ y, ((w.alloc (.cells #[.slice none 0 0, .slice none 0 0] 26)).alloc (.cells #[.string ⟨#[97]⟩, .string ⟨#[103, 114, 111, 117, 110, 100]⟩] 60)).alloc (.cells #[.slice (some ⟨w.heap.size + 1, 0, none⟩) 1 1, .slice none 0 0] 26) = y := ⟨_, rfl⟩
  have hb3 : Below w.heap.size w w3 := by rw [← e3]; exact (((Below.refl _ _).alloc (Nat.le_refl _) _).alloc (by simp) _).alloc (by simp; omega) _
  have q0 : w3.heap[w.heap.size]? = some (.cells #[.slice none 0 0, .slice none 0 0] 26 (0, 0)) := by rw [← e3, Lib.alloc_old _ _ _ (by simp; omega), Lib.alloc_old _ _ _ (by simp)]; exact heapW_new _ _
  have q1 : w3.heap[w.heap.size + 1]? = some (.cells #[.string ⟨#[97]⟩, .string ⟨#[103, 114, 111, 117, 110, 100]⟩] 60 (0, 0)) := by
    rw [← e3, Lib.alloc_old _ _ _ (by simp)]
    have h := heapW_new (w.alloc (.cells #[.slice none 0 0, .slice none 0 0] 26)) (.cells #[.string ⟨#[97]⟩, .string ⟨#[103, 114, 111, 117, 110, 100]⟩] 60)
    rw [show (w.alloc (.cells #[.slice none 0 0, .slice none 0 0] 26)).heap.size = w.heap.size + 1 from by simp] at h
    exact h
  have q2 : w3.heap[w.heap.size + 2]? = some (.cells #[.slice (some ⟨w.heap.size + 1, 0, none⟩) 1 1, .slice none 0 0] 26 (0, 0)) := by
    have h := heapW_new ((w.alloc (.cells #[.slice none 0 0, .slice none 0 0] 26)).alloc (.cells #[.string ⟨#[97]⟩, .string ⟨#[103, 114, 111, 117, 110, 100]⟩] 60)) (.cells #[.slice (some ⟨w.heap.size + 1, 0, none⟩) 1 1, .slice none 0 0] 26)
    rw [show ((w.alloc (.cells #[.slice none 0 0, .slice none 0 0] 26)).alloc (.cells #[.string ⟨#[97]⟩, .string ⟨#[103, 114, 111, 117, 110, 100]⟩] 60)).heap.size = w.heap.size + 2 from by simp, e3] at h
    exact h
  have HS3 : Hid (Sw w3 (w.heap.size + 2) w.heap.size (.slice (some ⟨w.heap.size + 1, 0, none⟩) 1 1) (.slice none 0 0) [(⟨⟨#[97]⟩, ⟨#[103, 114, 111, 117, 110, 100]⟩⟩ : S2)] []) := by
    refine ⟨q2, ⟨⟨rfl, Or.inr ⟨w.heap.size + 1, 1, _, rfl, Nat.le_succ _, q1, Nat.le_refl _, by unfold maxLen; omega, rfl, rfl⟩⟩, World.ownsRow_nil _ _ _ _, fun a ha => by cases ha⟩, BdS.nil.putS (by simp) ⟨by decide, by decide⟩, by omega⟩
  have HQ3 : Hid (w3.heap[w.heap.size]? = some (.cells #[.slice none 0 0, .slice none 0 0] 26 (0, 0))) := q0
  have HE : Hid (end_.size ≤ 50000) := he
  have E3 : Hid (((w.alloc (.cells #[.slice none 0 0, .slice none 0 0] 26)).alloc (.cells #[.string ⟨#[97]⟩, .string ⟨#[103, 114, 111, 117, 110, 100]⟩] 60)).alloc (.cells #[.slice (some ⟨w.heap.size + 1, 0, none⟩) 1 1, .slice none 0 0] 26) = w3) := e3
  clear q0 q1 q2 he e3
  obtain ⟨P, eP⟩ : ∃ P, w.heap.size + 2 = P := ⟨_, rfl⟩
  have hPw : w.heap.size ≤ P := by omega
  have hPn : w.heap.size ≠ P := by omega
  rw [eP] at HS3
  go_enter Tryz.func52, Tryz.ntmps52
  go_wp2_with fail
  rw [E3.out]
  clear E3 eP
  go_loopw [6] (fun i wr => ∃ (k : Nat) (v2 : Value) (l2 : List TC), k ≤ n ∧ i = .int .i64 k ∧ l2.length = k ∧ Hid (Sw wr P w.heap.size (.slice (some ⟨w.heap.size + 1, 0, none⟩) 1 1) v2 [(⟨⟨#[97]⟩, ⟨#[103, 114, 111, 117, 110, 100]⟩⟩ : S2)] l2) ∧ Hid (Below w.heap.size w wr) ∧ Hid (wr.heap[w.heap.size]? = some (.cells #[.slice none 0 0, .slice none 0 0] 26 (0, 0))) ∧ Hid (∀ a ∈ l2, a.t.code.length = 3)) (fun i _ => n - (intOf i).toNat)
  case atStart => exact ⟨0, _, [], Nat.zero_le _, rfl, rfl, HS3, hb3, HQ3, (fun a ha => (by cases ha) : ∀ a ∈ ([] : List TC), a.t.code.length = 3)⟩
  case round =>
    obtain ⟨k, v2, l2, hk, rfl, hl2, HS, HB, HQ, HC⟩ := hrel
    subst hl2
    clear HS3 HQ3 hb3
    by_cases hlt : l2.length < n
    · have hkI : (l2.length : Int) < (n : Int) := by omega
      go_wp2_with fail
      refine (l3Label_any ((l2.length : Int) + 1) wr (by omega) (by omega)).mono ?_
      rintro e wl ⟨⟨s0, rfl, hs0⟩, hbl⟩
      replace HS := hid (HS.out.below hbl)
      replace HB := hid (bt HB.out hbl)
      replace HQ := hid (blk_below HQ.out hbl)
      clear hbl
      replace hs0 : s0.size ≤ 50000 := by omega
      go_wp2_with fail
      all_goals
        refine Lt.begin 14 (fun w' => w'.heap[P]? = some (.cells #[.slice (some ⟨w.heap.size + 1, 0, none⟩) 1 1, v2] 26 (0, 0))) (by kernel_rfl) ?_
        obtain ⟨wD, eD⟩ : ∃ y, wl.drew = y := ⟨_, rfl⟩
        rw [eD]
        have hbD : Below wl.heap.size wl wD := by rw [← eD]; exact (Below.refl _ _).drew
        clear eD
        replace HS := hid (HS.out.below hbD)
        replace HB := hid (bt HB.out hbD)
        replace HQ := hid (blk_below HQ.out hbD)
        have hS0 : (fun w' => w'.heap[P]? = some (.cells #[.slice (some ⟨w.heap.size + 1, 0, none⟩) 1 1, v2] 26 (0, 0))) wD := HS.out.blk
        refine Lt.take (i := 0) (oi := { dst := some 24, op := Op.fieldAddr 26 (Operand.tmp 5) 1, type := 0, pos := "l3_draw.go:43", after := #[], guard := none }) (v := ?_) rfl (by kernel_rfl) (by kernel_rfl) (by kernel_rfl) (by kernel_rfl) (fun _ _ _ h => h) hS0 (Or.inl ⟨by rfl, ?_⟩) ?_
        rotate_left 1
        · rintro w hSw
          obtain ⟨c0, c1⟩ := blk_c hSw
          go_simp
          first | done | with_reducible rfl
        simp only [Act.put, List.setIfInBounds_toArray, List.set_cons_zero, List.set_cons_succ]
        refine Lt.take (i := 1) (oi := { dst := some 25, op := Op.load 24 (Operand.tmp 24), type := 24, pos := "l3_draw.go:43", after := #[{ on := 0, ground := Ground.data }], guard := none }) (v := ?_) rfl (by kernel_rfl) (by kernel_rfl) (by kernel_rfl) (by kernel_rfl) (fun _ _ _ h => h) hS0 (Or.inl ⟨by rfl, ?_⟩) ?_
        rotate_left 1
        · rintro w hSw
          obtain ⟨c0, c1⟩ := blk_c hSw
          go_simp
          first | done | with_reducible rfl
        simp only [Act.put, List.setIfInBounds_toArray, List.set_cons_zero, List.set_cons_succ]
        refine Lt.take (i := 2) (oi := { dst := some 26, op := Op.move (Operand.tmp 6), type := 3, pos := "l3_draw.go:43", after := #[], guard := none }) (v := ?_) rfl (by kernel_rfl) (by kernel_rfl) (by kernel_rfl) (by kernel_rfl) (fun _ _ _ h => h) hS0 (Or.inl ⟨by rfl, ?_⟩) ?_
        rotate_left 1
        · rintro w hSw
          obtain ⟨c0, c1⟩ := blk_c hSw
          go_simp
          first | done | with_reducible rfl
        simp only [Act.put, List.setIfInBounds_toArray, List.set_cons_zero, List.set_cons_succ]
        refine Lt.take (i := 4) (oi := { dst := some 28, op := Op.move (Operand.tmp 7), type := 9, pos := "l3_draw.go:43", after := #[], guard := none }) (v := ?_) rfl (by kernel_rfl) (by kernel_rfl) (by kernel_rfl) (by kernel_rfl) (fun _ _ _ h => h) hS0 (Or.inl ⟨by rfl, ?_⟩) ?_
        rotate_left 1
        · rintro w hSw
          obtain ⟨c0, c1⟩ := blk_c hSw
          go_simp
          first | done | with_reducible rfl
        simp only [Act.put, List.setIfInBounds_toArray, List.set_cons_zero, List.set_cons_succ]
        refine Lt.step (i := 3) (o := { dst := some 27, op := Op.call { callee := Callee.value (Operand.func 58), args := #[Operand.tmp 26], argTypes := #[3] }, type := 9, pos := "l3_draw.go:43", after := #[{ on := 2, ground := Ground.data }], guard := none }) (by kernel_rfl) rfl (fun K hK => ?_)
        go_simp
        refine (l3Label_any (l2.length : Int) _ (by omega) (by omega)).mono ?_
        rintro e wA ⟨⟨nm, rfl, hnm⟩, hbA⟩
        replace HS := hid (HS.out.below hbA)
        replace HB := hid (bt HB.out hbA)
        replace HQ := hid (blk_below HQ.out hbA)
        have hS1 : (fun w' => w'.heap[P]? = some (.cells #[.slice (some ⟨w.heap.size + 1, 0, none⟩) 1 1, v2] 26 (0, 0))) wA := HS.out.blk
        refine hK.out _ _ (fun _ => hS1) (fun _ => ?_)
        clear hK K hbA
        try simp only [Act.put, List.setIfInBounds_toArray, List.set_cons_zero, List.set_cons_succ]
        refine Lt.step (i := 5) (o := { dst := some 29, op := Op.call { callee := Callee.value (Operand.func 53), args := #[Operand.tmp 28], argTypes := #[9] }, type := 84, pos := "l3_draw.go:43", after := #[{ on := 4, ground := Ground.data }, { on := 3, ground := Ground.chain }], guard := none }) (by kernel_rfl) rfl (fun K hK => ?_)
        go_simp
        refine (l2Lit_any _ _).mono ?_
        rintro e wB ⟨rfl, hbB⟩
        replace HS := hid (HS.out.below hbB)
        replace HB := hid (bt HB.out hbB)
        replace HQ := hid (blk_below HQ.out hbB)
        have hS2 : (fun w' => w'.heap[P]? = some (.cells #[.slice (some ⟨w.heap.size + 1, 0, none⟩) 1 1, v2] 26 (0, 0))) wB := HS.out.blk
        refine hK.out _ _ (fun _ => hS2) (fun _ => ?_)
        clear hK K hbB
        try simp only [Act.put, List.setIfInBounds_toArray, List.set_cons_zero, List.set_cons_succ]
        refine Lt.step (i := 6) (o := { dst := some 30, op := Op.call { callee := Callee.value (Operand.func 54), args := #[Operand.const (Value.int IntKind.i64 12)], argTypes := #[3] }, type := 84, pos := "l3_draw.go:43", after := #[{ on := 5, ground := Ground.chain }], guard := none }) (by kernel_rfl) rfl (fun K hK => ?_)
        go_simp
        refine (l2Op_any _ _).mono ?_
        rintro e wC ⟨rfl, hbC⟩
        replace HS := hid (HS.out.below hbC)
        replace HB := hid (bt HB.out hbC)
        replace HQ := hid (blk_below HQ.out hbC)
        have hS3 : (fun w' => w'.heap[P]? = some (.cells #[.slice (some ⟨w.heap.size + 1, 0, none⟩) 1 1, v2] 26 (0, 0))) wC := HS.out.blk
        refine hK.out _ _ (fun _ => hS3) (fun _ => ?_)
        clear hK K hbC
        try simp only [Act.put, List.setIfInBounds_toArray, List.set_cons_zero, List.set_cons_succ]
        refine Lt.step (i := 7) (o := { dst := some 31, op := Op.call { callee := Callee.value (Operand.func 54), args := #[Operand.const (Value.int IntKind.i64 15)], argTypes := #[3] }, type := 84, pos := "l3_draw.go:43", after := #[{ on := 6, ground := Ground.chain }], guard := none }) (by kernel_rfl) rfl (fun K hK => ?_)
        go_simp
        refine (l2Op_any _ _).mono ?_
        rintro e wE ⟨rfl, hbE⟩
        replace HS := hid (HS.out.below hbE)
        replace HB := hid (bt HB.out hbE)
        replace HQ := hid (blk_below HQ.out hbE)
        have hS4 : (fun w' => w'.heap[P]? = some (.cells #[.slice (some ⟨w.heap.size + 1, 0, none⟩) 1 1, v2] 26 (0, 0))) wE := HS.out.blk
        refine hK.out _ _ (fun _ => hS4) (fun _ => ?_)
        clear hK K hbE
        try simp only [Act.put, List.setIfInBounds_toArray, List.set_cons_zero, List.set_cons_succ]
        have hsE : w.heap.size ≤ wE.heap.size := HB.out.size
        refine Lt.step (i := 8) (o := { dst := some 32, op := Op.buildSlice 29 3 #[(0, Operand.tmp 29), (1, Operand.tmp 30), (2, Operand.tmp 31)], type := 29, pos := "l3_draw.go:43", after := #[{ on := 5, ground := Ground.data }, { on := 6, ground := Ground.data }, { on := 7, ground := Ground.data }], guard := none }) (by kernel_rfl) rfl (fun K hK => ?_)
        go_simp
        refine name_alloc (Q := fun x => K _ x) ?_
        intro wF hbwF HF
        try dsimp only
        replace HS := hid (HS.out.below hbwF)
        replace HB := hid (bt HB.out hbwF)
        replace HQ := hid (blk_below HQ.out hbwF)
        have hS5 : (fun w' => w'.heap[P]? = some (.cells #[.slice (some ⟨w.heap.size + 1, 0, none⟩) 1 1, v2] 26 (0, 0))) wF := HS.out.blk
        refine hK.out _ _ (fun _ => hS5) (fun _ => ?_)
        clear hK K hbwF
        try simp only [Act.put, List.setIfInBounds_toArray, List.set_cons_zero, List.set_cons_succ]
        refine Lt.take (i := 9) (oi := { dst := some 33, op := Op.build 31 #[(0, Operand.tmp 32)], type := 31, pos := "l3_draw.go:43", after := #[{ on := 8, ground := Ground.data }], guard := none }) (v := ?_) rfl (by kernel_rfl) (by kernel_rfl) (by kernel_rfl) (by kernel_rfl) (fun _ _ _ h => h) hS5 (Or.inl ⟨by rfl, ?_⟩) ?_
        rotate_left 1
        · rintro w hSw
          obtain ⟨c0, c1⟩ := blk_c hSw
          go_simp
          first | done | with_reducible rfl
        simp only [Act.put, List.setIfInBounds_toArray, List.set_cons_zero, List.set_cons_succ]
        refine Lt.take (i := 10) (oi := { dst := some 34, op := Op.build 64 #[(0, Operand.tmp 27), (1, Operand.tmp 33)], type := 64, pos := "l3_draw.go:43", after := #[{ on := 3, ground := Ground.data }, { on := 9, ground := Ground.data }], guard := none }) (v := ?_) rfl (by kernel_rfl) (by kernel_rfl) (by kernel_rfl) (by kernel_rfl) (fun _ _ _ h => h) hS5 (Or.inl ⟨by rfl, ?_⟩) ?_
        rotate_left 1
        · rintro w hSw
          obtain ⟨c0, c1⟩ := blk_c hSw
          go_simp
          first | done | with_reducible rfl
        simp only [Act.put, List.setIfInBounds_toArray, List.set_cons_zero, List.set_cons_succ]
        refine Lt.step (i := 11) (o := { dst := some 35, op := Op.buildSlice 24 1 #[(0, Operand.tmp 34)], type := 24, pos := "l3_draw.go:43", after := #[{ on := 10, ground := Ground.data }], guard := none }) (by kernel_rfl) rfl (fun K hK => ?_)
        go_simp
        refine name_alloc (Q := fun x => K _ x) ?_
        intro wG hbwG HG
        try dsimp only
        replace HS := hid (HS.out.below hbwG)
        replace HB := hid (bt HB.out hbwG)
        replace HQ := hid (blk_below HQ.out hbwG)
        replace HF := hid (blk_below HF.out hbwG)
        have hS6 : (fun w' => w'.heap[P]? = some (.cells #[.slice (some ⟨w.heap.size + 1, 0, none⟩) 1 1, v2] 26 (0, 0))) wG := HS.out.blk
        refine hK.out _ _ (fun _ => hS6) (fun _ => ?_)
        clear hK K hbwG
        try simp only [Act.put, List.setIfInBounds_toArray, List.set_cons_zero, List.set_cons_succ]
        refine Lt.step (i := 12) (o := { dst := some 36, op := Op.call { callee := Callee.builtin Builtin.append, args := #[Operand.tmp 25, Operand.tmp 35], argTypes := #[24, 24] }, type := 24, pos := "l3_draw.go:43", after := #[{ on := 1, ground := Ground.data }, { on := 11, ground := Ground.data }, { on := 7, ground := Ground.chain }], guard := none }) (by kernel_rfl) rfl (fun K hK => ?_)
        refine step_appT rfl (by rfl) w.heap.size v2 _ (tcV l2) (by rfl) HS.out.dw.t wF.heap.size _ _ rfl (by rfl) HG.out HB.out.size (by omega) ?_
        intro g' cap' w7 hown7 hgrow
        have HN := hid (HS.out.putT (s := ⟨nm, [⟨1, _, 0⟩, ⟨12, ⟨#[]⟩, 0⟩, ⟨15, ⟨#[]⟩, 0⟩]⟩) (own_lit HF.out hsE rfl rfl (by show 3 ≤ 1000; omega)) hgrow hown7 (by omega) ⟨by show nm.size ≤ 50000; omega, by simp, short3 (by first | exact hs0 | exact HE.out) (Nat.zero_le _) (Nat.zero_le _)⟩)
        have hrow : ∀ j, v2.ownBlock = some j → w.heap.size ≤ j := fun j hj => (HS.out.dw.t.lt j hj).1
        have HP7 := hid (HS.out.app hgrow (Or.inr rfl))
        have HB7 := hid ((HB.out.grown hgrow HB.out.size (fun j hj => hrow j hj)).setCell (p := ⟨P, 1, none⟩) hPw (.slice (some ⟨g', 0, none⟩) (l2.length + 1) cap'))
        have HQ7 := hid (blk_set (blk_grow HQ.out hgrow (HasT.ne ⟨_, HQ.out⟩ HS.out.dw.t (by decide))) (by omega) (c := P) (j := 1) (.slice (some ⟨g', 0, none⟩) (l2.length + 1) cap'))
        obtain ⟨c0, c1⟩ := blk_c HP7.out
        have fz := fun j => Lib.frozen_of_heap HP7.out j
        refine hK.out _ _ (fun _ => HP7.out) (fun _ => ?_)
        clear hK K hgrow hown7 hrow
        simp only [Act.put, List.setIfInBounds_toArray, List.set_cons_zero, List.set_cons_succ]
        refine Lt.take (i := 13) (oi := { dst := some 37, op := Op.fieldAddr 26 (Operand.tmp 5) 1, type := 0, pos := "l3_draw.go:43", after := #[{ on := 0, ground := Ground.phase }, { on := 1, ground := Ground.phase }, { on := 2, ground := Ground.phase }, { on := 3, ground := Ground.phase }, { on := 4, ground := Ground.phase }, { on := 5, ground := Ground.phase }, { on := 6, ground := Ground.phase }, { on := 7, ground := Ground.phase }, { on := 8, ground := Ground.phase }, { on := 9, ground := Ground.phase }, { on := 10, ground := Ground.phase }, { on := 11, ground := Ground.phase }, { on := 12, ground := Ground.phase }], guard := none }) (v := ?_) rfl (by kernel_rfl) (by kernel_rfl) (by kernel_rfl) (by kernel_rfl) (fun _ _ _ h => h) HP7.out (Or.inl ⟨by rfl, ?_⟩) ?_
        rotate_left 1
        · rintro w hSw
          obtain ⟨c0, c1⟩ := blk_c hSw
          go_simp
          first | done | with_reducible rfl
        simp only [Act.put, List.setIfInBounds_toArray, List.set_cons_zero, List.set_cons_succ]
        refine Lt.step (i := 14) (o := { dst := none, op := Op.store 24 (Operand.tmp 37) (Operand.tmp 36), type := 0, pos := "l3_draw.go:43", after := #[{ on := 13, ground := Ground.data }, { on := 12, ground := Ground.data }, { on := 12, ground := Ground.chain }, { on := 0, ground := Ground.phase }, { on := 1, ground := Ground.phase }, { on := 2, ground := Ground.phase }, { on := 3, ground := Ground.phase }, { on := 4, ground := Ground.phase }, { on := 5, ground := Ground.phase }, { on := 6, ground := Ground.phase }, { on := 7, ground := Ground.phase }, { on := 8, ground := Ground.phase }, { on := 9, ground := Ground.phase }, { on := 10, ground := Ground.phase }, { on := 11, ground := Ground.phase }, { on := 12, ground := Ground.phase }], guard := none }) (by kernel_rfl) rfl (fun K hK => ?_)
        go_simp
        refine hK.out _ _ (fun h => absurd rfl h) (fun _ => ?_)
        clear hK K
        refine Lt.done (by kernel_rfl) ?_ _
        go_wp2
        go_roundw
        case rel => exact ⟨l2.length + 1, _, _, by omega, by go_num, by simp, HN, HB7, HQ7, hid (all_snoc HC.out rfl)⟩
        case measure => simp [intOf]; omega
    · have ek : l2.length = n := by omega
      subst ek
      obtain ⟨d0, d1, _⟩ := HS.out.c
      obtain ⟨r0, r1⟩ := blk_c HQ.out
      have fr := fun j => Lib.frozen_of_heap HQ.out j
      obtain ⟨a2, p2, rfl⟩ := HS.out.dw.s2
      go_wp2
      exact bodyPost_ret (v := .agg #[.slice (some ⟨w.heap.size + 1, 0, none⟩) 1 1, .slice a2 l2.length p2]) (by simp [results, Tryz.results52, go_sem, r0, r1]) rfl ⟨below_set2 HB.out (Nat.le_refl _) _ _, _, _, _, l2, rfl, HS.out.dw.ret HQ.out, HS.out.bd, rfl, by simp, HC.out⟩
end Go.Proofs.YtjdjhenijihpfaaGreatDoor
