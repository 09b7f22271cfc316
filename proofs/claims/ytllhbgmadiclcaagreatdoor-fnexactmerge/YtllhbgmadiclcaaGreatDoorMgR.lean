import Derived.Test.YtllhbgmadiclcaaGreatDoorMgM
namespace Go.Proofs.YtllhbgmadiclcaaGreatDoor
open Go.RowKit
set_option linter.unusedVariables false
set_option maxRecDepth 100000

def AxM (lo po g len : Nat) (vals : Nat → RV) (x : At len) (a' : Act) (W : World) : Prop :=
  ∃ (rv : Nat) (t0 t1 t2 t3 t4 t6 t7 t8 t9 t10 t11 t13 t14 t15 t16 t17 t18 t19 t20 t21 t22 t23 t24 t25 t26 t27 t28 t29 t30 t31 t32 t33 t34 t35 t36 t37 t38 t39 t40 t41 t42 t43 t44 t45 t46 t47 t48 t49 t50 t51 t52 t53 t54 t55 t56 t57 t58 t59 t60 t61 t62 t63 t64 t65 t66 t67 t68 t69 t70 t71 t72 t73 t74 t75 t76 t77 t78 t79 t80 t81 t82 t83 t84 t85 t86 t87 t88 t89 t90 : Value), a' = { tmps := #[t0, t1, t2, t3, t4, .pointer (some ⟨po, 0, none⟩), t6, t7, t8, t9, t10, t11, .pointer (some ⟨rv, 0, none⟩), t13, t14, t15, t16, t17, t18, t19, t20, t21, t22, t23, t24, t25, t26, t27, t28, t29, t30, t31, t32, t33, t34, t35, t36, t37, t38, t39, t40, t41, t42, t43, t44, t45, t46, t47, t48, t49, t50, t51, t52, t53, t54, t55, t56, t57, t58, t59, t60, t61, t62, t63, t64, t65, t66, t67, t68, t69, t70, t71, t72, t73, t74, t75, t76, t77, t78, t79, t80, t81, t82, t83, t84, t85, t86, t87, t88, t89, t90], defers := [] } ∧ lo ≤ rv ∧ W.heap[rv]? = some (.cells #[(vals x.1).cv, (vals x.1).lv, .string (vals x.1).out] 50 (0, 0)) ∧ ∃ qv, W.cell? ⟨g, 2, none⟩ = some qv ∧ qv.ownBlock ≠ some rv
theorem AxM.put {lo po g len : Nat} {vals : Nat → RV} {x : At len} {a' : Act} {W : World} {l : Nat} {o o' : Obj} (h : AxM lo po g len vals x a' W) (hl : W.heap[l]? = some o) (ho : o.isCells = false) : AxM lo po g len vals x a' (W.putObj l o') := by
  obtain ⟨rv, t0, t1, t2, t3, t4, t6, t7, t8, t9, t10, t11, t13, t14, t15, t16, t17, t18, t19, t20, t21, t22, t23, t24, t25, t26, t27, t28, t29, t30, t31, t32, t33, t34, t35, t36, t37, t38, t39, t40, t41, t42, t43, t44, t45, t46, t47, t48, t49, t50, t51, t52, t53, t54, t55, t56, t57, t58, t59, t60, t61, t62, t63, t64, t65, t66, t67, t68, t69, t70, t71, t72, t73, t74, t75, t76, t77, t78, t79, t80, t81, t82, t83, t84, t85, t86, t87, t88, t89, t90, h0, h1, h2, qv, h3, h4⟩ := h
  refine ⟨rv, t0, t1, t2, t3, t4, t6, t7, t8, t9, t10, t11, t13, t14, t15, t16, t17, t18, t19, t20, t21, t22, t23, t24, t25, t26, t27, t28, t29, t30, t31, t32, t33, t34, t35, t36, t37, t38, t39, t40, t41, t42, t43, t44, t45, t46, t47, t48, t49, t50, t51, t52, t53, t54, t55, t56, t57, t58, t59, t60, t61, t62, t63, t64, t65, t66, t67, t68, t69, t70, t71, t72, t73, t74, t75, t76, t77, t78, t79, t80, t81, t82, t83, t84, t85, t86, t87, t88, t89, t90, h0, h1, (World.putObj_heap_other (fun e => ?_)).trans h2, qv, ?_, h4⟩
  · subst e
    rw [h2] at hl
    cases hl
    simp [Obj.isCells] at ho
  · rw [World.cell?_of_block (a := ⟨g, 2, none⟩) (World.putObj_heap_other (fun e => ?_))]
    · exact h3
    · obtain ⟨o2, h5, h6⟩ := cells_of_cell h3
      dsimp only at e
      rw [e, hl] at h5
      cases h5
      rw [ho] at h6
      cases h6

theorem AxM.body {lo m1 m2 mc bp Bl Bs R po g n : Nat} {sv tv : Value} {ss ts : List ByteArray} {ra rb : List T3} {w₀ w1 : World} {vals : Nat → RV} {qb : Option Addr} (l n' : Nat) (pre : List (At rb.length)) (x : At rb.length) (a' : Act) (W : World)
    (hI : IMg lo m1 m2 mc bp Bl Bs R po g n sv tv ss ts ra rb w₀ w1 pre W) (hax : AxM lo po g rb.length vals x a' W) (hv : ∀ i, i < rb.length → ValL w₀ qb rb vals i) (hw0 : w₀.heap.size = lo) (hlo : lo ≤ w1.heap.size) (hgl : lo ≤ g) (hpl : ra.length + pre.length ≤ 1048576)
    (hfx : ∀ k, k = mc ∨ k = bp ∨ k = Bl ∨ k = Bs → k < w1.heap.size ∧ k ≠ g ∧ ∀ cs T fr, w1.heap[k]? = some (Obj.cells cs T fr) → T ≠ 50) :
    (Code.block 3 (Code.region 16 #[{ dst := some 62, op := Op.load 54 (Operand.tmp 5), type := 54, pos := "l6_keep.go:70", after := #[], guard := none }, { dst := some 63, op := Op.load 54 (Operand.tmp 5), type := 54, pos := "l6_keep.go:70", after := #[], guard := none }, { dst := some 64, op := Op.nilCheck (Operand.tmp 63), type := 0, pos := "l6_keep.go:70", after := #[{ on := 1, ground := Ground.data }], guard := none }, { dst := some 65, op := Op.fieldAddr 73 (Operand.tmp 64) 0, type := 0, pos := "l6_keep.go:70", after := #[{ on := 2, ground := Ground.data }], guard := none }, { dst := some 66, op := Op.fieldAddr 29 (Operand.tmp 65) 2, type := 0, pos := "l6_keep.go:70", after := #[{ on := 3, ground := Ground.data }], guard := none }, { dst := some 67, op := Op.load 27 (Operand.tmp 66), type := 27, pos := "l6_keep.go:70", after := #[{ on := 4, ground := Ground.data }], guard := none }, { dst := some 68, op := Op.load 50 (Operand.tmp 12), type := 50, pos := "l6_keep.go:70", after := #[], guard := none }, { dst := some 69, op := Op.call { callee := Callee.value (Operand.func 29), args := #[Operand.tmp 68], argTypes := #[50] }, type := 50, pos := "l6_keep.go:70", after := #[{ on := 6, ground := Ground.data }], guard := none }, { dst := some 70, op := Op.buildSlice 27 1 #[(0, Operand.tmp 69)], type := 27, pos := "l6_keep.go:70", after := #[{ on := 7, ground := Ground.data }], guard := none }, { dst := some 71, op := Op.call { callee := Callee.builtin Builtin.append, args := #[Operand.tmp 67, Operand.tmp 70], argTypes := #[27, 27] }, type := 27, pos := "l6_keep.go:70", after := #[{ on := 5, ground := Ground.data }, { on := 8, ground := Ground.data }, { on := 7, ground := Ground.chain }], guard := none }, { dst := some 72, op := Op.nilCheck (Operand.tmp 62), type := 0, pos := "l6_keep.go:70", after := #[{ on := 0, ground := Ground.data }, { on := 0, ground := Ground.phase }, { on := 1, ground := Ground.phase }, { on := 2, ground := Ground.phase }, { on := 3, ground := Ground.phase }, { on := 4, ground := Ground.phase }, { on := 5, ground := Ground.phase }, { on := 6, ground := Ground.phase }, { on := 7, ground := Ground.phase }, { on := 8, ground := Ground.phase }, { on := 9, ground := Ground.phase }], guard := none }, { dst := some 73, op := Op.fieldAddr 73 (Operand.tmp 72) 0, type := 0, pos := "l6_keep.go:70", after := #[{ on := 10, ground := Ground.data }, { on := 0, ground := Ground.phase }, { on := 1, ground := Ground.phase }, { on := 2, ground := Ground.phase }, { on := 3, ground := Ground.phase }, { on := 4, ground := Ground.phase }, { on := 5, ground := Ground.phase }, { on := 6, ground := Ground.phase }, { on := 7, ground := Ground.phase }, { on := 8, ground := Ground.phase }, { on := 9, ground := Ground.phase }], guard := none }, { dst := some 74, op := Op.fieldAddr 29 (Operand.tmp 73) 2, type := 0, pos := "l6_keep.go:70", after := #[{ on := 11, ground := Ground.data }, { on := 0, ground := Ground.phase }, { on := 1, ground := Ground.phase }, { on := 2, ground := Ground.phase }, { on := 3, ground := Ground.phase }, { on := 4, ground := Ground.phase }, { on := 5, ground := Ground.phase }, { on := 6, ground := Ground.phase }, { on := 7, ground := Ground.phase }, { on := 8, ground := Ground.phase }, { on := 9, ground := Ground.phase }], guard := none }, { dst := none, op := Op.store 27 (Operand.tmp 74) (Operand.tmp 71), type := 0, pos := "l6_keep.go:70", after := #[{ on := 12, ground := Ground.data }, { on := 9, ground := Ground.data }, { on := 9, ground := Ground.chain }, { on := 0, ground := Ground.phase }, { on := 1, ground := Ground.phase }, { on := 2, ground := Ground.phase }, { on := 3, ground := Ground.phase }, { on := 4, ground := Ground.phase }, { on := 5, ground := Ground.phase }, { on := 6, ground := Ground.phase }, { on := 7, ground := Ground.phase }, { on := 8, ground := Ground.phase }, { on := 9, ground := Ground.phase }], guard := none }] true)).wpIn (Fence.wide.inRound l) n' Tryz.prog (ownPostG w1.heap.size (KpM lo m1 m2 mc bp Bl Bs) (IMg lo m1 m2 mc bp Bl Bs R po g n sv tv ss ts ra rb w₀ w1) (fun _ _ _ => False) (pre ++ [x]) W) a' W := by
  obtain ⟨rv, t0, t1, t2, t3, t4, t6, t7, t8, t9, t10, t11, t13, t14, t15, t16, t17, t18, t19, t20, t21, t22, t23, t24, t25, t26, t27, t28, t29, t30, t31, t32, t33, t34, t35, t36, t37, t38, t39, t40, t41, t42, t43, t44, t45, t46, t47, t48, t49, t50, t51, t52, t53, t54, t55, t56, t57, t58, t59, t60, t61, t62, t63, t64, t65, t66, t67, t68, t69, t70, t71, t72, t73, t74, t75, t76, t77, t78, t79, t80, t81, t82, t83, t84, t85, t86, t87, t88, t89, t90, rfl, hrl, h2, hq⟩ := hax
  have hV := hv x.1 x.2
  obtain ⟨lb, lf, hla⟩ := hV.la
  obtain ⟨v, ev⟩ : ∃ v, vals x.1 = v := ⟨_, rfl⟩
  have hcn := hV.cn
  have hln := hV.ln
  have hout := hV.out
  have h3 := hV.r3
  have hrg := hV.rg
  rw [ev] at h2 hla hcn hln hout h3 hrg
  obtain ⟨ca, cn, cc, la, ln, lc, ot⟩ := v
  simp only [RV.cv, RV.lv] at h2 hla hcn hln hout h3 hrg
  subst hcn hln hout hla
  have hb : Below w₀.heap.size w₀ W := by rw [hw0]; exact hI.bel
  exact mergeBody l n' rv cc lb lf lc ca (qx rb x.1) pre x W t0 t1 t2 t3 t4 t6 t7 t8 t9 t10 t11 t13 t14 t15 t16 t17 t18 t19 t20 t21 t22 t23 t24 t25 t26 t27 t28 t29 t30 t31 t32 t33 t34 t35 t36 t37 t38 t39 t40 t41 t42 t43 t44 t45 t46 t47 t48 t49 t50 t51 t52 t53 t54 t55 t56 t57 t58 t59 t60 t61 t62 t63 t64 t65 t66 t67 t68 t69 t70 t71 t72 t73 t74 t75 t76 t77 t78 t79 t80 t81 t82 t83 t84 t85 t86 t87 t88 t89 t90 hI hlo hgl hrl rfl h2 hq (h3.below hb) (hrg.below hb) hV.c1 hV.b1 hV.b2 hpl hfx
end Go.Proofs.YtllhbgmadiclcaaGreatDoor
namespace Go.Proofs.YtllhbgmadiclcaaGreatDoor
open Go.RowKit
set_option linter.unusedVariables false

theorem PlT.none {n : Nat} {L : List ByteArray} {y : ByteArray} {r : Nat} (hL : So (sumB n) L) (hp : PlT n L (sumB n y) r) (ht : ¬ There n L y r) : ∀ x ∈ L, sumB n x ≠ sumB n y := fun x hx e => by
  obtain ⟨i, hi, rfl⟩ := List.mem_iff_getElem.1 hx
  rcases Nat.lt_trichotomy i r with q | q | q
  · have := hp.lo i q
    rw [nx_get hi, e, lessB_irrefl] at this
    cases this
  · subst q
    exact ht ⟨hi, by rw [nx_get hi]; exact e⟩
  · have h1 : Lt1 (sumB n) L[r] L[i] := List.pairwise_iff_getElem.1 hL r i (by omega) hi q
    have h2 := hp.hi (by omega)
    rw [nx_get (by omega)] at h2
    unfold Lt1 at h1
    rw [e, h2] at h1
    cases h1
theorem PlT.ins {n : Nat} {L : List ByteArray} {y : ByteArray} {r : Nat} (hL : So (sumB n) L) (hp : PlT n L (sumB n y) r) (ht : ¬ There n L y r) : So (sumB n) (insX L y r) ∧ (∀ x, x ∈ insX L y r ↔ x ∈ L ∨ x = y) ∧ (insX L y r).length = L.length + 1 := by
  have hn := hp.none hL ht
  have hlo : ∀ x ∈ L.take r, Lt1 (sumB n) x y := fun x hx => by
    obtain ⟨i, hi, rfl⟩ := List.mem_iff_getElem.1 hx
    rw [List.length_take] at hi
    rw [List.getElem_take]
    have := hp.lo i (by omega)
    rw [nx_get (by omega)] at this
    exact this
  have hhi : ∀ z ∈ L.drop r, Lt1 (sumB n) y z := fun z hz => by
    have hzL := List.mem_of_mem_drop hz
    obtain ⟨i, hi, rfl⟩ := List.mem_iff_getElem.1 hz
    rw [List.length_drop] at hi
    rw [List.getElem_drop] at hzL ⊢
    refine Lt1.tot ?_ (hn _ hzL)
    have h2 := hp.hi (by omega)
    rw [nx_get (by omega)] at h2
    rcases Nat.eq_zero_or_pos i with q | q
    · subst q; exact h2
    · have h1 : Lt1 (sumB n) L[r] L[r + i] := List.pairwise_iff_getElem.1 hL r (r + i) (by omega) (by omega) (by omega)
      cases hb : lessB (sumB n L[r + i]) (sumB n y) with
      | false => rfl
      | true => have := lessB_trans h1 hb; rw [h2] at this; cases this
  have hL' := hL
  rw [← List.take_append_drop r L] at hL'
  obtain ⟨p1, p2, p3⟩ := List.pairwise_append.1 hL'
  refine ⟨?_, fun x => ?_, insX_length _ _ _ hp.le⟩
  · unfold insX
    refine List.pairwise_append.2 ⟨List.pairwise_append.2 ⟨p1, List.pairwise_singleton _ _, fun a ha b hb => ?_⟩, p2, fun a ha b hb => ?_⟩
    · rw [List.mem_singleton] at hb; subst hb; exact hlo a ha
    · rcases List.mem_append.1 ha with q | q
      · exact p3 a q b hb
      · rw [List.mem_singleton] at q; subst q; exact hhi b hb
  · unfold insX
    rw [List.mem_append, List.mem_append, List.mem_singleton]
    constructor
    · rintro ((q | q) | q)
      · exact Or.inl (List.mem_of_mem_take q)
      · exact Or.inr q
      · exact Or.inl (List.mem_of_mem_drop q)
    · rintro (q | q)
      · rw [← List.take_append_drop r L] at q
        rcases List.mem_append.1 q with p | p
        · exact Or.inl (Or.inl p)
        · exact Or.inr p
      · exact Or.inl (Or.inr q)
/-- A put, and what it makes of where the puts stand. -/
theorem PutAt.step {n k r : Nat} {A B L L' : List ByteArray} {full : Bool} {cd : Int} {X Y : ByteArray} (h : PutAt (sumB n) A B k full L) (hB : So (sumB n) B) (hk : k < B.length) (hp : PlT n L (sumB n B[k]) r) (hr : PutR n L B[k] r cd L' X Y) :
    (cd = 2 ∧ ClashAt (sumB n) A B X Y) ∨ ((cd = 0 ∨ cd = 3) ∧ PutAt (sumB n) A B (k + 1) (full || (cd == 3)) L') := by
  rcases hr with ⟨h1, h2, rfl, rfl, rfl, rfl⟩ | ⟨h1, h2, rfl, rfl, _, _⟩ | ⟨h1, h2, rfl, rfl, _, _⟩ | ⟨h1, h2, rfl, rfl, _, _⟩
  · left
    refine ⟨rfl, h.clash hB hk ?_ h1.2 h2⟩
    rw [nx_get h1.1]; exact List.getElem_mem _
  · right
    refine ⟨Or.inl rfl, ?_⟩
    have : B[k] ∈ L' := by rw [← h2, nx_get h1.1]; exact List.getElem_mem _
    simpa using h.same hB hk this
  · right
    refine ⟨Or.inr rfl, ?_⟩
    simpa using h.refused hk (hp.none h.so h1) h2
  · right
    obtain ⟨q1, q2, q3⟩ := hp.ins h.so h1
    refine ⟨Or.inl rfl, ?_⟩
    simpa using h.put hk (hp.none h.so h1) h2 q1 q2 q3

theorem those26 (qa : Option Addr) (len qc bp : Nat) (w : World) : Calls Tryz.prog 26 #[.slice qa len qc, .func (.func 27) #[] #[.pointer (some ⟨bp, 0, none⟩)]] w fun e w' =>
    e = .returned (.func (.func 46) #[] #[.pointer (some ⟨w.heap.size, 0, none⟩), .pointer (some ⟨w.heap.size + 1, 0, none⟩)]) ∧ Below w.heap.size w w' ∧ w'.heap.size = w.heap.size + 2 ∧
      w'.heap[w.heap.size]? = some (.cells #[.slice qa len qc] 27 (0, 0)) ∧ w'.heap[w.heap.size + 1]? = some (.cells #[.func (.func 27) #[] #[.pointer (some ⟨bp, 0, none⟩)]] 71 (0, 0)) := by
  refine calls_of_wp Tryz.func26 rfl ?_
  go_wp2
  refine bodyPost_ret (v := .func (.func 46) #[] #[.pointer (some ⟨w.heap.size, 0, none⟩), .pointer (some ⟨w.heap.size + 1, 0, none⟩)]) (by simp [results, Tryz.results26, go_sem]) rfl ⟨rfl, ((Below.refl _ w).alloc (Nat.le_refl _) _).alloc (by simp) _, by simp, ?_, ?_⟩
  · exact (Below.heap_alloc _ _ _ (by simp)).trans (World.alloc_heap_new w _)
  · have h := World.alloc_heap_new (w.alloc (.cells #[.slice qa len qc] 27)) (.cells #[.func (.func 27) #[] #[.pointer (some ⟨bp, 0, none⟩)]] 71)
    simpa using h

theorem implVStore_any (n : Int) (ta ra : Option Addr) (tc rc : Nat) (ts : List ByteArray) (rs : List T3) (w : World) (hT : Tab w) (h : StIn w ta ts ra rs) :
    Calls Tryz.prog 23 #[.agg #[.int .i64 n, .slice ta ts.length tc, .slice ra rs.length rc]] w fun e w' => Below w.heap.size w w' ∧ ∃ b, e = .returned (.bool b) ∧ (b = true ↔ WdOk n ts rs) := by
  have hb0 : Below w.heap.size w (w.alloc (.cells #[.int .i64 n, .slice ta ts.length tc, .slice ra rs.length rc] 29)) := (Below.refl _ _).alloc (Nat.le_refl _) _
  have HS := hid (shelfWith_any n ta ra tc rc ts rs _ (hT.below hb0) (h.below hb0))
  clear h hT
  refine calls_of_wp Tryz.func23 rfl ?_
  go_wp2_with fail
  refine HS.out.mono ?_
  rintro e w' ⟨hb, (⟨h1, v, rfl⟩ | ⟨h1, g, sg, rfl, _⟩)⟩
  · go_wp2
    exact bodyPost_ret (v := .bool false) (by simp [results, Tryz.results23, go_sem]) rfl ⟨hb0.trans (hb.mono (by simp)), false, rfl, by simp [h1]⟩
  · go_wp2
    exact bodyPost_ret (v := .bool true) (by simp [results, Tryz.results23, go_sem]) rfl ⟨hb0.trans (hb.mono (by simp)), true, rfl, by simp [h1]⟩
end Go.Proofs.YtllhbgmadiclcaaGreatDoor
namespace Go.Proofs.YtllhbgmadiclcaaGreatDoor
open Go.RowKit
set_option linter.unusedVariables false

theorem So.ins1 {s : ByteArray → ByteArray} {y : ByteArray} : ∀ {l : List ByteArray}, So s l → (∀ x ∈ l, s x ≠ s y) → ∃ l', So s l' ∧ ∀ x, x ∈ l' ↔ x ∈ l ∨ x = y
  | [], _, _ => ⟨[y], List.pairwise_singleton _ _, fun x => by simp⟩
  | a :: l, h, hn => by
    obtain ⟨h1, h2⟩ := List.pairwise_cons.1 h
    cases hb : lessB (s y) (s a) with
    | true =>
      refine ⟨y :: a :: l, List.pairwise_cons.2 ⟨fun z hz => ?_, h⟩, fun x => by simp [or_comm]⟩
      rcases List.mem_cons.1 hz with q | q
      · subst q; exact hb
      · exact Lt1.trans (s := s) hb (h1 z q)
    | false =>
      have hay : Lt1 s a y := Lt1.tot hb (fun e => hn a (by simp) e.symm)
      obtain ⟨l', k1, k2⟩ := So.ins1 h2 (fun x hx => hn x (by simp [hx]))
      refine ⟨a :: l', List.pairwise_cons.2 ⟨fun z hz => ?_, k1⟩, fun x => by simp [k2, or_assoc]⟩
      rcases (k2 z).1 hz with q | q
      · exact h1 z q
      · subst q; exact hay
theorem Uni.exists {s : ByteArray → ByteArray} {A : List ByteArray} (hA : So s A) : ∀ {B : List ByteArray}, So s B → (∀ y ∈ B, NoC s A y) → ∃ U, Uni s A B U
  | [], _, _ => ⟨A, hA, fun x => by simp⟩
  | y :: B, hB, hn => by
    obtain ⟨h1, h2⟩ := List.pairwise_cons.1 hB
    obtain ⟨U, hU⟩ := Uni.exists hA h2 (fun z hz => hn z (by simp [hz]))
    by_cases hy : y ∈ U
    · refine ⟨U, hU.so, fun x => ?_⟩
      rw [hU.mem, List.mem_cons]
      constructor
      · rintro (q | q)
        · exact Or.inl q
        · exact Or.inr (Or.inr q)
      · rintro (q | q | q)
        · exact Or.inl q
        · subst q; exact (hU.mem x).1 hy
        · exact Or.inr q
    · obtain ⟨U', k1, k2⟩ := So.ins1 (y := y) hU.so (fun x hx e => by
        rcases (hU.mem x).1 hx with q | q
        · have := hn y (by simp) x q e
          subst this; exact hy hx
        · exact Lt1.ne (h1 x q) e.symm)
      refine ⟨U', k1, fun x => ?_⟩
      rw [k2, hU.mem, List.mem_cons]
      constructor
      · rintro ((q | q) | q)
        · exact Or.inl q
        · exact Or.inr (Or.inr q)
        · exact Or.inr (Or.inl q)
      · rintro (q | q | q)
        · exact Or.inl (Or.inl q)
        · exact Or.inr q
        · exact Or.inl (Or.inr q)
open Classical in
theorem comI_newR (ra rb : List T3) : ∀ k, k ≤ rb.length → (comI rb.length (fun i => decide (qx rb i ∉ ra)) k).map (fun i => qx rb i.1) = newR ra (rb.take k)
  | 0, _ => by simp [comI, newR]
  | k + 1, hk => by
    have hlt : k < rb.length := by omega
    have ih := comI_newR ra rb k (by omega)
    by_cases h : qx rb k ∈ ra
    · rw [comI_no (by simp [h]), ih, newR_in hlt (by rw [← qx_get hlt]; exact h)]
    · rw [comI_yes hlt (by simp [h]), List.map_append, ih, newR_out hlt (by rw [← qx_get hlt]; exact h), ← qx_get hlt]
      rfl
open Classical in
theorem comI_all (ra rb : List T3) : (comI rb.length (fun i => decide (qx rb i ∉ ra)) rb.length).map (fun i => qx rb i.1) = newR ra rb := by
  rw [comI_newR ra rb rb.length (Nat.le_refl _), List.take_length]
theorem below_putO {B D : Nat} {w W : World} (h : Below B w W) (hD : B ≤ D) (o : Obj) : Below B w (W.putObj D o) := ⟨h.os, h.tape, h.output, by simpa [World.putObj] using h.size, fun k hk => (World.putObj_heap_other (by omega)).trans (h.block k hk)⟩
theorem blk_set6 {w : World} {P T : Nat} {x1 x2 x3 x4 x5 x6 : Value} (h : w.heap[P]? = some (.cells #[x1, x2, x3, x4, x5, x6] T (0, 0))) (u1 u2 u3 u4 u5 u6 : Value) : ((((((w.setCell ⟨P, 0, none⟩ u1).setCell ⟨P, 1, none⟩ u2).setCell ⟨P, 2, none⟩ u3).setCell ⟨P, 3, none⟩ u4).setCell ⟨P, 4, none⟩ u5).setCell ⟨P, 5, none⟩ u6).heap[P]? = some (.cells #[u1, u2, u3, u4, u5, u6] T (0, 0)) := by
  rw [Joins.block_setCell (Joins.block_setCell (Joins.block_setCell (Joins.block_setCell (Joins.block_setCell (Joins.block_setCell h u1) u2) u3) u4) u5) u6]
  rfl
theorem KmOut.put {lo D : Nat} {w : World} {e : Ending} {n m : Int} {A B : List ByteArray} {ra rb : List T3} {o o' : Obj} (h : KmOut lo w e n A ra m B rb) (hD : w.heap[D]? = some o) (ho : o.isCells = false) : KmOut lo (w.putObj D o') e n A ra m B rb := by
  obtain ⟨cd, wd, ts', rs', X, Y, v1, v2, h1, h2, h3, h4⟩ := h
  have hk : CellsSame w (w.putObj D o') := fun b cs T fr hc => World.putObj_heap_other (fun e => by
    subst e
    rw [hc] at hD
    cases hD
    simp [Obj.isCells] at ho)
  have hs : (w.putObj D o').heap.size = w.heap.size := by simp [World.putObj]
  exact ⟨cd, wd, ts', rs', X, Y, v1, v2, h1, h2, by rw [hs]; exact RowO.cellsSame h3 hk, by rw [hs]; exact h4.cellsSame hk⟩
/-- Merge's end: the result is laid in its block, the mark is taken. -/
theorem endM {n : Nat} {W' : World} {B D : Nat} {t : Array Value} {u1 u2 u3 u4 u5 u6 : Value} {x1 x2 x3 x4 x5 x6 : Value} {Q : Ending → World → Prop} (hR : W'.heap[B]? = some (.cells #[x1, x2, x3, x4, x5, x6] 31 (0, 0))) (hD : W'.heap[D]? = some (.deferred (some []))) (hne : D ≠ B)
    (hres : ∀ W : World, W.heap[B]? = some (.cells #[u1, u2, u3, u4, u5, u6] 31 (0, 0)) → (results Tryz.f7 t).run Tryz.prog W = .ok (.agg #[u1, u2, u3, u4, u5, u6]) W)
    (hQ : ∀ W : World, W = (((((W'.setCell ⟨B, 0, none⟩ u1).setCell ⟨B, 1, none⟩ u2).setCell ⟨B, 2, none⟩ u3).setCell ⟨B, 3, none⟩ u4).setCell ⟨B, 4, none⟩ u5).setCell ⟨B, 5, none⟩ u6 → W.heap[D]? = some (.deferred (some [])) → Q (.returned (.agg #[u1, u2, u3, u4, u5, u6])) (W.putObj D (.deferred none))) :
    bodyPostM Fence.wide n Tryz.prog Tryz.f7 Q .ret { tmps := t, defers := [{ target := .collected D, args := #[] }] } ((((((W'.setCell ⟨B, 0, none⟩ u1).setCell ⟨B, 1, none⟩ u2).setCell ⟨B, 2, none⟩ u3).setCell ⟨B, 3, none⟩ u4).setCell ⟨B, 4, none⟩ u5).setCell ⟨B, 5, none⟩ u6) := by
  have h1 := blk_set6 hR u1 u2 u3 u4 u5 u6
  have h2 := (set6_ne' (w := W') hne u1 u2 u3 u4 u5 u6).trans hD
  exact ⟨by simp, .inl ⟨_, _, rfl, run_takeDeferred h2, ⟨_, hres _ ((World.putObj_heap_other (Ne.symm hne)).trans h1), hQ _ rfl h2⟩⟩⟩
end Go.Proofs.YtllhbgmadiclcaaGreatDoor
