import Derived.Test.YtllhbgmadiclcaaGreatDoorMgL
namespace Go.Proofs.YtllhbgmadiclcaaGreatDoor
open Go.RowKit
set_option linter.unusedVariables false

set_option maxRecDepth 100000 in
set_option maxHeartbeats 8000000 in
theorem mergeBody {lo m1 m2 mc bp Bl Bs R po g n : Nat} {sv tv : Value} {ss ts : List ByteArray} {ra rb : List T3} {w₀ w1 : World} (l n' rv cc lb lf lc : Nat) (ca : Option Addr) (r : T3) (pre : List (At rb.length)) (x : At rb.length) (W : World) (t0 t1 t2 t3 t4 t6 t7 t8 t9 t10 t11 t13 t14 t15 t16 t17 t18 t19 t20 t21 t22 t23 t24 t25 t26 t27 t28 t29 t30 t31 t32 t33 t34 t35 t36 t37 t38 t39 t40 t41 t42 t43 t44 t45 t46 t47 t48 t49 t50 t51 t52 t53 t54 t55 t56 t57 t58 t59 t60 t61 t62 t63 t64 t65 t66 t67 t68 t69 t70 t71 t72 t73 t74 t75 t76 t77 t78 t79 t80 t81 t82 t83 t84 t85 t86 t87 t88 t89 t90 : Value)
    (hI : IMg lo m1 m2 mc bp Bl Bs R po g n sv tv ss ts ra rb w₀ w1 pre W) (hlo : lo ≤ w1.heap.size) (hgl : lo ≤ g) (hrl : lo ≤ rv) (hr : qx rb x.1 = r) (hrv : W.heap[rv]? = some (.cells #[.slice ca r.code.length cc, .slice (some ⟨lb, lf, none⟩) r.looks.length lc, .string r.out] 50 (0, 0))) (hrq : ∃ qv, W.cell? ⟨g, 2, none⟩ = some qv ∧ qv.ownBlock ≠ some rv)
    (r3 : Row3 W ca r.code) (rg : RowG W (some ⟨lb, lf, none⟩) r.looks) (c1 : 1 ≤ r.code.length) (c2 : r.code.length ≤ 10000) (c3 : r.looks.length ≤ 10000) (hpl : ra.length + pre.length ≤ 1048576)
    (hfx : ∀ k, k = mc ∨ k = bp ∨ k = Bl ∨ k = Bs → k < w1.heap.size ∧ k ≠ g ∧ ∀ cs T fr, w1.heap[k]? = some (Obj.cells cs T fr) → T ≠ 50) :
    (Code.block 3 (Code.region 16 #[{ dst := some 62, op := Op.load 54 (Operand.tmp 5), type := 54, pos := "l6_keep.go:70", after := #[], guard := none }, { dst := some 63, op := Op.load 54 (Operand.tmp 5), type := 54, pos := "l6_keep.go:70", after := #[], guard := none }, { dst := some 64, op := Op.nilCheck (Operand.tmp 63), type := 0, pos := "l6_keep.go:70", after := #[{ on := 1, ground := Ground.data }], guard := none }, { dst := some 65, op := Op.fieldAddr 73 (Operand.tmp 64) 0, type := 0, pos := "l6_keep.go:70", after := #[{ on := 2, ground := Ground.data }], guard := none }, { dst := some 66, op := Op.fieldAddr 29 (Operand.tmp 65) 2, type := 0, pos := "l6_keep.go:70", after := #[{ on := 3, ground := Ground.data }], guard := none }, { dst := some 67, op := Op.load 27 (Operand.tmp 66), type := 27, pos := "l6_keep.go:70", after := #[{ on := 4, ground := Ground.data }], guard := none }, { dst := some 68, op := Op.load 50 (Operand.tmp 12), type := 50, pos := "l6_keep.go:70", after := #[], guard := none }, { dst := some 69, op := Op.call { callee := Callee.value (Operand.func 29), args := #[Operand.tmp 68], argTypes := #[50] }, type := 50, pos := "l6_keep.go:70", after := #[{ on := 6, ground := Ground.data }], guard := none }, { dst := some 70, op := Op.buildSlice 27 1 #[(0, Operand.tmp 69)], type := 27, pos := "l6_keep.go:70", after := #[{ on := 7, ground := Ground.data }], guard := none }, { dst := some 71, op := Op.call { callee := Callee.builtin Builtin.append, args := #[Operand.tmp 67, Operand.tmp 70], argTypes := #[27, 27] }, type := 27, pos := "l6_keep.go:70", after := #[{ on := 5, ground := Ground.data }, { on := 8, ground := Ground.data }, { on := 7, ground := Ground.chain }], guard := none }, { dst := some 72, op := Op.nilCheck (Operand.tmp 62), type := 0, pos := "l6_keep.go:70", after := #[{ on := 0, ground := Ground.data }, { on := 0, ground := Ground.phase }, { on := 1, ground := Ground.phase }, { on := 2, ground := Ground.phase }, { on := 3, ground := Ground.phase }, { on := 4, ground := Ground.phase }, { on := 5, ground := Ground.phase }, { on := 6, ground := Ground.phase }, { on := 7, ground := Ground.phase }, { on := 8, ground := Ground.phase }, { on := 9, ground := Ground.phase }], guard := none }, { dst := some 73, op := Op.fieldAddr 73 (Operand.tmp 72) 0, type := 0, pos := "l6_keep.go:70", after := #[{ on := 10, ground := Ground.data }, { on := 0, ground := Ground.phase }, { on := 1, ground := Ground.phase }, { on := 2, ground := Ground.phase }, { on := 3, ground := Ground.phase }, { on := 4, ground := Ground.phase }, { on := 5, ground := Ground.phase }, { on := 6, ground := Ground.phase }, { on := 7, ground := Ground.phase }, { on := 8, ground := Ground.phase }, { on := 9, ground := Ground.phase }], guard := none }, { dst := some 74, op := Op.fieldAddr 29 (Operand.tmp 73) 2, type := 0, pos := "l6_keep.go:70", after := #[{ on := 11, ground := Ground.data }, { on := 0, ground := Ground.phase }, { on := 1, ground := Ground.phase }, { on := 2, ground := Ground.phase }, { on := 3, ground := Ground.phase }, { on := 4, ground := Ground.phase }, { on := 5, ground := Ground.phase }, { on := 6, ground := Ground.phase }, { on := 7, ground := Ground.phase }, { on := 8, ground := Ground.phase }, { on := 9, ground := Ground.phase }], guard := none }, { dst := none, op := Op.store 27 (Operand.tmp 74) (Operand.tmp 71), type := 0, pos := "l6_keep.go:70", after := #[{ on := 12, ground := Ground.data }, { on := 9, ground := Ground.data }, { on := 9, ground := Ground.chain }, { on := 0, ground := Ground.phase }, { on := 1, ground := Ground.phase }, { on := 2, ground := Ground.phase }, { on := 3, ground := Ground.phase }, { on := 4, ground := Ground.phase }, { on := 5, ground := Ground.phase }, { on := 6, ground := Ground.phase }, { on := 7, ground := Ground.phase }, { on := 8, ground := Ground.phase }, { on := 9, ground := Ground.phase }], guard := none }] true)).wpIn (Fence.wide.inRound l) n' Tryz.prog (ownPostG w1.heap.size (KpM lo m1 m2 mc bp Bl Bs) (IMg lo m1 m2 mc bp Bl Bs R po g n sv tv ss ts ra rb w₀ w1) (fun _ _ _ => False) (pre ++ [x]) W) { tmps := #[t0, t1, t2, t3, t4, (.pointer (some ⟨po, 0, none⟩)), t6, t7, t8, t9, t10, t11, (.pointer (some ⟨rv, 0, none⟩)), t13, t14, t15, t16, t17, t18, t19, t20, t21, t22, t23, t24, t25, t26, t27, t28, t29, t30, t31, t32, t33, t34, t35, t36, t37, t38, t39, t40, t41, t42, t43, t44, t45, t46, t47, t48, t49, t50, t51, t52, t53, t54, t55, t56, t57, t58, t59, t60, t61, t62, t63, t64, t65, t66, t67, t68, t69, t70, t71, t72, t73, t74, t75, t76, t77, t78, t79, t80, t81, t82, t83, t84, t85, t86, t87, t88, t89, t90], defers := [] } W := by
  refine wpIn_block ?_
  obtain ⟨qv, hs⟩ := hI.sh
  obtain ⟨xs, cv, lv, ho⟩ := hs.qs
  obtain ⟨g0, g1, g2, g3, gf⟩ := blk_c4 hs.blk
  obtain ⟨qv', hq1, hq2⟩ := hrq
  obtain rfl : qv = qv' := by rw [g2] at hq1; exact Option.some.inj hq1
  have hpo := hI.po
  have hp0 : W.cell? ⟨po, 0, none⟩ = some (.pointer (some ⟨g, 0, none⟩)) := by rw [Lib.cell_of_heap hpo]; rfl
  have hpl' := (Array.getElem?_eq_some_iff.1 hpo).1
  have hgl' := (Array.getElem?_eq_some_iff.1 hs.blk).1
  have hrl' := (Array.getElem?_eq_some_iff.1 hrv).1
  have hown : W.ownsRow lo 50 3 qv (ra ++ pre.map fun i => qx rb i.1).length xs := ho.row.own
  have hqg : qv.ownBlock ≠ some g := HasT.ne (T := 73) ⟨_, hs.blk⟩ hown (by decide)
  have hqp : qv.ownBlock ≠ some po := HasT.ne (T := 54) ⟨_, hpo⟩ hown (by decide)
  have hqR : qv.ownBlock ≠ some R := HasT.ne (T := 31) ⟨_, hI.R⟩ hown (by decide)
  have hLen : (ra ++ pre.map fun i => qx rb i.1).length ≤ 1048576 := by simpa using hpl
  have hloW : lo ≤ W.heap.size := by omega
  refine Lt.beginIn 13 (fun w' => w'.cell? ⟨po, 0, none⟩ = some (.pointer (some ⟨g, 0, none⟩)) ∧ w'.cell? ⟨g, 2, none⟩ = some qv ∧ w'.cell? ⟨rv, 0, none⟩ = some (.slice ca r.code.length cc) ∧ w'.cell? ⟨rv, 1, none⟩ = some (.slice (some ⟨lb, lf, none⟩) r.looks.length lc) ∧ w'.cell? ⟨rv, 2, none⟩ = some (.string r.out)) (by kernel_rfl) (by kernel_rfl) (by rintro ⟨a, w, h⟩; exact h) ?_
  have hS0 : (fun w' => w'.cell? ⟨po, 0, none⟩ = some (.pointer (some ⟨g, 0, none⟩)) ∧ w'.cell? ⟨g, 2, none⟩ = some qv ∧ w'.cell? ⟨rv, 0, none⟩ = some (.slice ca r.code.length cc) ∧ w'.cell? ⟨rv, 1, none⟩ = some (.slice (some ⟨lb, lf, none⟩) r.looks.length lc) ∧ w'.cell? ⟨rv, 2, none⟩ = some (.string r.out)) W.drew := ⟨hp0, g2, (blk_c3 hrv).1, (blk_c3 hrv).2.1, (blk_c3 hrv).2.2⟩
  have HCP : Hid (Calls Tryz.prog 29 #[.agg #[.slice ca r.code.length cc, .slice (some ⟨lb, lf, none⟩) r.looks.length lc, .string r.out]] W.drew fun e w' => Below W.drew.heap.size W.drew w' ∧ RecOut W.drew.heap.size w' e r.code r.looks r.out) := copyRecord_any ca cc lb lf lc r.code r.looks r.out W.drew r3 rg c1 (by omega) (by omega)
  have HIN : Hid (IMg lo m1 m2 mc bp Bl Bs R po g n sv tv ss ts ra rb w₀ w1 pre W) := hI
  have HSH : Hid (ShG W g lo W.heap.size n sv tv qv ss ts (ra ++ pre.map fun i => qx rb i.1)) := hs
  have HO : Hid (OwnQ1 W lo W.heap.size qv (ra ++ pre.map fun i => qx rb i.1) xs cv lv) := ho
  have HRV : Hid (W.heap[rv]? = some (.cells #[.slice ca r.code.length cc, .slice (some ⟨lb, lf, none⟩) r.looks.length lc, .string r.out] 50 (0, 0))) := hrv
  have HOWN : Hid (W.ownsRow lo 50 3 qv (ra ++ pre.map fun i => qx rb i.1).length xs) := hown
  clear hI hs ho hrv hown hq1 r3 rg g0 g1 g3 gf
  refine Lt.take (i := 0) (oi := { dst := some 62, op := Op.load 54 (Operand.tmp 5), type := 54, pos := "l6_keep.go:70", after := #[], guard := none }) (v := ?_) rfl (by kernel_rfl) (by kernel_rfl) (by kernel_rfl) (by kernel_rfl) (fun _ _ _ h => h) hS0 (Or.inl ⟨by rfl, ?_⟩) ?_
  rotate_left 1
  · rintro w ⟨s1, s2, s3, s4, s5⟩
    go_simp
    first | done | with_reducible rfl
  simp only [Act.put, List.setIfInBounds_toArray, List.set_cons_zero, List.set_cons_succ]
  refine Lt.take (i := 1) (oi := { dst := some 63, op := Op.load 54 (Operand.tmp 5), type := 54, pos := "l6_keep.go:70", after := #[], guard := none }) (v := ?_) rfl (by kernel_rfl) (by kernel_rfl) (by kernel_rfl) (by kernel_rfl) (fun _ _ _ h => h) hS0 (Or.inl ⟨by rfl, ?_⟩) ?_
  rotate_left 1
  · rintro w ⟨s1, s2, s3, s4, s5⟩
    go_simp
    first | done | with_reducible rfl
  simp only [Act.put, List.setIfInBounds_toArray, List.set_cons_zero, List.set_cons_succ]
  refine Lt.take (i := 2) (oi := { dst := some 64, op := Op.nilCheck (Operand.tmp 63), type := 0, pos := "l6_keep.go:70", after := #[{ on := 1, ground := Ground.data }], guard := none }) (v := ?_) rfl (by kernel_rfl) (by kernel_rfl) (by kernel_rfl) (by kernel_rfl) (fun _ _ _ h => h) hS0 (Or.inl ⟨by rfl, ?_⟩) ?_
  rotate_left 1
  · rintro w ⟨s1, s2, s3, s4, s5⟩
    go_simp
    first | done | with_reducible rfl
  simp only [Act.put, List.setIfInBounds_toArray, List.set_cons_zero, List.set_cons_succ]
  refine Lt.take (i := 3) (oi := { dst := some 65, op := Op.fieldAddr 73 (Operand.tmp 64) 0, type := 0, pos := "l6_keep.go:70", after := #[{ on := 2, ground := Ground.data }], guard := none }) (v := ?_) rfl (by kernel_rfl) (by kernel_rfl) (by kernel_rfl) (by kernel_rfl) (fun _ _ _ h => h) hS0 (Or.inl ⟨by rfl, ?_⟩) ?_
  rotate_left 1
  · rintro w ⟨s1, s2, s3, s4, s5⟩
    go_simp
    first | done | with_reducible rfl
  simp only [Act.put, List.setIfInBounds_toArray, List.set_cons_zero, List.set_cons_succ]
  refine Lt.take (i := 4) (oi := { dst := some 66, op := Op.fieldAddr 29 (Operand.tmp 65) 2, type := 0, pos := "l6_keep.go:70", after := #[{ on := 3, ground := Ground.data }], guard := none }) (v := ?_) rfl (by kernel_rfl) (by kernel_rfl) (by kernel_rfl) (by kernel_rfl) (fun _ _ _ h => h) hS0 (Or.inl ⟨by rfl, ?_⟩) ?_
  rotate_left 1
  · rintro w ⟨s1, s2, s3, s4, s5⟩
    go_simp
    first | done | with_reducible rfl
  simp only [Act.put, List.setIfInBounds_toArray, List.set_cons_zero, List.set_cons_succ]
  refine Lt.take (i := 5) (oi := { dst := some 67, op := Op.load 27 (Operand.tmp 66), type := 27, pos := "l6_keep.go:70", after := #[{ on := 4, ground := Ground.data }], guard := none }) (v := ?_) rfl (by kernel_rfl) (by kernel_rfl) (by kernel_rfl) (by kernel_rfl) (fun _ _ _ h => h) hS0 (Or.inl ⟨by rfl, ?_⟩) ?_
  rotate_left 1
  · rintro w ⟨s1, s2, s3, s4, s5⟩
    go_simp
    first | done | with_reducible rfl
  simp only [Act.put, List.setIfInBounds_toArray, List.set_cons_zero, List.set_cons_succ]
  refine Lt.take (i := 6) (oi := { dst := some 68, op := Op.load 50 (Operand.tmp 12), type := 50, pos := "l6_keep.go:70", after := #[], guard := none }) (v := ?_) rfl (by kernel_rfl) (by kernel_rfl) (by kernel_rfl) (by kernel_rfl) (fun _ _ _ h => h) hS0 (Or.inl ⟨by rfl, ?_⟩) ?_
  rotate_left 1
  · rintro w ⟨s1, s2, s3, s4, s5⟩
    go_simp
    first | done | with_reducible rfl
  simp only [Act.put, List.setIfInBounds_toArray, List.set_cons_zero, List.set_cons_succ]
  refine Lt.step (i := 7) (o := { dst := some 69, op := Op.call { callee := Callee.value (Operand.func 29), args := #[Operand.tmp 68], argTypes := #[50] }, type := 50, pos := "l6_keep.go:70", after := #[{ on := 6, ground := Ground.data }], guard := none }) (by kernel_rfl) rfl (fun K hK => ?_)
  go_simp
  refine HCP.out.mono ?_
  rintro e w6 ⟨hb6, gc, cpc, gd, cpd, rfl, hoc, hod⟩
  have hb7 : Below W.heap.size W w6 := ⟨hb6.os, hb6.tape, hb6.output, hb6.size, hb6.block⟩
  have HOC : Hid (w6.ownsRow W.heap.size 98 3 (.slice (some ⟨gc, 0, none⟩) r.code.length cpc) r.code.length (insV r.code)) := hoc
  have HOD : Hid (w6.ownsRow W.heap.size 90 3 (.slice (some ⟨gd, 0, none⟩) r.looks.length cpd) r.looks.length (gloV r.looks)) := hod
  have hs6 := hb7.size
  refine hK.out _ _ (fun _ => ⟨cell_below hb7 hS0.1, cell_below hb7 hS0.2.1, cell_below hb7 hS0.2.2.1, cell_below hb7 hS0.2.2.2.1, cell_below hb7 hS0.2.2.2.2⟩) (fun hS6 => ?_)
  replace hS6 := hS6 (by decide)
  clear hK K hS0 hb6 hoc hod HCP hp0 g2
  refine Lt.step (i := 8) (o := { dst := some 70, op := Op.buildSlice 27 1 #[(0, Operand.tmp 69)], type := 27, pos := "l6_keep.go:70", after := #[{ on := 7, ground := Ground.data }], guard := none }) (by kernel_rfl) rfl (fun K hK => ?_)
  go_simp
  refine hK.out _ _ (fun _ => ⟨cellW hS6.1, cellW hS6.2.1, cellW hS6.2.2.1, cellW hS6.2.2.2.1, cellW hS6.2.2.2.2⟩) (fun hS8 => ?_)
  replace hS8 := hS8 (by decide)
  clear hK K hS6
  refine Lt.step (i := 9) (o := { dst := some 71, op := Op.call { callee := Callee.builtin Builtin.append, args := #[Operand.tmp 67, Operand.tmp 70], argTypes := #[27, 27] }, type := 27, pos := "l6_keep.go:70", after := #[{ on := 5, ground := Ground.data }, { on := 8, ground := Ground.data }, { on := 7, ground := Ground.chain }], guard := none }) (by kernel_rfl) rfl (fun K hK => ?_)
  refine step_appQ rfl (by rfl) lo qv _ xs (by rfl) ((ownsRow_below HOWN.out hb7).alloc _) w6.heap.size (.slice (some ⟨gc, 0, none⟩) r.code.length cpc) (.slice (some ⟨gd, 0, none⟩) r.looks.length cpd) r.out rfl rfl (by rfl) (heapW_new _ _) (by simp; omega) hLen ?_
  intro g' cap' w7 hown7 hgrow
  have hb8 : Below W.heap.size W (w6.alloc (.cells #[.slice (some ⟨gc, 0, none⟩) r.code.length cpc, .slice (some ⟨gd, 0, none⟩) r.looks.length cpd, .string r.out] 50)) := hb7.alloc (by omega) _
  have kb : ∀ b, b < W.heap.size → qv.ownBlock ≠ some b → w7.heap[b]? = W.heap[b]? := fun b hb hq => (hgrow.block b (by simp; omega) (fun e => hq e.symm)).trans (hb8.block b hb)
  have x0 : w7.cell? ⟨po, 0, none⟩ = some (.pointer (some ⟨g, 0, none⟩)) := by rw [hgrow.cell_far ⟨po, 0, none⟩ (by simp; omega) (fun e => hqp e.symm)]; exact hS8.1
  have x1 : w7.cell? ⟨g, 2, none⟩ = some qv := by rw [hgrow.cell_far ⟨g, 2, none⟩ (by simp; omega) (fun e => hqg e.symm)]; exact hS8.2.1
  have x2 : w7.cell? ⟨rv, 0, none⟩ = some (.slice ca r.code.length cc) := by rw [hgrow.cell_far ⟨rv, 0, none⟩ (by simp; omega) (fun e => hq2 e.symm)]; exact hS8.2.2.1
  have x3 : w7.cell? ⟨rv, 1, none⟩ = some (.slice (some ⟨lb, lf, none⟩) r.looks.length lc) := by rw [hgrow.cell_far ⟨rv, 1, none⟩ (by simp; omega) (fun e => hq2 e.symm)]; exact hS8.2.2.2.1
  have x4 : w7.cell? ⟨rv, 2, none⟩ = some (.string r.out) := by rw [hgrow.cell_far ⟨rv, 2, none⟩ (by simp; omega) (fun e => hq2 e.symm)]; exact hS8.2.2.2.2
  have HKB := hid kb
  have HB8 := hid hb8
  have HG := hid hgrow
  have HOWN7 := hid hown7
  have hs7 : W.heap.size ≤ w7.heap.size := by have := hgrow.size; simp at this; omega
  have hgb : w7.heap[g]? = some (.cells #[.int .i64 (n : Int), tv, qv, sv] 73 (0, 0)) := (kb g hgl' hqg).trans HSH.out.blk
  have fz : w7.frozen? ⟨g, 2, none⟩ = false := Lib.frozen_of_heap hgb 2
  have HGB := hid hgb
  refine hK.out _ _ (fun _ => ⟨x0, x1, x2, x3, x4⟩) (fun _ => ?_)
  have hS9 : (fun w' => w'.cell? ⟨po, 0, none⟩ = some (.pointer (some ⟨g, 0, none⟩)) ∧ w'.cell? ⟨g, 2, none⟩ = some qv ∧ w'.cell? ⟨rv, 0, none⟩ = some (.slice ca r.code.length cc) ∧ w'.cell? ⟨rv, 1, none⟩ = some (.slice (some ⟨lb, lf, none⟩) r.looks.length lc) ∧ w'.cell? ⟨rv, 2, none⟩ = some (.string r.out)) w7 := ⟨x0, x1, x2, x3, x4⟩
  clear hK K hS8 hgrow hown7 hb7 hb8 kb hgb x2 x3 x4
  refine Lt.step (i := 10) (o := { dst := some 72, op := Op.nilCheck (Operand.tmp 62), type := 0, pos := "l6_keep.go:70", after := #[{ on := 0, ground := Ground.data }, { on := 0, ground := Ground.phase }, { on := 1, ground := Ground.phase }, { on := 2, ground := Ground.phase }, { on := 3, ground := Ground.phase }, { on := 4, ground := Ground.phase }, { on := 5, ground := Ground.phase }, { on := 6, ground := Ground.phase }, { on := 7, ground := Ground.phase }, { on := 8, ground := Ground.phase }, { on := 9, ground := Ground.phase }], guard := none }) (by kernel_rfl) rfl (fun K hK => ?_)
  go_simp
  refine hK.out _ _ (fun _ => hS9) (fun _ => ?_)
  clear hK K
  refine Lt.step (i := 11) (o := { dst := some 73, op := Op.fieldAddr 73 (Operand.tmp 72) 0, type := 0, pos := "l6_keep.go:70", after := #[{ on := 10, ground := Ground.data }, { on := 0, ground := Ground.phase }, { on := 1, ground := Ground.phase }, { on := 2, ground := Ground.phase }, { on := 3, ground := Ground.phase }, { on := 4, ground := Ground.phase }, { on := 5, ground := Ground.phase }, { on := 6, ground := Ground.phase }, { on := 7, ground := Ground.phase }, { on := 8, ground := Ground.phase }, { on := 9, ground := Ground.phase }], guard := none }) (by kernel_rfl) rfl (fun K hK => ?_)
  go_simp
  refine hK.out _ _ (fun _ => hS9) (fun _ => ?_)
  clear hK K
  refine Lt.step (i := 12) (o := { dst := some 74, op := Op.fieldAddr 29 (Operand.tmp 73) 2, type := 0, pos := "l6_keep.go:70", after := #[{ on := 11, ground := Ground.data }, { on := 0, ground := Ground.phase }, { on := 1, ground := Ground.phase }, { on := 2, ground := Ground.phase }, { on := 3, ground := Ground.phase }, { on := 4, ground := Ground.phase }, { on := 5, ground := Ground.phase }, { on := 6, ground := Ground.phase }, { on := 7, ground := Ground.phase }, { on := 8, ground := Ground.phase }, { on := 9, ground := Ground.phase }], guard := none }) (by kernel_rfl) rfl (fun K hK => ?_)
  go_simp
  refine hK.out _ _ (fun _ => hS9) (fun _ => ?_)
  clear hK K
  refine Lt.step (i := 13) (o := { dst := none, op := Op.store 27 (Operand.tmp 74) (Operand.tmp 71), type := 0, pos := "l6_keep.go:70", after := #[{ on := 12, ground := Ground.data }, { on := 9, ground := Ground.data }, { on := 9, ground := Ground.chain }, { on := 0, ground := Ground.phase }, { on := 1, ground := Ground.phase }, { on := 2, ground := Ground.phase }, { on := 3, ground := Ground.phase }, { on := 4, ground := Ground.phase }, { on := 5, ground := Ground.phase }, { on := 6, ground := Ground.phase }, { on := 7, ground := Ground.phase }, { on := 8, ground := Ground.phase }, { on := 9, ground := Ground.phase }], guard := none }) (by kernel_rfl) rfl (fun K hK => ?_)
  go_simp
  refine hK.out _ _ (fun h => absurd rfl h) (fun _ => ?_)
  clear hK K
  refine Lt.done (by kernel_rfl) ?_ _
  rw [show ra.length + pre.length + 1 = (ra ++ pre.map fun i => qx rb i.1).length + 1 by simp]
  obtain ⟨nv, env⟩ : ∃ nv, Value.slice (some ⟨g', 0, none⟩) ((ra ++ pre.map fun i => qx rb i.1).length + 1) cap' = nv := ⟨_, rfl⟩
  have hown7 := HOWN7.out
  rw [env] at hown7 ⊢
  have hkk : ∀ k, k < W.heap.size → k ≠ g → qv.ownBlock ≠ some k → (w7.setCell ⟨g, 2, none⟩ nv).heap[k]? = W.heap[k]? := fun k hk hg hq => by rw [Below.heap_setCell _ _ _ _ (by dsimp only; omega)]; exact HKB.out k hk hq
  have hcl : ∀ k o, W.heap[k]? = some o → o.isCells = false → k ≠ g ∧ qv.ownBlock ≠ some k := fun k o hk hoc => ⟨fun e => by subst e; rw [HSH.out.blk] at hk; cases hk; simp [Obj.isCells] at hoc, fun e => by
    obtain ⟨cs, hc⟩ := own_cells HOWN.out e
    rw [hc] at hk; cases hk; simp [Obj.isCells] at hoc⟩
  have hrow9 : ∀ {hi : Nat} {v : Value} {us : List ByteArray}, OwnX W lo hi v us → OwnX (w7.setCell ⟨g, 2, none⟩ nv) lo hi v us := fun {hi v us} h => RowO.same h fun b eb => hkk b (h.own.lt b eb).2 (fun e => HasT.ne (T := 73) ⟨_, HSH.out.blk⟩ h.own (by decide) (e ▸ eb)) (fun e => neT h.own HOWN.out (by decide) b eb e)
  have hmp : ∀ k, IsMap W k → IsMap (w7.setCell ⟨g, 2, none⟩ nv) k ∧ (w7.setCell ⟨g, 2, none⟩ nv).heap[k]? = W.heap[k]? := fun k hm => by
    have hl := hm.lt
    obtain ⟨es, c, hm⟩ := hm
    obtain ⟨h1, h2⟩ := hcl k _ hm rfl
    exact ⟨⟨es, c, (hkk k hl h1 h2).trans hm⟩, hkk k hl h1 h2⟩
  have hfk : ∀ k, k = mc ∨ k = bp ∨ k = Bl ∨ k = Bs → (w7.setCell ⟨g, 2, none⟩ nv).heap[k]? = W.heap[k]? := fun k hk => by
    obtain ⟨f1, f2, f3⟩ := hfx k hk
    refine hkk k (Nat.lt_of_lt_of_le f1 HIN.out.size) f2 (fun e => ?_)
    obtain ⟨cs, hc⟩ := own_cells HOWN.out e
    rw [HIN.out.fx k hk] at hc
    exact f3 _ _ _ hc rfl
  have hsf : (w7.setCell ⟨g, 2, none⟩ nv).heap.size = w7.heap.size := by simp
  refine ⟨⟨by omega, fun k o hk1 hk2 hk3 => ?_⟩, ⟨by omega, fun k hk => ?_⟩, ?_⟩
  · obtain ⟨h1, h2⟩ := hcl k o hk2 hk3
    exact (hkk k (Array.getElem?_eq_some_iff.1 hk2).1 h1 h2).trans hk2
  · rcases hk with (hk | hk) | hk | hk
    · exact hkk k (by omega) (by omega) (fun e => by have := (HOWN.out.lt k e).1; omega)
    · exact hfk k hk
    · rw [hk]; exact (hmp _ HIN.out.m1).2
    · rw [hk]; exact (hmp _ HIN.out.m2).2
  · have hbel : Below lo W (w7.setCell ⟨g, 2, none⟩ nv) := ((HB8.out.mono hloW).grown HG.out (by simp; omega) (fun m hm => by have := (HOWN.out.lt m hm).1; omega)).setCell (p := ⟨g, 2, none⟩) hgl _
    have hpush := HO.out.push HB8.out hloW (HOC.out.alloc _) (insV_filled _) (HOD.out.alloc _) (gloV_filled _) ⟨_, _, rfl⟩ HG.out hown7
    refine ⟨HIN.out.bel.trans hbel, by have := HIN.out.size; omega, ?_, (hkk po hpl' ?_ hqp).trans HIN.out.po, ⟨nv, ?_⟩, (hmp _ HIN.out.m1).1, (hmp _ HIN.out.m2).1, fun k hk => (hfk k hk).trans (HIN.out.fx k hk)⟩
    · refine (hkk R (Array.getElem?_eq_some_iff.1 HIN.out.R).1 (fun e => ?_) hqR).trans HIN.out.R
      have h1 := HIN.out.R
      rw [e, HSH.out.blk] at h1
      cases h1
    · intro e
      have h1 := HIN.out.po
      rw [e, HSH.out.blk] at h1
      cases h1
    · rw [List.map_append, List.map_cons, List.map_nil, hr, ← List.append_assoc, hsf]
      refine ⟨by rw [Joins.block_setCell HGB.out]; rfl, OwnX.wide (hrow9 HSH.out.sx) (Nat.le_refl _) hs7, OwnX.wide (hrow9 HSH.out.tx) (Nat.le_refl _) hs7, hpush.setT ⟨_, HGB.out⟩ (by decide) (by decide) (by decide) _, HSH.out.ne⟩
end Go.Proofs.YtllhbgmadiclcaaGreatDoor
