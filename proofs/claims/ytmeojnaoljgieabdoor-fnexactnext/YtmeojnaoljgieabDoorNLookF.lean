/-
  spec.l2Look: a reply to OpHas.
-/
import Derived.Test.YtmeojnaoljgieabDoorNLookS
import Derived.Deep.AppendLies
import Derived.Deep.RegionHeld3
import Derived.Deep.RegionLaw
namespace Go.Proofs.YtmeojnaoljgieabDoor
open Go.RowKit Go.Deep
set_option linter.unusedVariables false

theorem keep_grownD {w w2 : World} {o : Obj} {ob : Option Nat} (hgrow : (w.alloc o).drew.grownBy w2 ob) (HO : ∀ (b : Nat) (cs : Array Value) (T : Nat), T ≠ 9 → w.heap[b]? = some (.cells cs T (0, 0)) → some b ≠ ob) : ∀ (b : Nat) (cs : Array Value) (T : Nat), T ≠ 9 → w.heap[b]? = some (.cells cs T (0, 0)) → w2.heap[b]? = some (.cells cs T (0, 0)) := by
  intro b cs T hT hb
  have hl := blk_lt hb
  rw [hgrow.block b (by simp; omega) (HO b cs T hT hb)]
  exact (Lib.alloc_old w o b hl).trans hb

/-- The call of l2Flag at a step of a region. -/
theorem step_flag {x : Operand} {W : World} {ops : Array Oper} {o : Oper} {a : Act} {K : Act → World → Prop} {Q : Exit → Act → World → Prop} {E : Prop} (hgd : o.guard = none)
    (ho : o.op = .call { callee := .value (.func 93), args := #[x], argTypes := #[4] }) (b : Bool) (f : ByteArray) (hf : flagB b = f) (hx : a.eval x = .bool b) (h : K (a.put o.dst (.string f)) W) :
    if Region.wanted o (yielded ops a.tmps) = true then Oper.wp Tryd.prog o a W K Q else E := by
  have hw : Region.wanted o (yielded ops a.tmps) = true := by simp [Region.wanted, hgd]
  have hrun : (execOp a.eval o).run Tryd.prog W = .ok (.enter 93 #[.bool b]) W := by
    unfold execOp
    rw [ho]
    simp [go_sem]
    cases x with
    | tmp t => simpa [Act.eval] using hx
    | const v => simpa [Act.eval] using hx
    | «global» g => simp [Act.eval] at hx
    | func f => simp [Act.eval] at hx
  rw [if_pos hw]
  unfold Oper.wp
  rw [hrun, Oper.upon_enter]
  refine (l2Flag_any b W).mono ?_
  rintro e w' ⟨rfl, rfl⟩
  rw [hf]
  exact h

/-- An append of one text at a step of a region. -/
theorem step_appS {s x : Operand} {W : World} {ops : Array Oper} {o : Oper} {a : Act} {K : Act → World → Prop} {Q : Exit → Act → World → Prop} {E : Prop} (hgd : o.guard = none)
    (ho : o.op = .call { callee := .builtin .append, args := #[s, x], argTypes := #[83, 83] }) (B : Nat) (sa : Option Addr) (nn cap : Nat) (xs : List Value)
    (hs : a.eval s = .slice sa nn cap) (hown : W.ownsRow B 9 1 (.slice sa nn cap) nn xs) (d : Nat) (tx : ByteArray) (hx : a.eval x = .slice (some ⟨d, 0, none⟩) 1 1) (hc : W.cell? ⟨d, 0, none⟩ = some (.string tx)) (hB : B ≤ W.heap.size) (hn : nn ≤ 50)
    (h : ∀ g' cap' w', w'.ownsRow B 9 1 (.slice (some ⟨g', 0, none⟩) (nn + 1) cap') (nn + 1) (xs ++ [.string tx]) → W.grownBy w' (Value.slice sa nn cap).ownBlock → K (a.put o.dst (.slice (some ⟨g', 0, none⟩) (nn + 1) cap')) w') :
    if Region.wanted o (yielded ops a.tmps) = true then Oper.wp Tryd.prog o a W K Q else E := by
  obtain ⟨i0, hi, hz0, hz1, hz2⟩ := info_parts Tryd.info9b
  refine step_append_lies (w := W) hgd s x 83 ho B 9 i0 (.string ⟨#[]⟩) 1 16 Tryd.underlying83 hi hz0 hz1 hz2 rfl (by decide) _ nn xs hs hown ⟨d, 0, none⟩ 1 1 [.string tx] hx rfl
    (fun j u hu => by
      have hj : j = 0 := by rcases j with _ | j; rfl; simp at hu
      subst hj
      rw [Addr.add_lit, Nat.zero_add]
      simp at hu; subst hu; exact hc) (by intro u hu; simp at hu; subst hu; rfl) (by omega) (by unfold maxLen; omega) (by omega) hB W.heap.size rfl ?_
  intro g' cap' w' h1 h2 h3 h4
  exact h g' cap' w' h1 h2

variable (B : Nat) (o : Nat) (t : ByteArray) (n : Nat) (pl : Nat) (sa : Option Addr) (cp : Nat) (stack : List ByteArray) (st lk : Nat) (nm place : ByteArray) (ra : Option Addr) (rcap : Nat) (ys : List R3) (w : World)

set_option maxRecDepth 100000 in
set_option maxHeartbeats 4000000 in
theorem look_flag (hB : B ≤ w.heap.size) (hnm : nm.size ≤ 2000) (hpl : pl ≤ 201) (hst : st ≤ 2000) (hlk : lk ≤ 200) (hn : NameOk nm) (hl : lk ≠ 200) (hy : lk < ys.length) (hyl : ys.length ≤ 200) (hr : RowR w ra ys) (hown : Own B w sa cp stack) (h50 : stack.length < 50) :
    Calls Tryd.prog 75 #[.agg #[.int .i64 13, .string t, .int .i64 n], runV pl (.slice sa stack.length cp) st lk, .string nm, .string place, .slice ra ys.length rcap] w fun e w' => Below B w w' ∧ ∃ a' cp', e = .returned (runV pl (.slice a' (stack.length + 1) cp') st ((lk : Int) + 1)) ∧ Own B w' a' cp' (stack ++ [flagB (rx ys lk).has]) := by
  have hnb := nameB_true hn
  have d1 : ((lk : Int) == 200) = false := by simp; omega
  have hyI : (lk : Int) < (ys.length : Int) := by omega
  obtain ⟨b, off, rfl, e1, e2, e3⟩ := hr lk hy
  generalize rx ys lk = y at *
  clear hr hn hl
  have hal : ∀ (x y z : Obj) (p : Addr) (v : Value), w.cell? p = some v → (((w.alloc x).alloc y).alloc z).cell? p = some v := fun x y z p v h => by
    have hb := World.block_lt_of_cell? _ _ h
    rw [World.cell?_alloc_lt _ _ _ (by simp; omega), World.cell?_alloc_lt _ _ _ (by simp; omega), World.cell?_alloc_lt _ _ _ hb]; exact h
  have a1 := fun x y z => hal x y z _ _ e1
  have a2 := fun x y z => hal x y z _ _ e2
  have a3 := fun x y z => hal x y z _ _ e3
  clear hal
  have hb0 : Below w.heap.size w ((((w.alloc (.cells #[.int .i64 13, .string t, .int .i64 n] 61)).alloc (.cells #[.int .i64 pl, .slice sa stack.length cp, .int .i64 st, .int .i64 ((lk : Int) + 1), .bool false, .int .i64 0, .string ⟨#[]⟩, .bool false, .string ⟨#[]⟩, .bool false] 96)).alloc (.cells #[.int .i64 0, .slice none 0 0, .int .i64 0, .int .i64 0, .bool false, .int .i64 0, .string ⟨#[]⟩, .bool false, .string ⟨#[]⟩, .bool false] 96)).alloc (.cells #[.bool y.has, .int .i64 y.code, .string y.text] 94)) := ((((Below.refl _ _).alloc (Nat.le_refl _) _).alloc (by simp) _).alloc (by simp; omega) _).alloc (by simp; omega) _
  have hR2 : B ≤ w.heap.size + 1 + 1 := by omega
  have hR1 : B ≤ w.heap.size + 1 := by omega
  have hz := blk4 w (.cells #[.int .i64 13, .string t, .int .i64 n] 61) (.cells #[.int .i64 pl, .slice sa stack.length cp, .int .i64 st, .int .i64 ((lk : Int) + 1), .bool false, .int .i64 0, .string ⟨#[]⟩, .bool false, .string ⟨#[]⟩, .bool false] 96) (.cells #[.int .i64 0, .slice none 0 0, .int .i64 0, .int .i64 0, .bool false, .int .i64 0, .string ⟨#[]⟩, .bool false, .string ⟨#[]⟩, .bool false] 96) (.cells #[.bool y.has, .int .i64 y.code, .string y.text] 94)
  have hzr : ((((w.alloc (.cells #[.int .i64 13, .string t, .int .i64 n] 61)).alloc (.cells #[.int .i64 pl, .slice sa stack.length cp, .int .i64 st, .int .i64 ((lk : Int) + 1), .bool false, .int .i64 0, .string ⟨#[]⟩, .bool false, .string ⟨#[]⟩, .bool false] 96)).alloc (.cells #[.int .i64 0, .slice none 0 0, .int .i64 0, .int .i64 0, .bool false, .int .i64 0, .string ⟨#[]⟩, .bool false, .string ⟨#[]⟩, .bool false] 96)).alloc (.cells #[.bool y.has, .int .i64 y.code, .string y.text] 94)).heap[w.heap.size + 1 + 1 + 1]? = some (.cells #[.bool y.has, .int .i64 y.code, .string y.text] 94 (0, 0)) := by
    have h := heap_new (((w.alloc (.cells #[.int .i64 13, .string t, .int .i64 n] 61)).alloc (.cells #[.int .i64 pl, .slice sa stack.length cp, .int .i64 st, .int .i64 ((lk : Int) + 1), .bool false, .int .i64 0, .string ⟨#[]⟩, .bool false, .string ⟨#[]⟩, .bool false] 96)).alloc (.cells #[.int .i64 0, .slice none 0 0, .int .i64 0, .int .i64 0, .bool false, .int .i64 0, .string ⟨#[]⟩, .bool false, .string ⟨#[]⟩, .bool false] 96)) (.cells #[.bool y.has, .int .i64 y.code, .string y.text] 94)
    rw [show (((w.alloc (.cells #[.int .i64 13, .string t, .int .i64 n] 61)).alloc (.cells #[.int .i64 pl, .slice sa stack.length cp, .int .i64 st, .int .i64 ((lk : Int) + 1), .bool false, .int .i64 0, .string ⟨#[]⟩, .bool false, .string ⟨#[]⟩, .bool false] 96)).alloc (.cells #[.int .i64 0, .slice none 0 0, .int .i64 0, .int .i64 0, .bool false, .int .i64 0, .string ⟨#[]⟩, .bool false, .string ⟨#[]⟩, .bool false] 96)).heap.size = w.heap.size + 1 + 1 + 1 from by simp] at h
    exact h
  obtain ⟨f, ef⟩ : ∃ f, flagB y.has = f := ⟨_, rfl⟩
  have EF : Hid (flagB y.has = f) := ef
  clear ef
  have hown5 := ((((hown.alloc (.cells #[.int .i64 13, .string t, .int .i64 n] 61)).alloc (.cells #[.int .i64 pl, .slice sa stack.length cp, .int .i64 st, .int .i64 ((lk : Int) + 1), .bool false, .int .i64 0, .string ⟨#[]⟩, .bool false, .string ⟨#[]⟩, .bool false] 96)).alloc (.cells #[.int .i64 0, .slice none 0 0, .int .i64 0, .int .i64 0, .bool false, .int .i64 0, .string ⟨#[]⟩, .bool false, .string ⟨#[]⟩, .bool false] 96)).alloc (.cells #[.bool y.has, .int .i64 y.code, .string y.text] 94)).alloc (.cells #[.string f] 9)
  unfold Own at hown
  unfold runV
  go_enter Tryd.func75, Tryd.ntmps75
  go_wp2_with (first | (go_at_call 34; refine (l2NameOk_any nm _ (by omega)).mono ?_; rintro e w9 ⟨rfl, rfl⟩))
  go_region_law (first | (refine step_flag rfl rfl y.has f EF.out ?_ ?_; (focus (simp [Act.eval]; done))) | (refine step_appS rfl rfl B sa stack.length cp (strV stack) ?_ ?_ (w.heap.size + 1 + 1 + 1 + 1) f ?_ ?_ ?_ ?_ ?_; (focus (simp [Act.eval]; done)); (focus (exact hown5)); (focus (simp [Act.eval]; done)); (focus (simp [go_sem]; done)); (focus (simp; omega)); (focus omega); intro g' cap2 w2 hown' hgrow; have hq1 : w2.heap[w.heap.size + 1]? = some (.cells #[.int .i64 pl, .slice sa stack.length cp, .int .i64 st, .int .i64 ((lk : Int) + 1), .bool false, .int .i64 0, .string ⟨#[]⟩, .bool false, .string ⟨#[]⟩, .bool false] 96 (0, 0)) := (by first | exact keep_grown hgrow (fun b' cs' T' hT' hb' => cells_ne hT' (by rw [Lib.alloc_old _ _ _ (blk_lt hb')]; exact hb') hown5) _ _ 96 (by decide) hz.2 | exact keep_grownD hgrow (fun b' cs' T' hT' hb' => cells_ne hT' (by rw [Lib.alloc_old _ _ _ (blk_lt hb')]; exact hb') hown5) _ _ 96 (by decide) hz.2); have hq2 : w2.heap[w.heap.size + 1 + 1]? = some (.cells #[.int .i64 0, .slice none 0 0, .int .i64 0, .int .i64 0, .bool false, .int .i64 0, .string ⟨#[]⟩, .bool false, .string ⟨#[]⟩, .bool false] 96 (0, 0)) := (by first | exact keep_grown hgrow (fun b' cs' T' hT' hb' => cells_ne hT' (by rw [Lib.alloc_old _ _ _ (blk_lt hb')]; exact hb') hown5) _ _ 96 (by decide) hz.1 | exact keep_grownD hgrow (fun b' cs' T' hT' hb' => cells_ne hT' (by rw [Lib.alloc_old _ _ _ (blk_lt hb')]; exact hb') hown5) _ _ 96 (by decide) hz.1); have hbB : Below B w w2 := (by first | exact ((hb0.mono hB).drew.alloc (by simp; omega) _).grown hgrow (by simp; omega) (fun k hk => (hown.lt k hk).1) | exact ((hb0.mono hB).alloc (by simp; omega) _).drew.grown hgrow (by simp; omega) (fun k hk => (hown.lt k hk).1));  have k0 := Lib.cell_of_heap hq2 0; have k1 := Lib.cell_of_heap hq2 1; have k2 := Lib.cell_of_heap hq2 2; have k3 := Lib.cell_of_heap hq2 3; have k4 := Lib.cell_of_heap hq2 4; have k5 := Lib.cell_of_heap hq2 5; have k6 := Lib.cell_of_heap hq2 6; have k7 := Lib.cell_of_heap hq2 7; have k8 := Lib.cell_of_heap hq2 8; have k9 := Lib.cell_of_heap hq2 9; simp only [List.getElem?_toArray, List.getElem?_cons_zero, List.getElem?_cons_succ] at k0 k1 k2 k3 k4 k5 k6 k7 k8 k9; have m0 := Lib.cell_of_heap hq1 0; have m1 := Lib.cell_of_heap hq1 1; have m2 := Lib.cell_of_heap hq1 2; have m3 := Lib.cell_of_heap hq1 3; have m4 := Lib.cell_of_heap hq1 4; have m5 := Lib.cell_of_heap hq1 5; have m6 := Lib.cell_of_heap hq1 6; have m7 := Lib.cell_of_heap hq1 7; have m8 := Lib.cell_of_heap hq1 8; have m9 := Lib.cell_of_heap hq1 9; simp only [List.getElem?_toArray, List.getElem?_cons_zero, List.getElem?_cons_succ] at m0 m1 m2 m3 m4 m5 m6 m7 m8 m9; have f0 : ∀ j, w2.frozen? ⟨w.heap.size + 1 + 1, j, none⟩ = false := (fun j => Lib.frozen_of_heap hq2 j); have f1 : ∀ j, w2.frozen? ⟨w.heap.size + 1, j, none⟩ = false := (fun j => Lib.frozen_of_heap hq1 j); have HQ1 : Hid (w2.heap[w.heap.size + 1]? = some (.cells #[.int .i64 pl, .slice sa stack.length cp, .int .i64 st, .int .i64 ((lk : Int) + 1), .bool false, .int .i64 0, .string ⟨#[]⟩, .bool false, .string ⟨#[]⟩, .bool false] 96 (0, 0))) := hq1; have HQ2 : Hid (w2.heap[w.heap.size + 1 + 1]? = some (.cells #[.int .i64 0, .slice none 0 0, .int .i64 0, .int .i64 0, .bool false, .int .i64 0, .string ⟨#[]⟩, .bool false, .string ⟨#[]⟩, .bool false] 96 (0, 0))) := hq2; have HOW : Hid (w2.ownsRow B 9 1 (.slice (some ⟨g', 0, none⟩) (stack.length + 1) cap2) (stack.length + 1) (strV stack ++ [.string f])) := hown'; clear hown' hgrow a1 a2 a3))
  all_goals
    go_wp2_with fail
    refine bodyPost_ret (v := runV pl (.slice (some ⟨g', 0, none⟩) (stack.length + 1) cap2) st ((lk : Int) + 1)) (by simp [results, Tryd.results75, go_sem, runV, k0, k1, k2, k3, k4, k5, k6, k7, k8, k9]) rfl ⟨((((((((((hbB.setCell (p := ⟨w.heap.size + 1, 1, none⟩) hR1 _).setCell (p := ⟨w.heap.size + 1 + 1, 0, none⟩) hR2 _).setCell (p := ⟨w.heap.size + 1 + 1, 1, none⟩) hR2 _).setCell (p := ⟨w.heap.size + 1 + 1, 2, none⟩) hR2 _).setCell (p := ⟨w.heap.size + 1 + 1, 3, none⟩) hR2 _).setCell (p := ⟨w.heap.size + 1 + 1, 4, none⟩) hR2 _).setCell (p := ⟨w.heap.size + 1 + 1, 5, none⟩) hR2 _).setCell (p := ⟨w.heap.size + 1 + 1, 6, none⟩) hR2 _).setCell (p := ⟨w.heap.size + 1 + 1, 7, none⟩) hR2 _).setCell (p := ⟨w.heap.size + 1 + 1, 8, none⟩) hR2 _).setCell (p := ⟨w.heap.size + 1 + 1, 9, none⟩) hR2 _, _, _, rfl, ?_⟩
    have h1 := own96 ⟨HOW.out, _, HQ1.out⟩ 1 (.slice (some ⟨g', 0, none⟩) (stack.length + 1) cap2)
    have h2 : ∃ cs, (w2.setCell ⟨w.heap.size + 1, 1, none⟩ (.slice (some ⟨g', 0, none⟩) (stack.length + 1) cap2)).heap[w.heap.size + 1 + 1]? = some (.cells cs 96 (0, 0)) := ⟨_, by rw [Below.heap_setCell w2 ⟨w.heap.size + 1, 1, none⟩ _ _ (by simp)]; exact HQ2.out⟩
    have e : strV (stack ++ [flagB y.has]) = strV stack ++ [.string f] := by rw [EF.out]; simp [strV]
    unfold Own
    rw [e, List.length_append, List.length_singleton]
    exact ((own96 (own96 (own96 (own96 (own96 (own96 (own96 (own96 (own96 (own96 ⟨h1.1, h2⟩ 0 _) 1 _) 2 _) 3 _) 4 _) 5 _) 6 _) 7 _) 8 _) 9 _)).1

end Go.Proofs.YtmeojnaoljgieabDoor
