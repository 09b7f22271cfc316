import Derived.Test.YtbbfboikigmghaaGreatDoorNLookS
import Derived.Deep.AppendLies
import Derived.Deep.RegionHeld3
import Derived.Deep.RegionLaw
namespace Go.Proofs.YtbbfboikigmghaaGreatDoor
open Go.RowKit
set_option linter.unusedVariables false
set_option maxHeartbeats 32000000
set_option maxRecDepth 100000
section
open Go.Deep
theorem keep_grownD {w w2 : World} {o : Obj} {ob : Option Nat} (hgrow : (w.alloc o).drew.grownBy w2 ob) (HO : ∀ (b : Nat) (cs : Array Value) (T : Nat), T ≠ 9 -> w.heap[b]? = some (.cells cs T (0, 0)) -> some b ≠ ob) : ∀ (b : Nat) (cs : Array Value) (T : Nat), T ≠ 9 -> w.heap[b]? = some (.cells cs T (0, 0)) -> w2.heap[b]? = some (.cells cs T (0, 0)) := by
  intro b cs T hT hb
  have hl := blk_lt hb
  rw [hgrow.block b (by simp; omega) (HO b cs T hT hb)]
  exact (Lib.alloc_old w o b hl).trans hb
theorem step_flag {x : Operand} {W : World} {ops : Array Oper} {o : Oper} {a : Act} {K : Act -> World -> Prop} {Q : Exit -> Act -> World -> Prop} {E : Prop} (hgd : o.guard = none)
    (ho : o.op = .call { callee := .value (.func 105), args := #[x], argTypes := #[4] }) (b : Bool) (f : ByteArray) (hf : flagB b = f) (hx : a.eval x = .bool b) (h : K (a.put o.dst (.string f)) W) :
    if Region.wanted o (yielded ops a.tmps) = true then Oper.wp Tryz.prog o a W K Q else E := by
  have hw : Region.wanted o (yielded ops a.tmps) = true := by simp [Region.wanted, hgd]
  have hrun : (execOp a.eval o).run Tryz.prog W = .ok (.enter 105 #[.bool b]) W := by
    unfold execOp
    rw [ho]
    simp [go_sem]
    cases x with
    | tmp t => simpa [Act.eval] using hx
    | const v => simpa [Act.eval] using hx
    | «global» g => simp [Act.eval] at hx
    | func f => simp [Act.eval] at hx
  rw [if_pos hw]
  unfold Oper.wp
  rw [hrun, Oper.upon_enter]
  refine (l2Flag_any b W).mono ?_
  rintro e w' ⟨rfl, rfl⟩
  rw [hf]
  exact h
theorem step_appS {s x : Operand} {W : World} {ops : Array Oper} {o : Oper} {a : Act} {K : Act -> World -> Prop} {Q : Exit -> Act -> World -> Prop} {E : Prop} (hgd : o.guard = none)
    (ho : o.op = .call { callee := .builtin .append, args := #[s, x], argTypes := #[22, 22] }) (B : Nat) (sa : Option Addr) (nn cap : Nat) (xs : List Value)
    (hs : a.eval s = .slice sa nn cap) (hown : W.ownsRow B 9 1 (.slice sa nn cap) nn xs) (d : Nat) (tx : ByteArray) (hx : a.eval x = .slice (some ⟨d, 0, none⟩) 1 1) (hc : W.cell? ⟨d, 0, none⟩ = some (.string tx)) (hB : B <= W.heap.size) (hn : nn <= 50)
    (h : ∀ g' cap' w', w'.ownsRow B 9 1 (.slice (some ⟨g', 0, none⟩) (nn + 1) cap') (nn + 1) (xs ++ [.string tx]) -> W.grownBy w' (Value.slice sa nn cap).ownBlock -> K (a.put o.dst (.slice (some ⟨g', 0, none⟩) (nn + 1) cap')) w') :
    if Region.wanted o (yielded ops a.tmps) = true then Oper.wp Tryz.prog o a W K Q else E := by
  obtain ⟨i0, hi, hz0, hz1, hz2⟩ := info_parts Tryz.info9b
  refine step_append_lies (w := W) hgd s x 22 ho B 9 i0 (.string ⟨#[]⟩) 1 16 Tryz.underlying22 hi hz0 hz1 hz2 rfl (by decide) _ nn xs hs hown ⟨d, 0, none⟩ 1 1 [.string tx] hx rfl
    (fun j u hu => by
      have hj : j = 0 := by rcases j with _ | j; rfl; simp at hu
      subst hj
      rw [Addr.add_lit, Nat.zero_add]
      simp at hu; subst hu; exact hc) (by intro u hu; simp at hu; subst hu; rfl) (by omega) (by unfold maxLen; omega) (by omega) hB W.heap.size rfl ?_
  intro g' cap' w' h1 h2 h3 h4
  exact h g' cap' w' h1 h2
variable (B : Nat) (o : Nat) (t : ByteArray) (n : Nat) (pl : Nat) (sa : Option Addr) (cp : Nat) (stack : List ByteArray) (st lk : Nat) (nm place : ByteArray) (ra : Option Addr) (rcap : Nat) (ys : List R3) (w : World)
theorem look_flag (hB : B <= w.heap.size) (hnm : nm.size <= 2000) (hpl : pl <= 201) (hst : st <= 2000) (hlk : lk <= 200) (hn : NameOk nm) (hl : lk ≠ 200) (hy : lk < ys.length) (hyl : ys.length <= 200) (hr : RowR w ra ys) (hown : Own B w sa cp stack) (h50 : stack.length < 50) :
    Calls Tryz.prog 134 #[.agg #[.int .i64 13, .string t, .int .i64 n], runV pl (.slice sa stack.length cp) st lk, .string nm, .string place, .slice ra ys.length rcap] w fun e w' => Below B w w' /\ ∃ a' cp', e = .returned (runV pl (.slice a' (stack.length + 1) cp') st ((lk : Int) + 1)) /\ Own B w' a' cp' (stack ++ [flagB (rx ys lk).has]) := by
  have hnb := nameB_true hn
  have d1 : ((lk : Int) == 200) = false := by simp; omega
  have hyI : (lk : Int) < (ys.length : Int) := by omega
  obtain ⟨b, off, rfl, e1, e2, e3⟩ := hr lk hy
  generalize rx ys lk = y at *
  clear hr hn hl
  have hal : ∀ (x y z : Obj) (p : Addr) (v : Value), w.cell? p = some v -> (((w.alloc x).alloc y).alloc z).cell? p = some v := fun x y z p v h => by
    have hb := World.block_lt_of_cell? _ _ h
    rw [World.cell?_alloc_lt _ _ _ (by simp; omega), World.cell?_alloc_lt _ _ _ (by simp; omega), World.cell?_alloc_lt _ _ _ hb]; exact h
  have a1 := fun x y z => hal x y z _ _ e1
  have a2 := fun x y z => hal x y z _ _ e2
  have a3 := fun x y z => hal x y z _ _ e3
  clear hal
  have hb0 : Below w.heap.size w ((((w.alloc (.cells #[.int .i64 13, .string t, .int .i64 n] 138)).alloc (.cells #[.int .i64 pl, .slice sa stack.length cp, .int .i64 st, .int .i64 ((lk : Int) + 1), .bool false, .int .i64 0, .string ⟨#[]⟩, .bool false, .string ⟨#[]⟩, .bool false] 199)).alloc (.cells #[.int .i64 0, .slice none 0 0, .int .i64 0, .int .i64 0, .bool false, .int .i64 0, .string ⟨#[]⟩, .bool false, .string ⟨#[]⟩, .bool false] 199)).alloc (.cells #[.bool y.has, .int .i64 y.code, .string y.text] 170)) := ((((Below.refl _ _).alloc (Nat.le_refl _) _).alloc (by simp) _).alloc (by simp; omega) _).alloc (by simp; omega) _
  have hR2 : B <= w.heap.size + 1 + 1 := by omega
  have hR1 : B <= w.heap.size + 1 := by omega
  have hz := blk4 w (.cells #[.int .i64 13, .string t, .int .i64 n] 138) (.cells #[.int .i64 pl, .slice sa stack.length cp, .int .i64 st, .int .i64 ((lk : Int) + 1), .bool false, .int .i64 0, .string ⟨#[]⟩, .bool false, .string ⟨#[]⟩, .bool false] 199) (.cells #[.int .i64 0, .slice none 0 0, .int .i64 0, .int .i64 0, .bool false, .int .i64 0, .string ⟨#[]⟩, .bool false, .string ⟨#[]⟩, .bool false] 199) (.cells #[.bool y.has, .int .i64 y.code, .string y.text] 170)
  have hzr : ((((w.alloc (.cells #[.int .i64 13, .string t, .int .i64 n] 138)).alloc (.cells #[.int .i64 pl, .slice sa stack.length cp, .int .i64 st, .int .i64 ((lk : Int) + 1), .bool false, .int .i64 0, .string ⟨#[]⟩, .bool false, .string ⟨#[]⟩, .bool false] 199)).alloc (.cells #[.int .i64 0, .slice none 0 0, .int .i64 0, .int .i64 0, .bool false, .int .i64 0, .string ⟨#[]⟩, .bool false, .string ⟨#[]⟩, .bool false] 199)).alloc (.cells #[.bool y.has, .int .i64 y.code, .string y.text] 170)).heap[w.heap.size + 1 + 1 + 1]? = some (.cells #[.bool y.has, .int .i64 y.code, .string y.text] 170 (0, 0)) := by
    have h := heap_new (((w.alloc (.cells #[.int .i64 13, .string t, .int .i64 n] 138)).alloc (.cells #[.int .i64 pl, .slice sa stack.length cp, .int .i64 st, .int .i64 ((lk : Int) + 1), .bool false, .int .i64 0, .string ⟨#[]⟩, .bool false, .string ⟨#[]⟩, .bool false] 199)).alloc (.cells #[.int .i64 0, .slice none 0 0, .int .i64 0, .int .i64 0, .bool false, .int .i64 0, .string ⟨#[]⟩, .bool false, .string ⟨#[]⟩, .bool false] 199)) (.cells #[.bool y.has, .int .i64 y.code, .string y.text] 170)
    rw [show (((w.alloc (.cells #[.int .i64 13, .string t, .int .i64 n] 138)).alloc (.cells #[.int .i64 pl, .slice sa stack.length cp, .int .i64 st, .int .i64 ((lk : Int) + 1), .bool false, .int .i64 0, .string ⟨#[]⟩, .bool false, .string ⟨#[]⟩, .bool false] 199)).alloc (.cells #[.int .i64 0, .slice none 0 0, .int .i64 0, .int .i64 0, .bool false, .int .i64 0, .string ⟨#[]⟩, .bool false, .string ⟨#[]⟩, .bool false] 199)).heap.size = w.heap.size + 1 + 1 + 1 from by simp] at h
    exact h
  obtain ⟨f, ef⟩ : ∃ f, flagB y.has = f := ⟨_, rfl⟩
  have EF : Hid (flagB y.has = f) := ef
  clear ef
  have hown5 := ((((hown.alloc (.cells #[.int .i64 13, .string t, .int .i64 n] 138)).alloc (.cells #[.int .i64 pl, .slice sa stack.length cp, .int .i64 st, .int .i64 ((lk : Int) + 1), .bool false, .int .i64 0, .string ⟨#[]⟩, .bool false, .string ⟨#[]⟩, .bool false] 199)).alloc (.cells #[.int .i64 0, .slice none 0 0, .int .i64 0, .int .i64 0, .bool false, .int .i64 0, .string ⟨#[]⟩, .bool false, .string ⟨#[]⟩, .bool false] 199)).alloc (.cells #[.bool y.has, .int .i64 y.code, .string y.text] 170)).alloc (.cells #[.string f] 9)
  unfold Own at hown
  unfold runV
  go_enter Tryz.func134, Tryz.ntmps134
  go_wp2_with (first | (go_at_call 18; refine (l2NameOk_any nm _ (by omega)).mono ?_; rintro e w9 ⟨rfl, rfl⟩))
  go_region_law (first | (refine step_flag rfl rfl y.has f EF.out ?_ ?_; (focus (simp [Act.eval]; done))) | (refine step_appS rfl rfl B sa stack.length cp (strV stack) ?_ ?_ (w.heap.size + 1 + 1 + 1 + 1) f ?_ ?_ ?_ ?_ ?_; (focus (simp [Act.eval]; done)); (focus (exact hown5)); (focus (simp [Act.eval]; done)); (focus (simp [go_sem]; done)); (focus (simp; omega)); (focus omega); intro g' cap2 w2 hown' hgrow; have hq1 : w2.heap[w.heap.size + 1]? = some (.cells #[.int .i64 pl, .slice sa stack.length cp, .int .i64 st, .int .i64 ((lk : Int) + 1), .bool false, .int .i64 0, .string ⟨#[]⟩, .bool false, .string ⟨#[]⟩, .bool false] 199 (0, 0)) := (by first | exact keep_grown hgrow (fun b' cs' T' hT' hb' => cells_ne hT' (by rw [Lib.alloc_old _ _ _ (blk_lt hb')]; exact hb') hown5) _ _ 199 (by decide) hz.2 | exact keep_grownD hgrow (fun b' cs' T' hT' hb' => cells_ne hT' (by rw [Lib.alloc_old _ _ _ (blk_lt hb')]; exact hb') hown5) _ _ 199 (by decide) hz.2); have hq2 : w2.heap[w.heap.size + 1 + 1]? = some (.cells #[.int .i64 0, .slice none 0 0, .int .i64 0, .int .i64 0, .bool false, .int .i64 0, .string ⟨#[]⟩, .bool false, .string ⟨#[]⟩, .bool false] 199 (0, 0)) := (by first | exact keep_grown hgrow (fun b' cs' T' hT' hb' => cells_ne hT' (by rw [Lib.alloc_old _ _ _ (blk_lt hb')]; exact hb') hown5) _ _ 199 (by decide) hz.1 | exact keep_grownD hgrow (fun b' cs' T' hT' hb' => cells_ne hT' (by rw [Lib.alloc_old _ _ _ (blk_lt hb')]; exact hb') hown5) _ _ 199 (by decide) hz.1); have hbB : Below B w w2 := (by first | exact ((hb0.mono hB).drew.alloc (by simp; omega) _).grown hgrow (by simp; omega) (fun k hk => (hown.lt k hk).1) | exact ((hb0.mono hB).alloc (by simp; omega) _).drew.grown hgrow (by simp; omega) (fun k hk => (hown.lt k hk).1));  have k0 := Lib.cell_of_heap hq2 0; have k1 := Lib.cell_of_heap hq2 1; have k2 := Lib.cell_of_heap hq2 2; have k3 := Lib.cell_of_heap hq2 3; have k4 := Lib.cell_of_heap hq2 4; have k5 := Lib.cell_of_heap hq2 5; have k6 := Lib.cell_of_heap hq2 6; have k7 := Lib.cell_of_heap hq2 7; have k8 := Lib.cell_of_heap hq2 8; have k9 := Lib.cell_of_heap hq2 9; simp only [List.getElem?_toArray, List.getElem?_cons_zero, List.getElem?_cons_succ] at k0 k1 k2 k3 k4 k5 k6 k7 k8 k9; have m0 := Lib.cell_of_heap hq1 0; have m1 := Lib.cell_of_heap hq1 1; have m2 := Lib.cell_of_heap hq1 2; have m3 := Lib.cell_of_heap hq1 3; have m4 := Lib.cell_of_heap hq1 4; have m5 := Lib.cell_of_heap hq1 5; have m6 := Lib.cell_of_heap hq1 6; have m7 := Lib.cell_of_heap hq1 7; have m8 := Lib.cell_of_heap hq1 8; have m9 := Lib.cell_of_heap hq1 9; simp only [List.getElem?_toArray, List.getElem?_cons_zero, List.getElem?_cons_succ] at m0 m1 m2 m3 m4 m5 m6 m7 m8 m9; have f0 : ∀ j, w2.frozen? ⟨w.heap.size + 1 + 1, j, none⟩ = false := (fun j => Lib.frozen_of_heap hq2 j); have f1 : ∀ j, w2.frozen? ⟨w.heap.size + 1, j, none⟩ = false := (fun j => Lib.frozen_of_heap hq1 j); have HQ1 : Hid (w2.heap[w.heap.size + 1]? = some (.cells #[.int .i64 pl, .slice sa stack.length cp, .int .i64 st, .int .i64 ((lk : Int) + 1), .bool false, .int .i64 0, .string ⟨#[]⟩, .bool false, .string ⟨#[]⟩, .bool false] 199 (0, 0))) := hq1; have HQ2 : Hid (w2.heap[w.heap.size + 1 + 1]? = some (.cells #[.int .i64 0, .slice none 0 0, .int .i64 0, .int .i64 0, .bool false, .int .i64 0, .string ⟨#[]⟩, .bool false, .string ⟨#[]⟩, .bool false] 199 (0, 0))) := hq2; have HOW : Hid (w2.ownsRow B 9 1 (.slice (some ⟨g', 0, none⟩) (stack.length + 1) cap2) (stack.length + 1) (strV stack ++ [.string f])) := hown'; clear hown' hgrow a1 a2 a3))
  all_goals
    go_wp2_with fail
    refine bodyPost_ret (v := runV pl (.slice (some ⟨g', 0, none⟩) (stack.length + 1) cap2) st ((lk : Int) + 1)) (by simp [results, Tryz.results134, go_sem, runV, k0, k1, k2, k3, k4, k5, k6, k7, k8, k9]) rfl ⟨((((((((((hbB.setCell (p := ⟨w.heap.size + 1, 1, none⟩) hR1 _).setCell (p := ⟨w.heap.size + 1 + 1, 0, none⟩) hR2 _).setCell (p := ⟨w.heap.size + 1 + 1, 1, none⟩) hR2 _).setCell (p := ⟨w.heap.size + 1 + 1, 2, none⟩) hR2 _).setCell (p := ⟨w.heap.size + 1 + 1, 3, none⟩) hR2 _).setCell (p := ⟨w.heap.size + 1 + 1, 4, none⟩) hR2 _).setCell (p := ⟨w.heap.size + 1 + 1, 5, none⟩) hR2 _).setCell (p := ⟨w.heap.size + 1 + 1, 6, none⟩) hR2 _).setCell (p := ⟨w.heap.size + 1 + 1, 7, none⟩) hR2 _).setCell (p := ⟨w.heap.size + 1 + 1, 8, none⟩) hR2 _).setCell (p := ⟨w.heap.size + 1 + 1, 9, none⟩) hR2 _, _, _, rfl, ?_⟩
    have h1 := own96 ⟨HOW.out, _, HQ1.out⟩ 1 (.slice (some ⟨g', 0, none⟩) (stack.length + 1) cap2)
    have h2 : ∃ cs, (w2.setCell ⟨w.heap.size + 1, 1, none⟩ (.slice (some ⟨g', 0, none⟩) (stack.length + 1) cap2)).heap[w.heap.size + 1 + 1]? = some (.cells cs 199 (0, 0)) := ⟨_, by rw [Below.heap_setCell w2 ⟨w.heap.size + 1, 1, none⟩ _ _ (by simp)]; exact HQ2.out⟩
    have e : strV (stack ++ [flagB y.has]) = strV stack ++ [.string f] := by rw [EF.out]; simp [strV]
    unfold Own
    rw [e, List.length_append, List.length_singleton]
    exact ((own96 (own96 (own96 (own96 (own96 (own96 (own96 (own96 (own96 (own96 ⟨h1.1, h2⟩ 0 _) 1 _) 2 _) 3 _) 4 _) 5 _) 6 _) 7 _) 8 _) 9 _)).1
end
def StrA (w : World) (a : Option Addr) (ss : List ByteArray) : Prop := ∀ i, i < ss.length -> ∃ b off, a = some ⟨b, off, none⟩ /\ w.cell? ⟨b, off + i, none⟩ = some (.string (ss.getD i ByteArray.empty))
theorem StrA.below {w w' : World} {a : Option Addr} {ss : List ByteArray} (h : StrA w a ss) (hb : Below w.heap.size w w') : StrA w' a ss := by
  intro i hi
  obtain ⟨b, off, ha, hc⟩ := h i hi
  exact ⟨b, off, ha, cell_below hb hc⟩
def StepPost (B : Nat) (is : List I3) (ys : List R3) (s : St) (w' : World) (e : Ending) : Prop :=
  (∃ c t n, step0 is s = .over c t n /\ ∃ (pl : Int) (va : Option Addr) (vn vc : Nat) (lk : Int), e = .returned (overV pl (.slice va vn vc) n lk c t)) ∨
  (∃ s', step0 is s = .go s' /\ ∃ a' cp', e = .returned (runV s'.pl (.slice a' s'.stack.length cp') s'.steps s'.looks) /\ Own B w' a' cp' s'.stack) ∨
  (∃ ask nm s', step0 is s = .look ask nm s' /\ ys.length <= s.looks /\ ∃ (pl : Int) (va : Option Addr) (vn vc : Nat) (lk : Int), e = .returned (waitV pl (.slice va vn vc) s'.steps lk ask nm)) ∨
  (∃ ask nm s' s'', step0 is s = .look ask nm s' /\ s.looks < ys.length /\ ansP ask nm (rx ys s.looks) s' = .go s'' /\ ∃ a' cp', e = .returned (runV s''.pl (.slice a' s''.stack.length cp') s''.steps s''.looks) /\ Own B w' a' cp' s''.stack) ∨
  (∃ ask nm s' c t n, step0 is s = .look ask nm s' /\ s.looks < ys.length /\ ansP ask nm (rx ys s.looks) s' = .over c t n /\ ∃ (pl : Int) (va : Option Addr) (vn vc : Nat) (lk : Int), e = .returned (overV pl (.slice va vn vc) n lk c t))
theorem step_beyond (a : Option Addr) (cap : Nat) (is : List I3) (s : St) (sa : Option Addr) (cp : Nat) (ra : Option Addr) (rcap : Nat) (ys : List R3) (w : World) (hv : progOk is = true) (hs : StOk is s) (hpl : ¬ s.pl < is.length) :
    Calls Tryz.prog 119 #[.agg #[.slice a is.length cap], runV s.pl (.slice sa s.stack.length cp) s.steps s.looks, .slice ra ys.length rcap] w fun e w' => Below w.heap.size w w' /\ StepPost w.heap.size is ys s w' e := by
  have HST : Hid (step0 is s = .over 2 (decB s.pl) s.steps) := st_place hpl
  have hplI : (is.length : Int) <= (s.pl : Int) := by omega
  have hlen := prog_len hv
  have hp200 := hs.pl
  have hst := hs.steps
  have hlk := hs.looks
  have hln := hs.len
  have hb0 : Below w.heap.size w (((w.alloc (.cells #[.slice a is.length cap] 83)).alloc (.cells #[.int .i64 s.pl, .slice sa s.stack.length cp, .int .i64 s.steps, .int .i64 s.looks, .bool false, .int .i64 0, .string ⟨#[]⟩, .bool false, .string ⟨#[]⟩, .bool false] 199)).alloc (.cells #[.int .i64 0, .slice none 0 0, .int .i64 0, .int .i64 0, .bool false, .int .i64 0, .string ⟨#[]⟩, .bool false, .string ⟨#[]⟩, .bool false] 199)) := (((Below.refl _ _).alloc (Nat.le_refl _) _).alloc (by simp) _).alloc (by simp; omega) _
  have hR2 : w.heap.size <= w.heap.size + 1 + 1 := by omega
  have hR1 : w.heap.size <= w.heap.size + 1 := by omega
  obtain ⟨hz, hr, hc⟩ := blk3 w (.cells #[.slice a is.length cap] 83) (.cells #[.int .i64 s.pl, .slice sa s.stack.length cp, .int .i64 s.steps, .int .i64 s.looks, .bool false, .int .i64 0, .string ⟨#[]⟩, .bool false, .string ⟨#[]⟩, .bool false] 199) (.cells #[.int .i64 0, .slice none 0 0, .int .i64 0, .int .i64 0, .bool false, .int .i64 0, .string ⟨#[]⟩, .bool false, .string ⟨#[]⟩, .bool false] 199)
  obtain ⟨q, eq⟩ : ∃ q, decB s.pl = q := ⟨_, rfl⟩
  have EQ : Hid (decB s.pl = q) := eq
  have HD : Hid (∀ W : World, Calls Tryz.prog 68 #[.int .i64 s.pl] W fun e w' => e = .returned (.string q) /\ Below W.heap.size W w') := fun W => by rw [<- eq]; exact l2Dec_any s.pl W (by omega)
  clear eq
  unfold runV
  go_enter Tryz.func119, Tryz.ntmps119
  go_wp2_with fail
  refine (HD.out _).mono ?_
  rintro e w1 ⟨rfl, hb1⟩
  have hB1 : Below w.heap.size w w1 := bN hb0 hb1
  have hz1 := blkB hb1 hz
  have hr1 := blkB hb1 hr
  have hc1 := blkB hb1 hc
  have x0 : w1.cell? ⟨w.heap.size, 0, none⟩ = some (.slice a is.length cap) := by rw [Lib.cell_of_heap hc1]; rfl
  obtain ⟨r0, r1, r2, r3, r4, r5, r6, r7, r8, r9⟩ := c10 hr1
  have fr : ∀ j, w1.frozen? ⟨w.heap.size + 1, j, none⟩ = false := fun j => Lib.frozen_of_heap hr1 j
  clear hz hr hc hb0 hb1 HD
  rw [EQ.out] at HST
  go_wp2_with fail
  have hl := l2End_any s.pl sa s.stack.length cp s.steps s.looks 2 q
  unfold runV at hl
  refine (hl _).mono ?_
  rintro e w2 ⟨rfl, hb2⟩
  have hB2 : Below w.heap.size w w2 := bN hB1 hb2
  have hz2 := blkB hb2 hz1
  obtain ⟨z0, z1, z2, z3, z4, z5, z6, z7, z8, z9⟩ := c10 hz2
  have fz : ∀ j, w2.frozen? ⟨w.heap.size + 1 + 1, j, none⟩ = false := fun j => Lib.frozen_of_heap hz2 j
  clear hz2 hb2 hl
  unfold overV
  go_wp2_with fail
  exact bodyPost_ret (v := overV s.pl (.slice sa s.stack.length cp) s.steps s.looks 2 q) (by simp [results, Tryz.results119, go_sem, overV, z0, z1, z2, z3, z4, z5, z6, z7, z8, z9]) rfl ⟨((((((((((hB2).setCell (p := ⟨w.heap.size + 1 + 1, 0, none⟩) hR2 _).setCell (p := ⟨w.heap.size + 1 + 1, 1, none⟩) hR2 _).setCell (p := ⟨w.heap.size + 1 + 1, 2, none⟩) hR2 _).setCell (p := ⟨w.heap.size + 1 + 1, 3, none⟩) hR2 _).setCell (p := ⟨w.heap.size + 1 + 1, 4, none⟩) hR2 _).setCell (p := ⟨w.heap.size + 1 + 1, 5, none⟩) hR2 _).setCell (p := ⟨w.heap.size + 1 + 1, 6, none⟩) hR2 _).setCell (p := ⟨w.heap.size + 1 + 1, 7, none⟩) hR2 _).setCell (p := ⟨w.heap.size + 1 + 1, 8, none⟩) hR2 _).setCell (p := ⟨w.heap.size + 1 + 1, 9, none⟩) hR2 _, Or.inl ⟨2, q, s.steps, HST.out, _, _, _, _, _, rfl⟩⟩
theorem step_spent (a : Option Addr) (cap : Nat) (is : List I3) (s : St) (sa : Option Addr) (cp : Nat) (ra : Option Addr) (rcap : Nat) (ys : List R3) (w : World) (hv : progOk is = true) (hs : StOk is s) (hpl : s.pl < is.length) (hst2 : s.steps = 2000) :
    Calls Tryz.prog 119 #[.agg #[.slice a is.length cap], runV s.pl (.slice sa s.stack.length cp) s.steps s.looks, .slice ra ys.length rcap] w fun e w' => Below w.heap.size w w' /\ StepPost w.heap.size is ys s w' e := by
  have HST : Hid (step0 is s = .over 3 ⟨#[]⟩ s.steps) := st_spent hpl hst2
  have hplI : (s.pl : Int) < (is.length : Int) := by omega
  have hst3 : ((s.steps : Int) == 2000) = true := by simp; omega
  clear hst2
  have hlen := prog_len hv
  have hp200 := hs.pl
  have hst := hs.steps
  have hlk := hs.looks
  have hln := hs.len
  have hb0 : Below w.heap.size w (((w.alloc (.cells #[.slice a is.length cap] 83)).alloc (.cells #[.int .i64 s.pl, .slice sa s.stack.length cp, .int .i64 s.steps, .int .i64 s.looks, .bool false, .int .i64 0, .string ⟨#[]⟩, .bool false, .string ⟨#[]⟩, .bool false] 199)).alloc (.cells #[.int .i64 0, .slice none 0 0, .int .i64 0, .int .i64 0, .bool false, .int .i64 0, .string ⟨#[]⟩, .bool false, .string ⟨#[]⟩, .bool false] 199)) := (((Below.refl _ _).alloc (Nat.le_refl _) _).alloc (by simp) _).alloc (by simp; omega) _
  have hR2 : w.heap.size <= w.heap.size + 1 + 1 := by omega
  have hR1 : w.heap.size <= w.heap.size + 1 := by omega
  obtain ⟨hz, hr, hc⟩ := blk3 w (.cells #[.slice a is.length cap] 83) (.cells #[.int .i64 s.pl, .slice sa s.stack.length cp, .int .i64 s.steps, .int .i64 s.looks, .bool false, .int .i64 0, .string ⟨#[]⟩, .bool false, .string ⟨#[]⟩, .bool false] 199) (.cells #[.int .i64 0, .slice none 0 0, .int .i64 0, .int .i64 0, .bool false, .int .i64 0, .string ⟨#[]⟩, .bool false, .string ⟨#[]⟩, .bool false] 199)
  obtain ⟨q, eq⟩ : ∃ q, decB s.pl = q := ⟨_, rfl⟩
  have EQ : Hid (decB s.pl = q) := eq
  have HD : Hid (∀ W : World, Calls Tryz.prog 68 #[.int .i64 s.pl] W fun e w' => e = .returned (.string q) /\ Below W.heap.size W w') := fun W => by rw [<- eq]; exact l2Dec_any s.pl W (by omega)
  clear eq
  unfold runV
  go_enter Tryz.func119, Tryz.ntmps119
  go_wp2_with fail
  refine (HD.out _).mono ?_
  rintro e w1 ⟨rfl, hb1⟩
  have hB1 : Below w.heap.size w w1 := bN hb0 hb1
  have hz1 := blkB hb1 hz
  have hr1 := blkB hb1 hr
  have hc1 := blkB hb1 hc
  have x0 : w1.cell? ⟨w.heap.size, 0, none⟩ = some (.slice a is.length cap) := by rw [Lib.cell_of_heap hc1]; rfl
  obtain ⟨r0, r1, r2, r3, r4, r5, r6, r7, r8, r9⟩ := c10 hr1
  have fr : ∀ j, w1.frozen? ⟨w.heap.size + 1, j, none⟩ = false := fun j => Lib.frozen_of_heap hr1 j
  clear hz hr hc hb0 hb1 HD
  go_wp2_with fail
  have hl := l2End_any s.pl sa s.stack.length cp s.steps s.looks 3 ⟨#[]⟩
  unfold runV at hl
  refine (hl _).mono ?_
  rintro e w2 ⟨rfl, hb2⟩
  have hB2 : Below w.heap.size w w2 := bN hB1 hb2
  have hz2 := blkB hb2 hz1
  obtain ⟨z0, z1, z2, z3, z4, z5, z6, z7, z8, z9⟩ := c10 hz2
  have fz : ∀ j, w2.frozen? ⟨w.heap.size + 1 + 1, j, none⟩ = false := fun j => Lib.frozen_of_heap hz2 j
  clear hz2 hb2 hl
  unfold overV
  go_wp2_with fail
  exact bodyPost_ret (v := overV s.pl (.slice sa s.stack.length cp) s.steps s.looks 3 ⟨#[]⟩) (by simp [results, Tryz.results119, go_sem, overV, z0, z1, z2, z3, z4, z5, z6, z7, z8, z9]) rfl ⟨((((((((((hB2).setCell (p := ⟨w.heap.size + 1 + 1, 0, none⟩) hR2 _).setCell (p := ⟨w.heap.size + 1 + 1, 1, none⟩) hR2 _).setCell (p := ⟨w.heap.size + 1 + 1, 2, none⟩) hR2 _).setCell (p := ⟨w.heap.size + 1 + 1, 3, none⟩) hR2 _).setCell (p := ⟨w.heap.size + 1 + 1, 4, none⟩) hR2 _).setCell (p := ⟨w.heap.size + 1 + 1, 5, none⟩) hR2 _).setCell (p := ⟨w.heap.size + 1 + 1, 6, none⟩) hR2 _).setCell (p := ⟨w.heap.size + 1 + 1, 7, none⟩) hR2 _).setCell (p := ⟨w.heap.size + 1 + 1, 8, none⟩) hR2 _).setCell (p := ⟨w.heap.size + 1 + 1, 9, none⟩) hR2 _, Or.inl ⟨3, ⟨#[]⟩, s.steps, HST.out, _, _, _, _, _, rfl⟩⟩
end Go.Proofs.YtbbfboikigmghaaGreatDoor
