import Derived.Test.YtjdjhenijihpfaaGreatDoorOrd
import Derived.Deep.AppendLies
import Derived.Lib.SmallJoins
namespace Go.Proofs.YtjdjhenijihpfaaGreatDoor
open Go.RowKit Go.Deep
set_option linter.unusedVariables false

theorem blkW_lt {w : World} {b : Nat} {o : Obj} (h : w.heap[b]? = some o) : b < w.heap.size := by
  rcases Nat.lt_or_ge b w.heap.size with h' | h'
  · exact h'
  · rw [Array.getElem?_eq_none h'] at h; cases h
theorem heapW_new (w : World) (o : Obj) : (w.alloc o).heap[w.heap.size]? = some o := by unfold World.alloc; simp
theorem cellW {w : World} {p : Addr} {v : Value} {o : Obj} (h : w.cell? p = some v) : (w.alloc o).cell? p = some v := by rw [World.cell?_alloc_lt _ _ _ (World.block_lt_of_cell? _ _ h)]; exact h

open Classical in
noncomputable def fltS (t : ByteArray) (ss : List S2) : List S2 := ss.filter fun s => decide (s.name ≠ t)
open Classical in
noncomputable def fltT (t : ByteArray) (ss : List T2) : List T2 := ss.filter fun s => decide (s.name ≠ t)
theorem sx_get {ss : List S2} {k : Nat} (h : k < ss.length) : sx ss k = ss[k] := by simp [sx, List.getD_eq_getElem?_getD, h]
theorem tx_get {ss : List T2} {k : Nat} (h : k < ss.length) : tx ss k = ss[k] := by simp [tx, List.getD_eq_getElem?_getD, h]
theorem fltS_yes {t : ByteArray} {ss : List S2} {k : Nat} (h : k < ss.length) (hn : (sx ss k).name ≠ t) : fltS t (ss.take (k + 1)) = fltS t (ss.take k) ++ [sx ss k] := by
  rw [sx_get h] at *
  unfold fltS
  rw [List.take_succ_eq_append_getElem h, List.filter_append]
  simp [hn]
theorem fltS_no {t : ByteArray} {ss : List S2} {k : Nat} (h : k < ss.length) (hn : (sx ss k).name = t) : fltS t (ss.take (k + 1)) = fltS t (ss.take k) := by
  rw [sx_get h] at *
  unfold fltS
  rw [List.take_succ_eq_append_getElem h, List.filter_append]
  simp [hn]
theorem fltT_yes {t : ByteArray} {ss : List T2} {k : Nat} (h : k < ss.length) (hn : (tx ss k).name ≠ t) : fltT t (ss.take (k + 1)) = fltT t (ss.take k) ++ [tx ss k] := by
  rw [tx_get h] at *
  unfold fltT
  rw [List.take_succ_eq_append_getElem h, List.filter_append]
  simp [hn]
theorem fltT_no {t : ByteArray} {ss : List T2} {k : Nat} (h : k < ss.length) (hn : (tx ss k).name = t) : fltT t (ss.take (k + 1)) = fltT t (ss.take k) := by
  rw [tx_get h] at *
  unfold fltT
  rw [List.take_succ_eq_append_getElem h, List.filter_append]
  simp [hn]
theorem fltS_len (t : ByteArray) (ss : List S2) : (fltS t ss).length ≤ ss.length := List.length_filter_le _ _
theorem fltT_len (t : ByteArray) (ss : List T2) : (fltT t ss).length ≤ ss.length := List.length_filter_le _ _
theorem fltS_take (t : ByteArray) (ss : List S2) (k : Nat) (h : k ≤ ss.length) : (fltS t (ss.take k)).length ≤ k := by
  have := fltS_len t (ss.take k)
  rw [List.length_take] at this; omega
theorem fltT_take (t : ByteArray) (ss : List T2) (k : Nat) (h : k ≤ ss.length) : (fltT t (ss.take k)).length ≤ k := by
  have := fltT_len t (ss.take k)
  rw [List.length_take] at this; omega
theorem fltT_mem {t : ByteArray} {ss : List T2} {P : T2 → Prop} (h : ∀ i, i < ss.length → P (tx ss i)) : ∀ i, i < (fltT t ss).length → P (tx (fltT t ss) i) := by
  intro i hi
  have hm : tx (fltT t ss) i ∈ ss := by
    rw [tx_get hi]
    exact (List.mem_filter.mp (List.getElem_mem hi)).1
  obtain ⟨j, hj, e⟩ := List.getElem_of_mem hm
  have := h j hj
  rw [tx_get hj, e] at this
  exact this

theorem sx_old {l : List S2} {s : S2} {i : Nat} (h : i < l.length) : sx (l ++ [s]) i = sx l i := by
  unfold sx
  rw [List.getD_eq_getElem?_getD, List.getD_eq_getElem?_getD, List.getElem?_append_left h]
theorem sx_new {l : List S2} {s : S2} : sx (l ++ [s]) l.length = s := by
  unfold sx
  rw [List.getD_eq_getElem?_getD, List.getElem?_append_right (Nat.le_refl _)]
  simp
theorem tx_old {l : List T2} {s : T2} {i : Nat} (h : i < l.length) : tx (l ++ [s]) i = tx l i := by
  unfold tx
  rw [List.getD_eq_getElem?_getD, List.getD_eq_getElem?_getD, List.getElem?_append_left h]
theorem tx_new {l : List T2} {s : T2} : tx (l ++ [s]) l.length = s := by
  unfold tx
  rw [List.getD_eq_getElem?_getD, List.getElem?_append_right (Nat.le_refl _)]
  simp
theorem filledS_add {l : List S2} {s : S2} {ys : List Value} (h : FilledS l l.length ys) (hl : ys.length = l.length * 2) : FilledS (l ++ [s]) (l.length + 1) (ys ++ [.string s.name, .string s.text]) := by
  intro i hi
  rcases Nat.lt_or_ge i l.length with hk | hk
  · obtain ⟨h1, h2⟩ := h i hk
    rw [List.getElem?_append_left (by omega), List.getElem?_append_left (by omega), sx_old hk]
    exact ⟨h1, h2⟩
  · obtain rfl : i = l.length := by omega
    rw [List.getElem?_append_right (by omega), List.getElem?_append_right (by omega), hl, Nat.sub_self, show l.length * 2 + 1 - l.length * 2 = 1 by omega, sx_new]
    exact ⟨rfl, rfl⟩
theorem PartT.ext {w : World} {lo : Nat} {l : List T2} {s : T2} {xs : List Value} {cv : Nat → Value} (h : PartT w lo l l.length xs cv) : PartT w lo (l ++ [s]) l.length xs cv :=
  ⟨fun i hi => by rw [tx_old hi]; exact h.fil i hi, fun i hi => by rw [tx_old hi]; exact h.code i hi, h.apart⟩
theorem PartT.app {w w2 : World} {lo : Nat} {l : List T2} {s : T2} {xs : List Value} {cv : Nat → Value} (h : PartT w lo l l.length xs cv) (hx : xs.length = l.length * 2) (hb : Below w.heap.size w w2) (hl : lo ≤ w.heap.size) {c : Value} {ys : List Value} (ho : w2.ownsRow w.heap.size 84 3 c s.code.length ys) (hf : Filled3 s.code s.code.length ys) : PartT w2 lo (l ++ [s]) (l.length + 1) (xs ++ [.string s.name, c]) (fun i => if i = l.length then c else cv i) := by
  refine (h.ext (s := s)).add hb hl (ys := ys) (by rw [tx_new]; exact ho) (by rw [tx_new]; exact hf) (fun j hj => List.getElem?_append_left (by omega)) ?_ ?_
  · rw [List.getElem?_append_right (by omega), hx, Nat.sub_self, tx_new]; rfl
  · rw [List.getElem?_append_right (by omega), hx, show l.length * 2 + 1 - l.length * 2 = 1 by omega]; rfl

/-- Where the loops stand: the answer's block and its rows. -/
structure WS (w : World) (P : Nat) (v1 v2 : Value) (l1 : List S2) (l2 : List T2) : Prop where
  blk : w.heap[P]? = some (.cells #[v1, v2] 26 (0, 0))
  s : ∃ xs, w.ownsRow (P + 1) 60 2 v1 l1.length xs ∧ FilledS l1 l1.length xs
  t : ∃ xs cv, w.ownsRow (P + 1) 64 2 v2 l2.length xs ∧ PartT w (P + 1) l2 l2.length xs cv
theorem WS.cell {w : World} {P : Nat} {v1 v2 : Value} {l1 : List S2} {l2 : List T2} (h : WS w P v1 v2 l1 l2) : w.cell? ⟨P, 0, none⟩ = some v1 ∧ w.cell? ⟨P, 1, none⟩ = some v2 :=
  ⟨by rw [Lib.cell_of_heap h.blk]; rfl, by rw [Lib.cell_of_heap h.blk]; rfl⟩
theorem WS.below {w w' : World} {P : Nat} {v1 v2 : Value} {l1 : List S2} {l2 : List T2} (h : WS w P v1 v2 l1 l2) (hb : Below w.heap.size w w') : WS w' P v1 v2 l1 l2 := by
  obtain ⟨xs, h1, h2⟩ := h.s
  obtain ⟨zs, cv, h3, h4⟩ := h.t
  exact ⟨by rw [hb.block P (blkW_lt h.blk)]; exact h.blk, ⟨xs, ownsRow_below h1 hb, h2⟩, zs, cv, ownsRow_below h3 hb, h4.below hb⟩
theorem WS.zero {w : World} {P : Nat} (h : w.heap[P]? = some (.cells #[.slice none 0 0, .slice none 0 0] 26 (0, 0))) : WS w P (.slice none 0 0) (.slice none 0 0) [] [] :=
  ⟨h, ⟨[], World.ownsRow_nil _ _ _ _, fun i hi => by simp at hi⟩, [], fun _ => .slice none 0 0, World.ownsRow_nil _ _ _ _, PartT.zero _ _ _ _⟩
theorem grown_own {W w' : World} {B B' e e' sz sz' n n' : Nat} {v u : Value} {xs ys : List Value} (h : W.ownsRow B e sz v n xs) (hu : W.ownsRow B' e' sz' u n' ys) (hne : e ≠ e') (hg : W.grownBy w' u.ownBlock) : w'.ownsRow B e sz v n xs :=
  own_same h fun b eb => hg.block b (h.lt b eb).2 (fun e' => neT h hu hne b eb e'.symm)
theorem grown_part {W w' : World} {lo B' sz' n' e' : Nat} {u : Value} {ys : List Value} {l : List T2} {k : Nat} {xs : List Value} {cv : Nat → Value} (h : PartT W lo l k xs cv) (hu : W.ownsRow B' e' sz' u n' ys) (hne : 84 ≠ e') (hg : W.grownBy w' u.ownBlock) : PartT w' lo l k xs cv :=
  ⟨h.fil, fun i hi => by obtain ⟨zs, h1, h2⟩ := h.code i hi; exact ⟨zs, grown_own h1 hu hne hg, h2⟩, h.apart⟩
theorem own_setP {w : World} {P e sz n j : Nat} {v : Value} {xs : List Value} (h : w.ownsRow (P + 1) e sz v n xs) (u : Value) : (w.setCell ⟨P, j, none⟩ u).ownsRow (P + 1) e sz v n xs :=
  own_same h fun b eb => Below.heap_setCell w ⟨P, j, none⟩ u b (by have := (h.lt b eb).1; show b ≠ P; omega)
theorem WS.putS {W w' : World} {P : Nat} {v1 v2 nv : Value} {l1 : List S2} {l2 : List T2} {s : S2} {ys : List Value} (h : WS W P v1 v2 l1 l2) (hy : W.ownsRow (P + 1) 60 2 v1 l1.length ys) (hf : FilledS l1 l1.length ys) (hg : W.grownBy w' v1.ownBlock) (hn : w'.ownsRow (P + 1) 60 2 nv (l1.length + 1) (ys ++ [.string s.name, .string s.text])) : WS (w'.setCell ⟨P, 0, none⟩ nv) P nv v2 (l1 ++ [s]) l2 := by
  have hbk : w'.heap[P]? = some (.cells #[v1, v2] 26 (0, 0)) := by
    rw [hg.block P (blkW_lt h.blk) (fun e => by have := (hy.lt P e.symm).1; omega)]; exact h.blk
  obtain ⟨zs, cv, h3, h4⟩ := h.t
  have hlen : (l1 ++ [s]).length = l1.length + 1 := by simp
  refine ⟨by rw [Joins.block_setCell hbk]; rfl, ⟨ys ++ [.string s.name, .string s.text], ?_, ?_⟩, zs, cv, own_setP (grown_own h3 hy (by decide) hg) _, (grown_part h4 hy (by decide) hg).set (Nat.lt_succ_self _) _⟩
  · rw [hlen]; exact own_setP hn _
  · rw [hlen]; exact filledS_add hf hy.1
theorem WS.putT {W0 W w' : World} {P : Nat} {v1 v2 nv c : Value} {l1 : List S2} {l2 : List T2} {s : T2} {ys zs : List Value} {cv : Nat → Value} (h : WS W0 P v1 v2 l1 l2) (hb : Below W0.heap.size W0 W) (hP : P + 1 ≤ W0.heap.size) (hy : W0.ownsRow (P + 1) 64 2 v2 l2.length ys) (hp : PartT W0 (P + 1) l2 l2.length ys cv) (hc : W.ownsRow W0.heap.size 84 3 c s.code.length zs) (hz : Filled3 s.code s.code.length zs) (hg : W.grownBy w' v2.ownBlock) (hn : w'.ownsRow (P + 1) 64 2 nv (l2.length + 1) (ys ++ [.string s.name, c])) : WS (w'.setCell ⟨P, 1, none⟩ nv) P v1 nv l1 (l2 ++ [s]) := by
  have hW := h.below hb
  have hyW := ownsRow_below hy hb
  have hbk : w'.heap[P]? = some (.cells #[v1, v2] 26 (0, 0)) := by
    rw [hg.block P (blkW_lt hW.blk) (fun e => by have := (hyW.lt P e.symm).1; omega)]; exact hW.blk
  obtain ⟨xs, h1, h2⟩ := hW.s
  have hpa := grown_part (hp.app hy.1 hb hP hc hz) hyW (by decide) hg
  have hlen : (l2 ++ [s]).length = l2.length + 1 := by simp
  refine ⟨by rw [Joins.block_setCell hbk]; rfl, ⟨xs, own_setP (grown_own h1 hyW (by decide) hg) _, h2⟩, ys ++ [.string s.name, c], fun i => if i = l2.length then c else cv i, ?_, ?_⟩
  · rw [hlen]; exact own_setP hn _
  · rw [hlen]; exact hpa.set (Nat.lt_succ_self _) _
theorem WS.own {w : World} {P lo hi : Nat} {v1 v2 : Value} {l1 : List S2} {l2 : List T2} (h : WS w P v1 v2 l1 l2) (hl : lo ≤ P + 1) (hh : w.heap.size ≤ hi) : OwnS w lo hi v1 l1 ∧ OwnT w lo hi v2 l2 := by
  obtain ⟨xs, h1, h2⟩ := h.s
  obtain ⟨zs, cv, h3, h4⟩ := h.t
  exact ⟨⟨xs, ⟨own_base h1 hl, fun b e => by have := (h1.lt b e).2; omega⟩, h2⟩, h4.own (own_base h3 hl) hl hh⟩

theorem Tryz.info103b : (Tryz.prog.info? 60).map (fun i => (i.zero, i.size, i.bytes)) = some (some (.agg #[.string ⟨#[]⟩, .string ⟨#[]⟩]), 2, 32) := by kernel_rfl
theorem Tryz.info118b : (Tryz.prog.info? 64).map (fun i => (i.zero, i.size, i.bytes)) = some (some (.agg #[.string ⟨#[]⟩, .slice none 0 0]), 2, 40) := by kernel_rfl

/-- An append of one target at a step of a region. -/
theorem step_appT {s x : Operand} {W : World} {ops : Array Oper} {o : Oper} {a : Act} {K : Act → World → Prop} {Q : Exit → Act → World → Prop} {E : Prop} (hgd : o.guard = none)
    (ho : o.op = .call { callee := .builtin .append, args := #[s, x], argTypes := #[24, 24] }) (B : Nat) (v : Value) (nn : Nat) (xs : List Value)
    (hs : a.eval s = v) (hown : W.ownsRow B 64 2 v nn xs) (d : Nat) (t : ByteArray) (u : Value) (hu1 : u.oneCell' = true) (hx : a.eval x = .slice (some ⟨d, 0, none⟩) 1 1) (hc : W.heap[d]? = some (.cells #[.string t, u] 64 (0, 0))) (hB : B ≤ W.heap.size) (hn : nn ≤ 300)
    (h : ∀ g' cap' w', w'.ownsRow B 64 2 (.slice (some ⟨g', 0, none⟩) (nn + 1) cap') (nn + 1) (xs ++ [.string t, u]) → W.grownBy w' v.ownBlock → K (a.put o.dst (.slice (some ⟨g', 0, none⟩) (nn + 1) cap')) w') :
    if Region.wanted o (yielded ops a.tmps) = true then Oper.wp Tryz.prog o a W K Q else E := by
  obtain ⟨i0, hi, hz0, hz1, hz2⟩ := info_parts Tryz.info118b
  refine step_append_lies (w := W) hgd s x 24 ho B 64 i0 (.agg #[.string ⟨#[]⟩, .slice none 0 0]) 2 40 Tryz.underlying24 hi hz0 hz1 hz2 rfl (by decide) _ nn xs hs hown ⟨d, 0, none⟩ 1 1 [.string t, u] hx rfl
    (World.news_of_block (cs := #[.string t, u]) (t := 64) (fr := (0, 0)) hc) (by intro u' hu; simp at hu; rcases hu with rfl | rfl <;> first | rfl | exact hu1) (by omega) (by unfold maxLen; omega) (by omega) hB W.heap.size rfl ?_
  intro g' cap' w' h1 h2 h3 h4
  exact h g' cap' w' h1 h2
/-- An append of one source at a step of a region. -/
theorem step_appS {s x : Operand} {W : World} {ops : Array Oper} {o : Oper} {a : Act} {K : Act → World → Prop} {Q : Exit → Act → World → Prop} {E : Prop} (hgd : o.guard = none)
    (ho : o.op = .call { callee := .builtin .append, args := #[s, x], argTypes := #[23, 23] }) (B : Nat) (v : Value) (nn : Nat) (xs : List Value)
    (hs : a.eval s = v) (hown : W.ownsRow B 60 2 v nn xs) (d : Nat) (t u : ByteArray) (hx : a.eval x = .slice (some ⟨d, 0, none⟩) 1 1) (hc : W.heap[d]? = some (.cells #[.string t, .string u] 60 (0, 0))) (hB : B ≤ W.heap.size) (hn : nn ≤ 300)
    (h : ∀ g' cap' w', w'.ownsRow B 60 2 (.slice (some ⟨g', 0, none⟩) (nn + 1) cap') (nn + 1) (xs ++ [.string t, .string u]) → W.grownBy w' v.ownBlock → K (a.put o.dst (.slice (some ⟨g', 0, none⟩) (nn + 1) cap')) w') :
    if Region.wanted o (yielded ops a.tmps) = true then Oper.wp Tryz.prog o a W K Q else E := by
  obtain ⟨i0, hi, hz0, hz1, hz2⟩ := info_parts Tryz.info103b
  refine step_append_lies (w := W) hgd s x 23 ho B 60 i0 (.agg #[.string ⟨#[]⟩, .string ⟨#[]⟩]) 2 32 Tryz.underlying23 hi hz0 hz1 hz2 rfl (by decide) _ nn xs hs hown ⟨d, 0, none⟩ 1 1 [.string t, .string u] hx rfl
    (World.news_of_block (cs := #[.string t, .string u]) (t := 60) (fr := (0, 0)) hc) (by intro u' hu; simp at hu; rcases hu with rfl | rfl <;> rfl) (by omega) (by unfold maxLen; omega) (by omega) hB W.heap.size rfl ?_
  intro g' cap' w' h1 h2 h3 h4
  exact h g' cap' w' h1 h2

end Go.Proofs.YtjdjhenijihpfaaGreatDoor
