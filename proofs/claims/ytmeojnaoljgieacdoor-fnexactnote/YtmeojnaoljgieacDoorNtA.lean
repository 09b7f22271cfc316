/-
  Note in plain words; the step of its loop.
-/
import Derived.Test.YtmeojnaoljgieacDoorCln
import Derived.Test.YtmeojnaoljgieacDoorForm
import Derived.Test.YtmeojnaoljgieacDoorStVal
import Derived.Deep.AppendLies
import Derived.Deep.RegionHeld3
import Derived.Lib.SmallJoins
namespace Go.Proofs.YtmeojnaoljgieacDoor
open Go.RowKit Go.Deep
set_option linter.unusedVariables false

/-- What a look notes. -/
def glOf (n : Nat) (s : G3) : G3 := ⟨s.name, s.ask, sumB n s.sum⟩
theorem gx_map (n : Nat) (ls : List G3) (k : Nat) (h : k < ls.length) : gx (ls.map (glOf n)) k = glOf n (gx ls k) := by
  unfold gx
  rw [List.getD_eq_getElem?_getD, List.getD_eq_getElem?_getD, List.getElem?_map, List.getElem?_eq_getElem h]
  rfl
def NoteOk (is : List I3) (ls : List G3) (n : Int) (out : ByteArray) : Prop := progOk is = true ∧ 1 ≤ n ∧ n ≤ 8 ∧ ls.length ≤ 200 ∧ out ≠ ⟨#[]⟩ ∧ ∀ i, i < ls.length → NameOk (gx ls i).name
/-- What Note answers. -/
def NoteP (is : List I3) (ls : List G3) (n : Int) (out : ByteArray) (is' : List I3) (gs : List G3) (o : ByteArray) : Prop :=
  (NoteOk is ls n out ∧ is' = is ∧ gs = ls.map (glOf n.toNat) ∧ o = sumB n.toNat out) ∨ (¬ NoteOk is ls n out ∧ is' = [] ∧ gs = [] ∧ o = ⟨#[]⟩)
theorem NoteP.uniq {is : List I3} {ls : List G3} {n : Int} {out : ByteArray} {i1 i2 : List I3} {g1 g2 : List G3} {o1 o2 : ByteArray} (h1 : NoteP is ls n out i1 g1 o1) (h2 : NoteP is ls n out i2 g2 o2) : i1 = i2 ∧ g1 = g2 ∧ o1 = o2 := by
  rcases h1 with ⟨k1, rfl, rfl, rfl⟩ | ⟨k1, rfl, rfl, rfl⟩ <;> rcases h2 with ⟨k2, rfl, rfl, rfl⟩ | ⟨k2, rfl, rfl, rfl⟩
  · exact ⟨rfl, rfl, rfl⟩
  · exact absurd k1 k2
  · exact absurd k2 k1
  · exact ⟨rfl, rfl, rfl⟩
theorem NoteP.len {is : List I3} {ls : List G3} {n : Int} {out : ByteArray} {i1 : List I3} {g1 : List G3} {o1 : ByteArray} (h : NoteP is ls n out i1 g1 o1) : i1.length ≤ 200 ∧ g1.length ≤ 200 := by
  rcases h with ⟨k, rfl, rfl, rfl⟩ | ⟨k, rfl, rfl, rfl⟩
  · have h1 := k.1
    unfold progOk at h1
    simp only [Bool.and_eq_true, decide_eq_true_eq] at h1
    exact ⟨h1.1.2, by rw [List.length_map]; exact k.2.2.2.1⟩
  · exact ⟨by simp, by simp⟩
/-- A record that owns its rows. -/
def RecOwn (B : Nat) (w : World) (v1 v2 : Value) (is : List I3) (gs : List G3) : Prop :=
  ∃ xs ys, w.ownsRow B 171 3 v1 is.length xs ∧ Filled3 is is.length xs ∧ w.ownsRow B 133 3 v2 gs.length ys ∧ FilledG gs gs.length ys
def NoteOut (B : Nat) (w : World) (e : Ending) (is : List I3) (gs : List G3) (o : ByteArray) : Prop := ∃ v1 v2, e = .returned (.agg #[v1, v2, .string o]) ∧ RecOwn B w v1 v2 is gs
theorem recOwn_none (B : Nat) (w : World) : RecOwn B w (.slice none 0 0) (.slice none 0 0) [] [] := ⟨[], [], World.ownsRow_nil w B 171 3, fun i hi => by simp at hi, World.ownsRow_nil w B 133 3, fun i hi => by simp at hi⟩

theorem filledG_add {gs : List G3} {k : Nat} {ys : List Value} (h : FilledG gs k ys) (hl : ys.length = k * 3) : FilledG gs (k + 1) (ys ++ [.string (gx gs k).name, .bool (gx gs k).ask, .string (gx gs k).sum]) := by
  intro i hi
  rcases Nat.lt_or_ge i k with hk | hk
  · obtain ⟨h1, h2, h3⟩ := h i hk
    rw [List.getElem?_append_left (by omega), List.getElem?_append_left (by omega), List.getElem?_append_left (by omega)]
    exact ⟨h1, h2, h3⟩
  · obtain rfl : i = k := by omega
    rw [List.getElem?_append_right (by omega), List.getElem?_append_right (by omega), List.getElem?_append_right (by omega), hl, Nat.sub_self, show i * 3 + 1 - i * 3 = 1 by omega, show i * 3 + 2 - i * 3 = 2 by omega]
    exact ⟨rfl, rfl, rfl⟩
theorem Tryd.info131b : (Tryd.prog.info? 133).map (fun i => (i.zero, i.size, i.bytes)) = some (some (.agg #[.string ⟨#[]⟩, .bool false, .string ⟨#[]⟩]), 3, 40) := by kernel_rfl
theorem blkN_lt {w : World} {b : Nat} {o : Obj} (h : w.heap[b]? = some o) : b < w.heap.size := by
  rcases Nat.lt_or_ge b w.heap.size with h' | h'
  · exact h'
  · rw [Array.getElem?_eq_none h'] at h; cases h
theorem heapN_new (w : World) (o : Obj) : (w.alloc o).heap[w.heap.size]? = some o := by unfold World.alloc; simp

/-- An append of one look at a step of a region. -/
theorem step_appG {s x : Operand} {W : World} {ops : Array Oper} {o : Oper} {a : Act} {K : Act → World → Prop} {Q : Exit → Act → World → Prop} {E : Prop} (hgd : o.guard = none)
    (ho : o.op = .call { callee := .builtin .append, args := #[s, x], argTypes := #[71, 71] }) (B : Nat) (v : Value) (nn : Nat) (xs : List Value)
    (hs : a.eval s = v) (hown : W.ownsRow B 133 3 v nn xs) (d : Nat) (t : ByteArray) (q : Bool) (u : ByteArray) (hx : a.eval x = .slice (some ⟨d, 0, none⟩) 1 1) (hc : W.heap[d]? = some (.cells #[.string t, .bool q, .string u] 133 (0, 0))) (hB : B ≤ W.heap.size) (hn : nn ≤ 200)
    (h : ∀ g' cap' w', w'.ownsRow B 133 3 (.slice (some ⟨g', 0, none⟩) (nn + 1) cap') (nn + 1) (xs ++ [.string t, .bool q, .string u]) → W.grownBy w' v.ownBlock → K (a.put o.dst (.slice (some ⟨g', 0, none⟩) (nn + 1) cap')) w') :
    if Region.wanted o (yielded ops a.tmps) = true then Oper.wp Tryd.prog o a W K Q else E := by
  obtain ⟨i0, hi, hz0, hz1, hz2⟩ := info_parts Tryd.info131b
  refine step_append_lies (w := W) hgd s x 71 ho B 133 i0 (.agg #[.string ⟨#[]⟩, .bool false, .string ⟨#[]⟩]) 3 40 Tryd.underlying71 hi hz0 hz1 hz2 rfl (by decide) _ nn xs hs hown ⟨d, 0, none⟩ 1 1 [.string t, .bool q, .string u] hx rfl
    (World.news_of_block (cs := #[.string t, .bool q, .string u]) (t := 133) (fr := (0, 0)) hc) (by intro u hu; simp at hu; rcases hu with rfl | rfl | rfl <;> rfl) (by omega) (by unfold maxLen; omega) (by omega) hB W.heap.size rfl ?_
  intro g' cap' w' h1 h2 h3 h4
  exact h g' cap' w' h1 h2

/-- Where the loop of Note stands: k looks are noted. -/
structure NS (w : World) (P : Nat) (s1 v : Value) (sm : ByteArray) (k : Nat) (gs : List G3) : Prop where
  blk : w.heap[P]? = some (.cells #[s1, v, .string sm] 73 (0, 0))
  own : ∃ ys, w.ownsRow (P + 1) 133 3 v k ys ∧ FilledG gs k ys
theorem NS.cell {w : World} {P : Nat} {s1 v : Value} {sm : ByteArray} {k : Nat} {gs : List G3} (h : NS w P s1 v sm k gs) : w.cell? ⟨P, 0, none⟩ = some s1 ∧ w.cell? ⟨P, 1, none⟩ = some v ∧ w.cell? ⟨P, 2, none⟩ = some (.string sm) :=
  ⟨by rw [Lib.cell_of_heap h.blk]; rfl, by rw [Lib.cell_of_heap h.blk]; rfl, by rw [Lib.cell_of_heap h.blk]; rfl⟩
theorem NS.below {w w' : World} {P : Nat} {s1 v : Value} {sm : ByteArray} {k : Nat} {gs : List G3} (h : NS w P s1 v sm k gs) (hb : Below w.heap.size w w') : NS w' P s1 v sm k gs := by
  obtain ⟨ys, h1, h2⟩ := h.own
  exact ⟨by rw [hb.block P (blkN_lt h.blk)]; exact h.blk, ys, ownsRow_below h1 hb, h2⟩
theorem NS.put {W w' : World} {P : Nat} {s1 v nv : Value} {sm : ByteArray} {k : Nat} {gs : List G3} {xs zs : List Value} (hb : W.heap[P]? = some (.cells #[s1, v, .string sm] 73 (0, 0))) (ho : W.ownsRow (P + 1) 133 3 v k xs) (hg : W.grownBy w' v.ownBlock) (hn : w'.ownsRow (P + 1) 133 3 nv (k + 1) zs) (hf : FilledG gs (k + 1) zs) : NS (w'.setCell ⟨P, 1, none⟩ nv) P s1 nv sm (k + 1) gs := by
  have hbk : w'.heap[P]? = some (.cells #[s1, v, .string sm] 73 (0, 0)) := by
    rw [hg.block P (blkN_lt hb) (fun e => by have := (ho.lt P e.symm).1; omega)]; exact hb
  refine ⟨?_, zs, ?_, hf⟩
  · rw [Joins.block_setCell hbk]; rfl
  · refine ⟨hn.1, ?_⟩
    rcases hn.2 with h2 | ⟨g, cap, cur, hv, hg2, hh, r⟩
    · exact Or.inl h2
    · refine Or.inr ⟨g, cap, cur, hv, hg2, ?_, r⟩
      rw [Below.heap_setCell w' ⟨P, 1, none⟩ nv g (by intro e; simp at e; omega)]; exact hh

theorem cellA {w : World} {p : Addr} {v : Value} {o : Obj} (h : w.cell? p = some v) : (w.alloc o).cell? p = some v := by rw [World.cell?_alloc_lt _ _ _ (World.block_lt_of_cell? _ _ h)]; exact h
theorem own_setB {w : World} {B e sz n : Nat} {v : Value} {xs : List Value} (h : w.ownsRow B e sz v n xs) {r j : Nat} (hr : ∀ b, v.ownBlock = some b → b ≠ r) (u : Value) : (w.setCell ⟨r, j, none⟩ u).ownsRow B e sz v n xs :=
  own_keep (ob := some r) h (fun b _ hne => Below.heap_setCell w ⟨r, j, none⟩ u b (fun e => hne (by rw [e]))) (fun b hb e => hr b hb (Option.some.inj e))
theorem NS.add {W w6 w7 : World} {P g' cap' : Nat} {s1 v : Value} {sm : ByteArray} {k : Nat} {gs : List G3} {ys : List Value} {o : Obj} {t u : ByteArray} {q : Bool} (h : NS W P s1 v sm k gs) (hy : W.ownsRow (P + 1) 133 3 v k ys) (hf : FilledG gs k ys) (hb : Below W.heap.size W w6) (hg : (w6.alloc o).grownBy w7 v.ownBlock) (hn : w7.ownsRow (P + 1) 133 3 (.slice (some ⟨g', 0, none⟩) (k + 1) cap') (k + 1) (ys ++ [.string t, .bool q, .string u])) (hG : gx gs k = ⟨t, q, u⟩) :
    NS (w7.setCell ⟨P, 1, none⟩ (.slice (some ⟨g', 0, none⟩) (k + 1) cap')) P s1 (.slice (some ⟨g', 0, none⟩) (k + 1) cap') sm (k + 1) gs := by
  have h6 := h.below hb
  have hf2 := filledG_add hf hy.1
  rw [hG] at hf2
  exact NS.put (by rw [Lib.alloc_old _ _ _ (blkN_lt h6.blk)]; exact h6.blk) ((ownsRow_below hy hb).alloc _) hg hn hf2

end Go.Proofs.YtmeojnaoljgieacDoor
