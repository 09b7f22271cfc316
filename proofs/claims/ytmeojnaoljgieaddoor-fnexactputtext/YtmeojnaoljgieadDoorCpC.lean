/-
  Where a copy of a store stands.
-/
import Derived.Test.YtmeojnaoljgieadDoorCpB
import Derived.Test.YtmeojnaoljgieadDoorOrd
namespace Go.Proofs.YtmeojnaoljgieadDoor
open Go.RowKit Go.Deep
set_option linter.unusedVariables false

/-- A copy of a store: k records are there. -/
structure CS (w : World) (P B : Nat) (wd : Int) (v1 v2 : Value) (ts : List ByteArray) (rs : List T3) (k : Nat) : Prop where
  blk : w.heap[P]? = some (.cells #[.int .i64 wd, v1, v2] 29 (0, 0))
  s : w.ownsRow B 9 1 v1 ts.length (ts.map Value.string)
  t : ∃ xs cv lv, w.ownsRow B 69 3 v2 k xs ∧ PartQ w B rs k xs cv lv
theorem CS.cell {w : World} {P B : Nat} {wd : Int} {v1 v2 : Value} {ts : List ByteArray} {rs : List T3} {k : Nat} (h : CS w P B wd v1 v2 ts rs k) : w.cell? ⟨P, 0, none⟩ = some (.int .i64 wd) ∧ w.cell? ⟨P, 1, none⟩ = some v1 ∧ w.cell? ⟨P, 2, none⟩ = some v2 := blk_c3 h.blk
theorem CS.below {w w' : World} {P B : Nat} {wd : Int} {v1 v2 : Value} {ts : List ByteArray} {rs : List T3} {k : Nat} (h : CS w P B wd v1 v2 ts rs k) (hb : Below w.heap.size w w') : CS w' P B wd v1 v2 ts rs k := by
  obtain ⟨zs, cv, lv, h3, h4⟩ := h.t
  exact ⟨blk_below h.blk hb, ownsRow_below h.s hb, zs, cv, lv, ownsRow_below h3 hb, h4.below hb⟩
theorem CS.zero {w : World} {P B : Nat} {wd : Int} {v1 : Value} {ts : List ByteArray} (rs : List T3) (h : w.heap[P]? = some (.cells #[.int .i64 wd, v1, .slice none 0 0] 29 (0, 0))) (hs : w.ownsRow B 9 1 v1 ts.length (ts.map Value.string)) : CS w P B wd v1 (.slice none 0 0) ts rs 0 :=
  ⟨h, hs, [], fun _ => .slice none 0 0, fun _ => .slice none 0 0, World.ownsRow_nil _ _ _ _, PartQ.zero _ _ _ _⟩
theorem grown_own {W w' : World} {B B' e e' sz sz' n n' : Nat} {v u : Value} {xs ys : List Value} (h : W.ownsRow B e sz v n xs) (hu : W.ownsRow B' e' sz' u n' ys) (hne : e ≠ e') (hg : W.grownBy w' u.ownBlock) : w'.ownsRow B e sz v n xs :=
  own_same h fun b eb => hg.block b (h.lt b eb).2 (fun e' => neT h hu hne b eb e'.symm)
theorem CS.put {W0 W w' : World} {P B : Nat} {wd : Int} {v1 v2 nv c d : Value} {ts : List ByteArray} {rs : List T3} {k : Nat} {ys zs us : List Value} {cv lv : Nat → Value} (h : CS W0 P B wd v1 v2 ts rs k) (hb : Below W0.heap.size W0 W) (hB : B ≤ W0.heap.size) (hy : W0.ownsRow B 69 3 v2 k ys) (hp : PartQ W0 B rs k ys cv lv)
    (hc : W.ownsRow W0.heap.size 103 3 c (qx rs k).code.length zs) (hz : Filled3 (qx rs k).code (qx rs k).code.length zs) (hd : W.ownsRow W0.heap.size 87 3 d (qx rs k).looks.length us) (hu : FilledG (qx rs k).looks (qx rs k).looks.length us) (hds : ∃ g cap, d = .slice (some ⟨g, 0, none⟩) (qx rs k).looks.length cap)
    (hg : W.grownBy w' v2.ownBlock) (hn : w'.ownsRow B 69 3 nv (k + 1) (ys ++ [c, d, .string (qx rs k).out])) : CS (w'.setCell ⟨P, 2, none⟩ nv) P B wd v1 nv ts rs (k + 1) := by
  have hW := h.below hb
  have hyW := ownsRow_below hy hb
  have hbk : w'.heap[P]? = some (.cells #[.int .i64 wd, v1, v2] 29 (0, 0)) := by
    rw [hg.block P (blkW_lt hW.blk) (fun e => HasT.ne (T := 29) ⟨_, hW.blk⟩ hyW (by decide) e.symm)]; exact hW.blk
  have ht : HasT w' P 29 := ⟨_, hbk⟩
  have hl : ys.length = k * 3 := hy.1
  have hpa := hp.add (w2 := w') (xs2 := ys ++ [c, d, .string (qx rs k).out]) (fun b _ hb' => by
      by_cases e : v2.ownBlock = some b
      · exact Or.inr ⟨k, ys, B, v2, hy, e⟩
      · left
        rw [hg.block b (by have := hb.size; omega) (fun e' => e e'.symm), hb.block b hb']) hB (grown_own hc hyW (by decide) hg) hz (grown_own hd hyW (by decide) hg) hu hds
    (fun j hj => List.getElem?_append_left (by omega)) (by rw [List.getElem?_append_right (by omega), hl, Nat.sub_self]; rfl) (by rw [List.getElem?_append_right (by omega), hl, show k * 3 + 1 - k * 3 = 1 by omega]; rfl) (by rw [List.getElem?_append_right (by omega), hl, show k * 3 + 2 - k * 3 = 2 by omega]; rfl)
  exact ⟨by rw [Joins.block_setCell hbk]; rfl, own_setT (grown_own hW.s hyW (by decide) hg) ht (by decide) _, _, _, _, own_setT hn ht (by decide) _, hpa.setT ht (by decide) (by decide) _⟩
theorem CS.own {w : World} {P B lo hi : Nat} {wd : Int} {v1 v2 : Value} {ts : List ByteArray} {rs : List T3} (h : CS w P B wd v1 v2 ts rs rs.length) (hl : lo ≤ B) (hh : w.heap.size ≤ hi) : OwnX w lo hi v1 ts ∧ OwnQ w lo hi v2 rs := by
  obtain ⟨zs, cv, lv, h3, h4⟩ := h.t
  exact ⟨⟨own_base h.s hl, fun b e => by have := (h.s.lt b e).2; omega⟩, h4.own (own_base h3 hl) hl hh⟩

theorem blk_set3 {w : World} {P T : Nat} {x y z : Value} (hz : w.heap[P]? = some (.cells #[x, y, z] T (0, 0))) (u1 u2 u3 : Value) : (((w.setCell ⟨P, 0, none⟩ u1).setCell ⟨P, 1, none⟩ u2).setCell ⟨P, 2, none⟩ u3).heap[P]? = some (.cells #[u1, u2, u3] T (0, 0)) := by
  have h1 : (w.setCell ⟨P, 0, none⟩ u1).heap[P]? = some (.cells #[u1, y, z] T (0, 0)) := by rw [Joins.block_setCell hz]; rfl
  have h2 : ((w.setCell ⟨P, 0, none⟩ u1).setCell ⟨P, 1, none⟩ u2).heap[P]? = some (.cells #[u1, u2, z] T (0, 0)) := by rw [Joins.block_setCell h1]; rfl
  rw [Joins.block_setCell h2]; rfl

/-- An append of one record at a step of a region. -/
theorem step_appQ {s x : Operand} {W : World} {ops : Array Oper} {o : Oper} {a : Act} {K : Act → World → Prop} {Q : Exit → Act → World → Prop} {E : Prop} (hgd : o.guard = none)
    (ho : o.op = .call { callee := .builtin .append, args := #[s, x], argTypes := #[27, 27] }) (B : Nat) (v : Value) (nn : Nat) (xs : List Value)
    (hs : a.eval s = v) (hown : W.ownsRow B 69 3 v nn xs) (d : Nat) (c l : Value) (u : ByteArray) (hc1 : c.oneCell' = true) (hl1 : l.oneCell' = true) (hx : a.eval x = .slice (some ⟨d, 0, none⟩) 1 1) (hc : W.heap[d]? = some (.cells #[c, l, .string u] 69 (0, 0))) (hB : B ≤ W.heap.size) (hn : nn ≤ 1048576)
    (h : ∀ g' cap' w', w'.ownsRow B 69 3 (.slice (some ⟨g', 0, none⟩) (nn + 1) cap') (nn + 1) (xs ++ [c, l, .string u]) → W.grownBy w' v.ownBlock → K (a.put o.dst (.slice (some ⟨g', 0, none⟩) (nn + 1) cap')) w') :
    if Region.wanted o (yielded ops a.tmps) = true then Oper.wp Tryd.prog o a W K Q else E := by
  obtain ⟨i0, hi, hz0, hz1, hz2⟩ := info_parts Tryd.info66b
  refine step_append_lies (w := W) hgd s x 27 ho B 69 i0 (.agg #[.slice none 0 0, .slice none 0 0, .string ⟨#[]⟩]) 3 64 Tryd.underlying27 hi hz0 hz1 hz2 rfl (by decide) _ nn xs hs hown ⟨d, 0, none⟩ 1 1 [c, l, .string u] hx rfl
    (World.news_of_block (cs := #[c, l, .string u]) (t := 69) (fr := (0, 0)) hc) (by intro u' hu; simp at hu; rcases hu with rfl | rfl | rfl <;> first | rfl | exact hc1 | exact hl1) (by omega) (by unfold maxLen; omega) (by omega) hB W.heap.size rfl ?_
  intro g' cap' w' h1 h2 h3 h4
  exact h g' cap' w' h1 h2

end Go.Proofs.YtmeojnaoljgieadDoor
