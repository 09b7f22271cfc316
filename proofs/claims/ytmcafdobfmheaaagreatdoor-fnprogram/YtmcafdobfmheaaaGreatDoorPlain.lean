/-
  PLAIN: instructions, and rows of instructions told of cells.
-/
import Derived.Test.YtmcafdobfmheaaaGreatDoorProg
import Derived.WalkKit
import Derived.WalkSpells
import Derived.WalkLawsBesides
namespace Go.Proofs.YtmcafdobfmheaaaGreatDoor
open Go.RowKit

structure I3 where
  op : Int
  text : ByteArray
  n : Int
def i0 : I3 := ⟨0, ByteArray.empty, 0⟩
def ix (is : List I3) (i : Nat) : I3 := is.getD i i0

/-- The slice's address leads to the instructions, in w. -/
def Row3 (w : World) (a : Option Addr) (is : List I3) : Prop :=
  ∀ i, i < is.length → ∃ b off, a = some ⟨b, off, none⟩ ∧ w.cell? ⟨b, off + i * 3, none⟩ = some (.int .i64 (ix is i).op) ∧ w.cell? ⟨b, off + i * 3 + 1, none⟩ = some (.string (ix is i).text) ∧ w.cell? ⟨b, off + i * 3 + 2, none⟩ = some (.int .i64 (ix is i).n)

theorem cell_below {w w' : World} {b o : Nat} {v : Value} (hb : Below w.heap.size w w') (h : w.cell? ⟨b, o, none⟩ = some v) : w'.cell? ⟨b, o, none⟩ = some v :=
  (hb.cell (p := ⟨b, o, none⟩) (World.block_lt_of_cell? w _ h)).trans h

theorem Row3.below {w w' : World} {a : Option Addr} {is : List I3} (h : Row3 w a is) (hb : Below w.heap.size w w') : Row3 w' a is := by
  intro i hi
  obtain ⟨b, off, ha, h1, h2, h3⟩ := h i hi
  exact ⟨b, off, ha, cell_below hb h1, cell_below hb h2, cell_below hb h3⟩

theorem ownsRow_below {w w' : World} {base e size n : Nat} {v : Value} {xs : List Value} (h : w.ownsRow base e size v n xs) (hb : Below w.heap.size w w') : w'.ownsRow base e size v n xs := by
  refine ⟨h.1, ?_⟩
  rcases h.2 with h2 | ⟨g, cap, cur, hv, hg, hh, r⟩
  · exact Or.inl h2
  · refine Or.inr ⟨g, cap, cur, hv, hg, ?_, r⟩
    have hlt : g < w.heap.size := by
      rcases Nat.lt_or_ge g w.heap.size with h | h
      · exact h
      · rw [Array.getElem?_eq_none h] at hh; cases hh
    rw [hb.block g hlt]; exact hh

def total3 (is : List I3) : Nat := (is.map fun i => i.text.size).sum
theorem total3_take_succ (is : List I3) (k : Nat) (h : k < is.length) : total3 (is.take (k + 1)) = total3 (is.take k) + (ix is k).text.size := by
  have e : is.take (k + 1) = is.take k ++ [is[k]] := List.take_succ_eq_append_getElem h
  unfold total3 ix
  rw [e, List.map_append, List.sum_append, List.getD_eq_getElem?_getD, List.getElem?_eq_getElem h]
  simp

theorem str_eq {p q : ByteArray} (h : p = q) : (p.toList == q.toList) = true := by subst h; simp
theorem str_ne {p q : ByteArray} (h : p ≠ q) : (p.toList == q.toList) = false := by
  rw [beq_eq_false_iff_ne]
  intro e
  rw [ByteArray.toList_eq, ByteArray.toList_eq] at e
  exact h (WideShapes.bytes_inj e)

/-- The first k instructions lie in the row. -/
def Filled3 (is : List I3) (k : Nat) (xs : List Value) : Prop :=
  ∀ i, i < k → xs[i * 3]? = some (.int .i64 (ix is i).op) ∧ xs[i * 3 + 1]? = some (.string (ix is i).text) ∧ xs[i * 3 + 2]? = some (.int .i64 (ix is i).n)

theorem filled3_set {is : List I3} {k : Nat} {xs : List Value} (h : Filled3 is k xs) (hx : k * 3 + 2 < xs.length) :
    Filled3 is (k + 1) (((xs.set (k * 3) (.int .i64 (ix is k).op)).set (k * 3 + 1) (.string (ix is k).text)).set (k * 3 + 2) (.int .i64 (ix is k).n)) := by
  intro i hi
  rcases Nat.lt_or_ge i k with hl | hl
  · obtain ⟨h1, h2, h3⟩ := h i hl
    simp only [List.getElem?_set]
    rw [if_neg (by omega), if_neg (by omega), if_neg (by omega), if_neg (by omega), if_neg (by omega), if_neg (by omega), if_neg (by omega), if_neg (by omega), if_neg (by omega)]
    exact ⟨h1, h2, h3⟩
  · obtain rfl : i = k := by omega
    simp [List.getElem?_set]
    omega

theorem row3_own {w : World} {B g n cap : Nat} {is : List I3} {xs : List Value} (hn : n = is.length) (h : w.ownsRow B 47 3 (.slice (some ⟨g, 0, none⟩) n cap) n xs) (hf : Filled3 is n xs) : Row3 w (some ⟨g, 0, none⟩) is := by
  subst hn
  intro i hi
  obtain ⟨h1, h2, h3⟩ := hf i hi
  refine ⟨g, 0, rfl, ?_, ?_, ?_⟩
  · rw [Nat.zero_add, h.cellAt _ (by omega)]; exact h1
  · rw [Nat.zero_add, h.cellAt _ (by omega)]; exact h2
  · rw [Nat.zero_add, h.cellAt _ (by omega)]; exact h3

end Go.Proofs.YtmcafdobfmheaaaGreatDoor
