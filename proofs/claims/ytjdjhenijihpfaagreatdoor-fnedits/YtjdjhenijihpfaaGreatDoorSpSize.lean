import Derived.Test.YtjdjhenijihpfaaGreatDoorProg
import Derived.WalkKit
import Derived.WalkSpells
import Derived.WalkLawsBesides
import Derived.Deep.RegionHeld3
namespace Go.Proofs.YtjdjhenijihpfaaGreatDoor
open Go.RowKit

structure I3 where
  op : Int
  text : ByteArray
  n : Int
def i0 : I3 := ⟨0, ByteArray.empty, 0⟩
def ix (is : List I3) (i : Nat) : I3 := is.getD i i0

/-- The slice's address leads to the instructions, in w. -/
def Row3 (w : World) (a : Option Addr) (is : List I3) : Prop :=
  ∀ i, i < is.length → ∃ b off, a = some ⟨b, off, none⟩ ∧ w.cell? ⟨b, off + i * 3, none⟩ = some (.int .i64 (ix is i).op) ∧ w.cell? ⟨b, off + i * 3 + 1, none⟩ = some (.string (ix is i).text) ∧ w.cell? ⟨b, off + i * 3 + 2, none⟩ = some (.int .i64 (ix is i).n)

theorem cell_below {w w' : World} {b o : Nat} {v : Value} (hb : Below w.heap.size w w') (h : w.cell? ⟨b, o, none⟩ = some v) : w'.cell? ⟨b, o, none⟩ = some v :=
  (hb.cell (p := ⟨b, o, none⟩) (World.block_lt_of_cell? w _ h)).trans h

theorem Row3.below {w w' : World} {a : Option Addr} {is : List I3} (h : Row3 w a is) (hb : Below w.heap.size w w') : Row3 w' a is := by
  intro i hi
  obtain ⟨b, off, ha, h1, h2, h3⟩ := h i hi
  exact ⟨b, off, ha, cell_below hb h1, cell_below hb h2, cell_below hb h3⟩

theorem ownsRow_below {w w' : World} {base e size n : Nat} {v : Value} {xs : List Value} (h : w.ownsRow base e size v n xs) (hb : Below w.heap.size w w') : w'.ownsRow base e size v n xs := by
  refine ⟨h.1, ?_⟩
  rcases h.2 with h2 | ⟨g, cap, cur, hv, hg, hh, r⟩
  · exact Or.inl h2
  · refine Or.inr ⟨g, cap, cur, hv, hg, ?_, r⟩
    have hlt : g < w.heap.size := by
      rcases Nat.lt_or_ge g w.heap.size with h | h
      · exact h
      · rw [Array.getElem?_eq_none h] at hh; cases hh
    rw [hb.block g hlt]; exact hh

def total3 (is : List I3) : Nat := (is.map fun i => i.text.size).sum
theorem total3_take_succ (is : List I3) (k : Nat) (h : k < is.length) : total3 (is.take (k + 1)) = total3 (is.take k) + (ix is k).text.size := by
  have e : is.take (k + 1) = is.take k ++ [is[k]] := List.take_succ_eq_append_getElem h
  unfold total3 ix
  rw [e, List.map_append, List.sum_append, List.getD_eq_getElem?_getD, List.getElem?_eq_getElem h]
  simp

theorem str_eq {p q : ByteArray} (h : p = q) : (p.toList == q.toList) = true := by subst h; simp
theorem str_ne {p q : ByteArray} (h : p ≠ q) : (p.toList == q.toList) = false := by
  rw [beq_eq_false_iff_ne]
  intro e
  rw [ByteArray.toList_eq, ByteArray.toList_eq] at e
  exact h (WideShapes.bytes_inj e)

/-- The first k instructions lie in the row. -/
def Filled3 (is : List I3) (k : Nat) (xs : List Value) : Prop :=
  ∀ i, i < k → xs[i * 3]? = some (.int .i64 (ix is i).op) ∧ xs[i * 3 + 1]? = some (.string (ix is i).text) ∧ xs[i * 3 + 2]? = some (.int .i64 (ix is i).n)

theorem filled3_set {is : List I3} {k : Nat} {xs : List Value} (h : Filled3 is k xs) (hx : k * 3 + 2 < xs.length) :
    Filled3 is (k + 1) (((xs.set (k * 3) (.int .i64 (ix is k).op)).set (k * 3 + 1) (.string (ix is k).text)).set (k * 3 + 2) (.int .i64 (ix is k).n)) := by
  intro i hi
  rcases Nat.lt_or_ge i k with hl | hl
  · obtain ⟨h1, h2, h3⟩ := h i hl
    simp only [List.getElem?_set]
    rw [if_neg (by omega), if_neg (by omega), if_neg (by omega), if_neg (by omega), if_neg (by omega), if_neg (by omega), if_neg (by omega), if_neg (by omega), if_neg (by omega)]
    exact ⟨h1, h2, h3⟩
  · obtain rfl : i = k := by omega
    simp [List.getElem?_set]
    omega

theorem row3_own {w : World} {B g n cap : Nat} {is : List I3} {xs : List Value} (hn : n = is.length) (h : w.ownsRow B 84 3 (.slice (some ⟨g, 0, none⟩) n cap) n xs) (hf : Filled3 is n xs) : Row3 w (some ⟨g, 0, none⟩) is := by
  subst hn
  intro i hi
  obtain ⟨h1, h2, h3⟩ := hf i hi
  refine ⟨g, 0, rfl, ?_, ?_, ?_⟩
  · rw [Nat.zero_add, h.cellAt _ (by omega)]; exact h1
  · rw [Nat.zero_add, h.cellAt _ (by omega)]; exact h2
  · rw [Nat.zero_add, h.cellAt _ (by omega)]; exact h3

end Go.Proofs.YtjdjhenijihpfaaGreatDoor
namespace Go.Proofs.YtjdjhenijihpfaaGreatDoor
open Go.RowKit

theorem Tryz.info84 : (Tryz.prog.info? 84).map (fun i => (i.zero, i.size, i.bytes)) = some (some (.agg #[.int .i64 0, .string ByteArray.empty, .int .i64 0]), 3, 32) := by kernel_rfl

theorem cell_of_length {w : World} {B g n cap j : Nat} {xs : List Value} (h : w.ownsRow B 84 3 (.slice (some ⟨g, 0, none⟩) n cap) n xs) (hj : j < n * 3) : ∃ v, w.cell? ⟨g, j, none⟩ = some v := by
  have hl := h.1
  exact ⟨xs[j]'(by omega), by rw [h.cellAt j hj]; exact List.getElem?_eq_getElem _⟩

theorem Row3.setCell {w : World} {g : Nat} {is : List I3} (h : Row3 w (some ⟨g, 0, none⟩) is) {b j : Nat} (hb : b ≠ g) (v : Value) : Row3 (w.setCell ⟨b, j, none⟩ v) (some ⟨g, 0, none⟩) is := by
  intro i hi
  obtain ⟨b', off, ha, h1, h2, h3⟩ := h i hi
  cases ha
  have e : ∀ o, (w.setCell ⟨b, j, none⟩ v).cell? ⟨g, o, none⟩ = w.cell? ⟨g, o, none⟩ := fun o => World.cell?_of_block (w := w) (Below.heap_setCell w ⟨b, j, none⟩ v g (fun e => hb e.symm))
  exact ⟨g, 0, rfl, by rw [e]; exact h1, by rw [e]; exact h2, by rw [e]; exact h3⟩

theorem setCell_below {w w1 : World} {b j : Nat} (h : Below w.heap.size w w1) (hb : w.heap.size ≤ b) (v : Value) : Below w.heap.size w (w1.setCell ⟨b, j, none⟩ v) := h.setCell hb v

end Go.Proofs.YtjdjhenijihpfaaGreatDoor
namespace Go.Proofs.YtjdjhenijihpfaaGreatDoor
open Go.RowKit
set_option linter.unusedVariables false

structure G3 where
  name : ByteArray
  ask : Bool
  sum : ByteArray
def g00 : G3 := ⟨ByteArray.empty, false, ByteArray.empty⟩
def gx (is : List G3) (i : Nat) : G3 := is.getD i g00

def RowG (w : World) (a : Option Addr) (is : List G3) : Prop :=
  ∀ i, i < is.length → ∃ b off, a = some ⟨b, off, none⟩ ∧ w.cell? ⟨b, off + i * 3, none⟩ = some (.string (gx is i).name) ∧ w.cell? ⟨b, off + i * 3 + 1, none⟩ = some (.bool (gx is i).ask) ∧ w.cell? ⟨b, off + i * 3 + 2, none⟩ = some (.string (gx is i).sum)

theorem RowG.below {w w' : World} {a : Option Addr} {is : List G3} (h : RowG w a is) (hb : Below w.heap.size w w') : RowG w' a is := by
  intro i hi
  obtain ⟨b, off, ha, h1, h2, h3⟩ := h i hi
  exact ⟨b, off, ha, cell_below hb h1, cell_below hb h2, cell_below hb h3⟩
theorem RowG.setCell {w : World} {g : Nat} {is : List G3} (h : RowG w (some ⟨g, 0, none⟩) is) {b j : Nat} (hb : b ≠ g) (v : Value) : RowG (w.setCell ⟨b, j, none⟩ v) (some ⟨g, 0, none⟩) is := by
  intro i hi
  obtain ⟨b', off, ha, h1, h2, h3⟩ := h i hi
  cases ha
  have e : ∀ o, (w.setCell ⟨b, j, none⟩ v).cell? ⟨g, o, none⟩ = w.cell? ⟨g, o, none⟩ := fun o => World.cell?_of_block (w := w) (Below.heap_setCell w ⟨b, j, none⟩ v g (fun e => hb e.symm))
  exact ⟨g, 0, rfl, by rw [e]; exact h1, by rw [e]; exact h2, by rw [e]; exact h3⟩

def FilledG (is : List G3) (k : Nat) (xs : List Value) : Prop :=
  ∀ i, i < k → xs[i * 3]? = some (.string (gx is i).name) ∧ xs[i * 3 + 1]? = some (.bool (gx is i).ask) ∧ xs[i * 3 + 2]? = some (.string (gx is i).sum)
theorem filledG_set {is : List G3} {k : Nat} {xs : List Value} (h : FilledG is k xs) (hx : k * 3 + 2 < xs.length) :
    FilledG is (k + 1) (((xs.set (k * 3) (.string (gx is k).name)).set (k * 3 + 1) (.bool (gx is k).ask)).set (k * 3 + 2) (.string (gx is k).sum)) := by
  intro i hi
  rcases Nat.lt_or_ge i k with hl | hl
  · obtain ⟨h1, h2, h3⟩ := h i hl
    simp only [List.getElem?_set]
    rw [if_neg (by omega), if_neg (by omega), if_neg (by omega), if_neg (by omega), if_neg (by omega), if_neg (by omega), if_neg (by omega), if_neg (by omega), if_neg (by omega)]
    exact ⟨h1, h2, h3⟩
  · obtain rfl : i = k := by omega
    simp [List.getElem?_set]
    omega
theorem rowG_own {w : World} {B g n cap T : Nat} {is : List G3} {xs : List Value} (hn : n = is.length) (h : w.ownsRow B T 3 (.slice (some ⟨g, 0, none⟩) n cap) n xs) (hf : FilledG is n xs) : RowG w (some ⟨g, 0, none⟩) is := by
  subst hn
  intro i hi
  obtain ⟨h1, h2, h3⟩ := hf i hi
  refine ⟨g, 0, rfl, ?_, ?_, ?_⟩
  · rw [Nat.zero_add, h.cellAt _ (by omega)]; exact h1
  · rw [Nat.zero_add, h.cellAt _ (by omega)]; exact h2
  · rw [Nat.zero_add, h.cellAt _ (by omega)]; exact h3
theorem cell_of_length3 {w : World} {B g n cap j T : Nat} {xs : List Value} (h : w.ownsRow B T 3 (.slice (some ⟨g, 0, none⟩) n cap) n xs) (hj : j < n * 3) : ∃ v, w.cell? ⟨g, j, none⟩ = some v := by
  have hl := h.1
  exact ⟨xs[j]'(by omega), by rw [h.cellAt j hj]; exact List.getElem?_eq_getElem _⟩
theorem ext_succ {P : Nat → Prop} {k : Nat} (h : ∀ i, i < k → P i) (hk : P k) : ∀ i, i < k + 1 → P i := by
  intro i hi
  rcases Nat.lt_or_ge i k with h1 | h1
  · exact h i h1
  · obtain rfl : i = k := by omega
    exact hk
theorem bt {w a b : World} (h : Below w.heap.size w a) (k : Below a.heap.size a b) : Below w.heap.size w b := h.trans (k.mono h.size)

theorem Tryz.info133 : (Tryz.prog.info? 133).map (fun i => (i.zero, i.size, i.bytes)) = some (some (.agg #[.string ByteArray.empty, .bool false, .string ByteArray.empty]), 3, 40) := by kernel_rfl

end Go.Proofs.YtjdjhenijihpfaaGreatDoor
namespace Go.Proofs.YtjdjhenijihpfaaGreatDoor
open Go.RowKit
set_option linter.unusedVariables false

/-- The hypotheses on a record that its reading gives. -/
structure RecOk (w : World) (a : Option Addr) (is : List I3) (la : Option Addr) (gs : List G3) (out : ByteArray) : Prop where
  rc : Row3 w a is
  rg : RowG w la gs
  lc : is.length ≤ maxLen
  lg : gs.length ≤ maxLen
  xc : ∀ i, (ix is i).text.size ≤ maxLen
  ng : ∀ i, (gx gs i).name.size ≤ maxLen
  sg : ∀ i, (gx gs i).sum.size ≤ maxLen
  so : out.size ≤ maxLen

end Go.Proofs.YtjdjhenijihpfaaGreatDoor
namespace Go.Proofs.YtjdjhenijihpfaaGreatDoor
open Go.RowKit
set_option linter.unusedVariables false

structure S2 where
  name : ByteArray
  text : ByteArray
def sx (is : List S2) (i : Nat) : S2 := is.getD i ⟨ByteArray.empty, ByteArray.empty⟩
structure T2 where
  name : ByteArray
  code : List I3
def tx (is : List T2) (i : Nat) : T2 := is.getD i ⟨ByteArray.empty, []⟩

/-- The slice's address leads to the sources, in w. -/
def RowS (w : World) (a : Option Addr) (is : List S2) : Prop :=
  ∀ i, i < is.length → ∃ b off, a = some ⟨b, off, none⟩ ∧ w.cell? ⟨b, off + i * 2, none⟩ = some (.string (sx is i).name) ∧ w.cell? ⟨b, off + i * 2 + 1, none⟩ = some (.string (sx is i).text)
/-- The slice's address leads to the targets, in w. -/
def RowT (w : World) (a : Option Addr) (is : List T2) : Prop :=
  ∀ i, i < is.length → ∃ b off, a = some ⟨b, off, none⟩ ∧ w.cell? ⟨b, off + i * 2, none⟩ = some (.string (tx is i).name) ∧ ∃ a' cap', w.cell? ⟨b, off + i * 2 + 1, none⟩ = some (.slice a' (tx is i).code.length cap') ∧ Row3 w a' (tx is i).code

theorem RowS.below {w w' : World} {a : Option Addr} {is : List S2} (h : RowS w a is) (hb : Below w.heap.size w w') : RowS w' a is := by
  intro i hi
  obtain ⟨b, off, ha, h1, h2⟩ := h i hi
  exact ⟨b, off, ha, cell_below hb h1, cell_below hb h2⟩
theorem RowT.below {w w' : World} {a : Option Addr} {is : List T2} (h : RowT w a is) (hb : Below w.heap.size w w') : RowT w' a is := by
  intro i hi
  obtain ⟨b, off, ha, h1, a', cap', h2, h3⟩ := h i hi
  exact ⟨b, off, ha, cell_below hb h1, a', cap', cell_below hb h2, h3.below hb⟩

/-! ### sizes -/
/-- The hypotheses on a space that its reading gives. -/
structure SpOk (w : World) (sa : Option Addr) (ss : List S2) (ta : Option Addr) (ts : List T2) : Prop where
  rs : RowS w sa ss
  rt : RowT w ta ts
  ls : ss.length ≤ maxLen
  lt : ts.length ≤ maxLen
  ns : ∀ i, (sx ss i).name.size ≤ maxLen
  xs : ∀ i, (sx ss i).text.size ≤ maxLen
  nt : ∀ i, (tx ts i).name.size ≤ maxLen
  lc : ∀ i, (tx ts i).code.length ≤ maxLen
  xt : ∀ i j, (ix (tx ts i).code j).text.size ≤ maxLen
/-- What the law's look at the size leaves. -/
structure SpSmall (ss : List S2) (ts : List T2) : Prop where
  ls : ss.length ≤ 1048576
  lt : ts.length ≤ 1048576
  lc : ∀ i, i < ts.length → (tx ts i).code.length ≤ 1048576

end Go.Proofs.YtjdjhenijihpfaaGreatDoor
