import Derived.Test.YtjdjhenijihpfaaGreatDoorSpSize
namespace Go.Proofs.YtjdjhenijihpfaaGreatDoor
open Go.RowKit
set_option linter.unusedVariables false

theorem RowS.setCell {w : World} {g : Nat} {is : List S2} (h : RowS w (some ⟨g, 0, none⟩) is) {b j : Nat} (hb : b ≠ g) (v : Value) : RowS (w.setCell ⟨b, j, none⟩ v) (some ⟨g, 0, none⟩) is := by
  intro i hi
  obtain ⟨b', off, ha, h1, h2⟩ := h i hi
  cases ha
  have e : ∀ o, (w.setCell ⟨b, j, none⟩ v).cell? ⟨g, o, none⟩ = w.cell? ⟨g, o, none⟩ := fun o => World.cell?_of_block (w := w) (Below.heap_setCell w ⟨b, j, none⟩ v g (fun e => hb e.symm))
  exact ⟨g, 0, rfl, by rw [e]; exact h1, by rw [e]; exact h2⟩

/-- Targets of our own making: the row at a block, each action's row at a block that is none of those below B. -/
def RowTo (w : World) (B : Nat) (g : Nat) (is : List T2) : Prop :=
  B ≤ g ∧ ∀ i, i < is.length → w.cell? ⟨g, i * 2, none⟩ = some (.string (tx is i).name) ∧ ∃ g', B ≤ g' ∧ w.cell? ⟨g, i * 2 + 1, none⟩ = some (.slice (some ⟨g', 0, none⟩) (tx is i).code.length (tx is i).code.length) ∧ Row3 w (some ⟨g', 0, none⟩) (tx is i).code
theorem RowTo.row {w : World} {B g : Nat} {is : List T2} (h : RowTo w B g is) : RowT w (some ⟨g, 0, none⟩) is := by
  intro i hi
  obtain ⟨h1, g', _, h2, h3⟩ := h.2 i hi
  exact ⟨g, 0, rfl, by rw [Nat.zero_add]; exact h1, _, _, by rw [Nat.zero_add]; exact h2, h3⟩
theorem RowTo.setCell {w : World} {B g : Nat} {is : List T2} (h : RowTo w B g is) {b j : Nat} (hb : b < B) (v : Value) : RowTo (w.setCell ⟨b, j, none⟩ v) B g is := by
  refine ⟨h.1, fun i hi => ?_⟩
  obtain ⟨h1, g', hg, h2, h3⟩ := h.2 i hi
  have hB := h.1
  have e : ∀ o, (w.setCell ⟨b, j, none⟩ v).cell? ⟨g, o, none⟩ = w.cell? ⟨g, o, none⟩ := fun o => World.cell?_of_block (w := w) (Below.heap_setCell w ⟨b, j, none⟩ v g (by simp; omega))
  exact ⟨by rw [e]; exact h1, g', hg, by rw [e]; exact h2, h3.setCell (by omega) v⟩

def FilledS (is : List S2) (k : Nat) (xs : List Value) : Prop :=
  ∀ i, i < k → xs[i * 2]? = some (.string (sx is i).name) ∧ xs[i * 2 + 1]? = some (.string (sx is i).text)
theorem filledS_set {is : List S2} {k : Nat} {xs : List Value} (h : FilledS is k xs) (hx : k * 2 + 1 < xs.length) :
    FilledS is (k + 1) ((xs.set (k * 2) (.string (sx is k).name)).set (k * 2 + 1) (.string (sx is k).text)) := by
  intro i hi
  rcases Nat.lt_or_ge i k with hl | hl
  · obtain ⟨h1, h2⟩ := h i hl
    simp only [List.getElem?_set]
    rw [if_neg (by omega), if_neg (by omega), if_neg (by omega), if_neg (by omega)]
    exact ⟨h1, h2⟩
  · obtain rfl : i = k := by omega
    simp [List.getElem?_set]
    omega
def FilledT (w : World) (B : Nat) (is : List T2) (k : Nat) (xs : List Value) : Prop :=
  ∀ i, i < k → xs[i * 2]? = some (.string (tx is i).name) ∧ ∃ g', B < g' ∧ xs[i * 2 + 1]? = some (.slice (some ⟨g', 0, none⟩) (tx is i).code.length (tx is i).code.length) ∧ Row3 w (some ⟨g', 0, none⟩) (tx is i).code
theorem filledT_set {w : World} {B : Nat} {is : List T2} {k g : Nat} {xs : List Value} (h : FilledT w B is k xs) (hx : k * 2 + 1 < xs.length) (hg : B < g) (hr : Row3 w (some ⟨g, 0, none⟩) (tx is k).code) :
    FilledT w B is (k + 1) ((xs.set (k * 2) (.string (tx is k).name)).set (k * 2 + 1) (.slice (some ⟨g, 0, none⟩) (tx is k).code.length (tx is k).code.length)) := by
  intro i hi
  rcases Nat.lt_or_ge i k with hl | hl
  · obtain ⟨h1, g', h2, h3, h4⟩ := h i hl
    simp only [List.getElem?_set]
    rw [if_neg (by omega), if_neg (by omega), if_neg (by omega), if_neg (by omega)]
    exact ⟨h1, g', h2, h3, h4⟩
  · obtain rfl : i = k := by omega
    refine ⟨?_, g, hg, ?_, hr⟩
    · simp [List.getElem?_set]; omega
    · simp [List.getElem?_set]; omega
theorem FilledT.setCell {w : World} {B : Nat} {is : List T2} {k : Nat} {xs : List Value} (h : FilledT w B is k xs) (j : Nat) (v : Value) : FilledT (w.setCell ⟨B, j, none⟩ v) B is k xs := by
  intro i hi
  obtain ⟨h1, g', h2, h3, h4⟩ := h i hi
  exact ⟨h1, g', h2, h3, h4.setCell (by omega) v⟩
theorem FilledT.below {w w' : World} {B : Nat} {is : List T2} {k : Nat} {xs : List Value} (h : FilledT w B is k xs) (hb : Below w.heap.size w w') : FilledT w' B is k xs := by
  intro i hi
  obtain ⟨h1, g', h2, h3, h4⟩ := h i hi
  exact ⟨h1, g', h2, h3, h4.below hb⟩

theorem rowS_own {w : World} {B g n cap : Nat} {is : List S2} {xs : List Value} (hn : n = is.length) (h : w.ownsRow B 60 2 (.slice (some ⟨g, 0, none⟩) n cap) n xs) (hf : FilledS is n xs) : RowS w (some ⟨g, 0, none⟩) is := by
  subst hn
  intro i hi
  obtain ⟨h1, h2⟩ := hf i hi
  refine ⟨g, 0, rfl, ?_, ?_⟩
  · rw [Nat.zero_add, h.cellAt _ (by omega)]; exact h1
  · rw [Nat.zero_add, h.cellAt _ (by omega)]; exact h2
theorem rowT_own {w : World} {g n cap : Nat} {is : List T2} {xs : List Value} (hn : n = is.length) (h : w.ownsRow g 64 2 (.slice (some ⟨g, 0, none⟩) n cap) n xs) (hf : FilledT w g is n xs) : RowTo w g g is := by
  subst hn
  refine ⟨Nat.le_refl _, fun i hi => ?_⟩
  obtain ⟨h1, g', h2, h3, h4⟩ := hf i hi
  refine ⟨?_, g', by omega, ?_, h4⟩
  · rw [h.cellAt _ (by omega)]; exact h1
  · rw [h.cellAt _ (by omega)]; exact h3

theorem Tryz.info60 : (Tryz.prog.info? 60).map (fun i => (i.zero, i.size, i.bytes)) = some (some (.agg #[.string ByteArray.empty, .string ByteArray.empty]), 2, 32) := by kernel_rfl
theorem Tryz.info64 : (Tryz.prog.info? 64).map (fun i => (i.zero, i.size, i.bytes)) = some (some (.agg #[.string ByteArray.empty, .slice none 0 0]), 2, 40) := by kernel_rfl

theorem cell_of_length2 {w : World} {B g n cap j T : Nat} {xs : List Value} (h : w.ownsRow B T 2 (.slice (some ⟨g, 0, none⟩) n cap) n xs) (hj : j < n * 2) : ∃ v, w.cell? ⟨g, j, none⟩ = some v := by
  have hl := h.1
  exact ⟨xs[j]'(by omega), by rw [h.cellAt j hj]; exact List.getElem?_eq_getElem _⟩

end Go.Proofs.YtjdjhenijihpfaaGreatDoor
namespace Go.Proofs.YtjdjhenijihpfaaGreatDoor
open Go.RowKit
set_option linter.unusedVariables false

end Go.Proofs.YtjdjhenijihpfaaGreatDoor
