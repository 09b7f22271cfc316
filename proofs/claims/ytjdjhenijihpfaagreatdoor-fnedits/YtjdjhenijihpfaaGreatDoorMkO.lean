import Derived.Test.YtjdjhenijihpfaaGreatDoorSpSize
import Derived.Test.YtjdjhenijihpfaaGreatDoorAsc
namespace Go.Proofs.YtjdjhenijihpfaaGreatDoor
open Go.RowKit
set_option linter.unusedVariables false

def digM (n : Nat) : ByteArray := ⟨#[UInt8.ofNat (48 + n)]⟩
theorem dig_byteM (d : Nat) (h : d < 10) : ((UInt8.ofNat (48 + d)).toNat : Int) = 48 + d := by rw [UInt8.toNat_ofNat']; omega
theorem conv_oneM (W : World) (g : Nat) (c : Int) (u : UInt8) (hu : (u.toNat : Int) = c) (h : W.cell? ⟨g, 0, none⟩ = some (.int .u8 c)) : (convert 22 9 (.slice (some ⟨g, 0, none⟩) 1 1)).run Tryz.prog W = .ok (.string ⟨#[u]⟩) W := by
  subst hu
  exact run_convert_bytes_back (P := Tryz.prog) W 22 9 5 ⟨g, 0, none⟩ 1 [u] Tryz.underlying22 Tryz.underlying5 Tryz.underlying9 (fun t ht => by
    obtain rfl : t = 0 := by simp at ht; omega
    simpa [Addr.add] using h)


/-- The decimal of k ahead of a text. -/
def mtL : Nat → Nat → ByteArray → ByteArray
  | 0, _, out => out
  | f + 1, k, out => if k = 0 then out else mtL f (k / 10) (digM (k % 10) ++ out)
theorem mtL_zero (f : Nat) (out : ByteArray) : mtL f 0 out = out := by cases f <;> simp [mtL]
def mt (k : Nat) : ByteArray := ⟨#[109]⟩ ++ mtL 16 k ⟨#[]⟩

end Go.Proofs.YtjdjhenijihpfaaGreatDoor
namespace Go.Proofs.YtjdjhenijihpfaaGreatDoor
open Go.RowKit
set_option linter.unusedVariables false

/-- All blocks but g stay. -/
def KeepB (g : Nat) (w w' : World) : Prop := ∀ b, b < w.heap.size → b ≠ g → w'.heap[b]? = w.heap[b]?
theorem KeepB.set {g : Nat} {w w' : World} (h : KeepB g w w') (j : Nat) (v : Value) : KeepB g w (w'.setCell ⟨g, j, none⟩ v) := fun b hb hne => by
  rw [Below.heap_setCell w' ⟨g, j, none⟩ v b hne]; exact h b hb hne
theorem KeepB.below {g : Nat} {w w' w2 : World} (h : KeepB g w w') (hs : w.heap.size ≤ w'.heap.size) (hb : Below w'.heap.size w' w2) : KeepB g w w2 := fun b hl hne => by
  rw [hb.block b (by omega)]; exact h b hl hne

/-- The first n instructions of the row bear the marks from K on. -/
def MkI (K n : Nat) (ys : List Value) : Prop := ∀ i, i < n → ys[i * 3]? = some (.int .i64 ((K + 3 * i : Nat) : Int)) ∧ ys[i * 3 + 1]? = some (.string (mt (K + 3 * i + 1))) ∧ ys[i * 3 + 2]? = some (.int .i64 ((K + 3 * i + 2 : Nat) : Int))
theorem mkI_set {K k : Nat} {ys : List Value} (h : MkI K k ys) (hx : k * 3 + 2 < ys.length) :
    MkI K (k + 1) (((ys.set (k * 3) (.int .i64 ((K + 3 * k : Nat) : Int))).set (k * 3 + 1) (.string (mt (K + 3 * k + 1)))).set (k * 3 + 2) (.int .i64 ((K + 3 * k + 2 : Nat) : Int))) := by
  intro i hi
  rcases Nat.lt_or_ge i k with hl | hl
  · obtain ⟨h1, h2, h3⟩ := h i hl
    simp only [List.getElem?_set]
    rw [if_neg (by omega), if_neg (by omega), if_neg (by omega), if_neg (by omega), if_neg (by omega), if_neg (by omega), if_neg (by omega), if_neg (by omega), if_neg (by omega)]
    exact ⟨h1, h2, h3⟩
  · obtain rfl : i = k := by omega
    refine ⟨?_, ?_, ?_⟩ <;> simp [List.getElem?_set] <;> omega

/-- The marks are read back. -/
def RdI (K n : Nat) (w : World) (g : Nat) : Prop := ∀ i, i < n → w.cell? ⟨g, i * 3, none⟩ = some (.int .i64 ((K + 3 * i : Nat) : Int)) ∧ w.cell? ⟨g, i * 3 + 1, none⟩ = some (.string (mt (K + 3 * i + 1))) ∧ w.cell? ⟨g, i * 3 + 2, none⟩ = some (.int .i64 ((K + 3 * i + 2 : Nat) : Int))
theorem MkI.read {w : World} {B g n cap K : Nat} {ys : List Value} (h : w.ownsRow B 84 3 (.slice (some ⟨g, 0, none⟩) n cap) n ys) (hm : MkI K n ys) : RdI K n w g := by
  intro i hi
  obtain ⟨h1, h2, h3⟩ := hm i hi
  exact ⟨by rw [h.cellAt _ (by omega)]; exact h1, by rw [h.cellAt _ (by omega)]; exact h2, by rw [h.cellAt _ (by omega)]; exact h3⟩
theorem RdI.below {w w' : World} {g n K : Nat} (h : RdI K n w g) (hb : Below w.heap.size w w') : RdI K n w' g := fun i hi =>
  ⟨cell_below hb (h i hi).1, cell_below hb (h i hi).2.1, cell_below hb (h i hi).2.2⟩

end Go.Proofs.YtjdjhenijihpfaaGreatDoor
namespace Go.Proofs.YtjdjhenijihpfaaGreatDoor
open Go.RowKit
set_option linter.unusedVariables false

def mb (k : Nat) : Bool := decide (k % 3 = 0)
/-- The first n looks of the row bear the marks from K on. -/
def MkG (K n : Nat) (ys : List Value) : Prop := ∀ i, i < n → ys[i * 3]? = some (.string (mt (K + 3 * i))) ∧ ys[i * 3 + 1]? = some (.bool (mb (K + 3 * i + 1))) ∧ ys[i * 3 + 2]? = some (.string (mt (K + 3 * i + 2)))
theorem mkG_set {K k : Nat} {ys : List Value} (h : MkG K k ys) (hx : k * 3 + 2 < ys.length) :
    MkG K (k + 1) (((ys.set (k * 3) (.string (mt (K + 3 * k)))).set (k * 3 + 1) (.bool (mb (K + 3 * k + 1)))).set (k * 3 + 2) (.string (mt (K + 3 * k + 2)))) := by
  intro i hi
  rcases Nat.lt_or_ge i k with hl | hl
  · obtain ⟨h1, h2, h3⟩ := h i hl
    simp only [List.getElem?_set]
    rw [if_neg (by omega), if_neg (by omega), if_neg (by omega), if_neg (by omega), if_neg (by omega), if_neg (by omega), if_neg (by omega), if_neg (by omega), if_neg (by omega)]
    exact ⟨h1, h2, h3⟩
  · obtain rfl : i = k := by omega
    refine ⟨?_, ?_, ?_⟩ <;> simp [List.getElem?_set] <;> omega
theorem rem3 (c : Nat) : (((c : Int) + 1) % 3 == 0) = mb (c + 1) := by
  unfold mb
  rw [Bool.eq_iff_iff]
  simp
  omega

end Go.Proofs.YtjdjhenijihpfaaGreatDoor
namespace Go.Proofs.YtjdjhenijihpfaaGreatDoor
open Go.RowKit
set_option linter.unusedVariables false

theorem cell_of_length1 {w : World} {B g n cap j T : Nat} {xs : List Value} (h : w.ownsRow B T 1 (.slice (some ⟨g, 0, none⟩) n cap) n xs) (hj : j < n) : ∃ v, w.cell? ⟨g, j, none⟩ = some v := by
  have hl := h.1
  exact ⟨xs[j]'(by omega), by rw [h.cellAt j (by omega)]; exact List.getElem?_eq_getElem _⟩

/-- The marks are read back. -/
def RdG (K n : Nat) (w : World) (g : Nat) : Prop := ∀ i, i < n → w.cell? ⟨g, i * 3, none⟩ = some (.string (mt (K + 3 * i))) ∧ w.cell? ⟨g, i * 3 + 1, none⟩ = some (.bool (mb (K + 3 * i + 1))) ∧ w.cell? ⟨g, i * 3 + 2, none⟩ = some (.string (mt (K + 3 * i + 2)))
theorem MkG.read {w : World} {B g n cap K T : Nat} {ys : List Value} (h : w.ownsRow B T 3 (.slice (some ⟨g, 0, none⟩) n cap) n ys) (hm : MkG K n ys) : RdG K n w g := by
  intro i hi
  obtain ⟨h1, h2, h3⟩ := hm i hi
  exact ⟨by rw [h.cellAt _ (by omega)]; exact h1, by rw [h.cellAt _ (by omega)]; exact h2, by rw [h.cellAt _ (by omega)]; exact h3⟩
theorem RdG.below {w w' : World} {g n K : Nat} (h : RdG K n w g) (hb : Below w.heap.size w w') : RdG K n w' g := fun i hi =>
  ⟨cell_below hb (h i hi).1, cell_below hb (h i hi).2.1, cell_below hb (h i hi).2.2⟩

end Go.Proofs.YtjdjhenijihpfaaGreatDoor
namespace Go.Proofs.YtjdjhenijihpfaaGreatDoor
open Go.RowKit
set_option linter.unusedVariables false

/-- All blocks but one stay. -/
def KeepO (ob : Option Nat) (w w' : World) : Prop := ∀ b, b < w.heap.size → some b ≠ ob → w'.heap[b]? = w.heap[b]?
theorem KeepO.below {ob : Option Nat} {w w' w2 : World} (h : KeepO ob w w') (hs : w.heap.size ≤ w'.heap.size) (hb : Below w'.heap.size w' w2) : KeepO ob w w2 := fun b hl hne => by
  rw [hb.block b (by omega)]; exact h b hl hne
theorem KeepO.after {ob : Option Nat} {w w1 w' : World} (h : KeepO ob w1 w') (hb : Below w.heap.size w w1) : KeepO ob w w' := fun b hl hne => by
  rw [h b (Nat.lt_of_lt_of_le hl hb.size) hne]; exact hb.block b hl
theorem own_lt {w : World} {B e sz n : Nat} {v : Value} {xs : List Value} (h : w.ownsRow B e sz v n xs) {b : Nat} (hb : v.ownBlock = some b) : B ≤ b ∧ b < w.heap.size := h.lt b hb
theorem own_keep {w w' : World} {B e sz n : Nat} {v : Value} {xs : List Value} {ob : Option Nat} (h : w.ownsRow B e sz v n xs) (hk : KeepO ob w w') (hne : ∀ b, v.ownBlock = some b → some b ≠ ob) : w'.ownsRow B e sz v n xs := by
  refine ⟨h.1, ?_⟩
  rcases h.2 with h2 | ⟨g, cap, cur, hv, hg, hh, r⟩
  · exact Or.inl h2
  · refine Or.inr ⟨g, cap, cur, hv, hg, ?_, r⟩
    subst hv
    rw [hk g (h.lt g rfl).2 (hne g rfl)]; exact hh
theorem own_set {w : World} {B e sz n g cap : Nat} {xs : List Value} (h : w.ownsRow B e sz (.slice (some ⟨g, 0, none⟩) n cap) n xs) {b j : Nat} (hb : b ≠ g) (v : Value) : (w.setCell ⟨b, j, none⟩ v).ownsRow B e sz (.slice (some ⟨g, 0, none⟩) n cap) n xs := by
  refine ⟨h.1, ?_⟩
  rcases h.2 with ⟨h2, _⟩ | ⟨g', cap, cur, hv, hg, hh, r⟩
  · cases h2
  · cases hv
    refine Or.inr ⟨g, cap, cur, rfl, hg, ?_, r⟩
    rw [Below.heap_setCell w ⟨b, j, none⟩ v g (fun e => hb e.symm)]; exact hh
theorem own_base {w : World} {B B' e sz n : Nat} {v : Value} {xs : List Value} (h : w.ownsRow B e sz v n xs) (hB : B' ≤ B) : w.ownsRow B' e sz v n xs := by
  refine ⟨h.1, ?_⟩
  rcases h.2 with h | ⟨g, cap, cur, hv, hg, r⟩
  · exact Or.inl h
  · exact Or.inr ⟨g, cap, cur, hv, Nat.le_trans hB hg, r⟩
theorem own_cases {w : World} {B e sz n : Nat} {v : Value} {xs : List Value} (h : w.ownsRow B e sz v n xs) : (v = .slice none 0 0 ∧ n = 0) ∨ ∃ g cap, v = .slice (some ⟨g, 0, none⟩) n cap := by
  rcases h.2 with h | ⟨g, cap, cur, hv, hg, r⟩
  · exact Or.inl h
  · exact Or.inr ⟨g, cap, hv⟩

end Go.Proofs.YtjdjhenijihpfaaGreatDoor
