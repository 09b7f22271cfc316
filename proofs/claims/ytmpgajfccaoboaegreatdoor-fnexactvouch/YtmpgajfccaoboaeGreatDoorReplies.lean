/-
  Replies: rows of replies told of cells; the walks of laws.szReply, szReplyS, toReply, toReplyS, eqReply, eqReplyS.
-/
import Derived.Test.YtmpgajfccaoboaeGreatDoorPlain
namespace Go.Proofs.YtmpgajfccaoboaeGreatDoor
open Go.RowKit
set_option linter.unusedVariables false

structure R3 where
  has : Bool
  code : Int
  text : ByteArray
def rr0 : R3 := ⟨false, 0, ByteArray.empty⟩
def rx (is : List R3) (i : Nat) : R3 := is.getD i rr0

/-- The slice's address leads to the instructions, in w. -/
def RowR (w : World) (a : Option Addr) (is : List R3) : Prop :=
  ∀ i, i < is.length → ∃ b off, a = some ⟨b, off, none⟩ ∧ w.cell? ⟨b, off + i * 3, none⟩ = some (.bool (rx is i).has) ∧ w.cell? ⟨b, off + i * 3 + 1, none⟩ = some (.int .i64 (rx is i).code) ∧ w.cell? ⟨b, off + i * 3 + 2, none⟩ = some (.string (rx is i).text)

theorem RowR.below {w w' : World} {a : Option Addr} {is : List R3} (h : RowR w a is) (hb : Below w.heap.size w w') : RowR w' a is := by
  intro i hi
  obtain ⟨b, off, ha, h1, h2, h3⟩ := h i hi
  exact ⟨b, off, ha, cell_below hb h1, cell_below hb h2, cell_below hb h3⟩

def totalR (is : List R3) : Nat := (is.map fun i => i.text.size).sum
theorem totalR_take_succ (is : List R3) (k : Nat) (h : k < is.length) : totalR (is.take (k + 1)) = totalR (is.take k) + (rx is k).text.size := by
  have e : is.take (k + 1) = is.take k ++ [is[k]] := List.take_succ_eq_append_getElem h
  unfold totalR rx
  rw [e, List.map_append, List.sum_append, List.getD_eq_getElem?_getD, List.getElem?_eq_getElem h]
  simp

/-- The first k instructions lie in the row. -/
def FilledR (is : List R3) (k : Nat) (xs : List Value) : Prop :=
  ∀ i, i < k → xs[i * 3]? = some (.bool (rx is i).has) ∧ xs[i * 3 + 1]? = some (.int .i64 (rx is i).code) ∧ xs[i * 3 + 2]? = some (.string (rx is i).text)

theorem filledR_set {is : List R3} {k : Nat} {xs : List Value} (h : FilledR is k xs) (hx : k * 3 + 2 < xs.length) :
    FilledR is (k + 1) (((xs.set (k * 3) (.bool (rx is k).has)).set (k * 3 + 1) (.int .i64 (rx is k).code)).set (k * 3 + 2) (.string (rx is k).text)) := by
  intro i hi
  rcases Nat.lt_or_ge i k with hl | hl
  · obtain ⟨h1, h2, h3⟩ := h i hl
    simp only [List.getElem?_set]
    rw [if_neg (by omega), if_neg (by omega), if_neg (by omega), if_neg (by omega), if_neg (by omega), if_neg (by omega), if_neg (by omega), if_neg (by omega), if_neg (by omega)]
    exact ⟨h1, h2, h3⟩
  · obtain rfl : i = k := by omega
    simp [List.getElem?_set]
    omega

theorem rowR_own {w : World} {B g n cap : Nat} {is : List R3} {xs : List Value} (hn : n = is.length) (h : w.ownsRow B 162 3 (.slice (some ⟨g, 0, none⟩) n cap) n xs) (hf : FilledR is n xs) : RowR w (some ⟨g, 0, none⟩) is := by
  subst hn
  intro i hi
  obtain ⟨h1, h2, h3⟩ := hf i hi
  refine ⟨g, 0, rfl, ?_, ?_, ?_⟩
  · rw [Nat.zero_add, h.cellAt _ (by omega)]; exact h1
  · rw [Nat.zero_add, h.cellAt _ (by omega)]; exact h2
  · rw [Nat.zero_add, h.cellAt _ (by omega)]; exact h3

theorem Tryz.info162 : (Tryz.prog.info? 162).map (fun i => (i.zero, i.size, i.bytes)) = some (some (.agg #[.bool false, .int .i64 0, .string ByteArray.empty]), 3, 32) := by kernel_rfl

theorem cell_of_lengthR {w : World} {B g n cap j : Nat} {xs : List Value} (h : w.ownsRow B 162 3 (.slice (some ⟨g, 0, none⟩) n cap) n xs) (hj : j < n * 3) : ∃ v, w.cell? ⟨g, j, none⟩ = some v := by
  have hl := h.1
  exact ⟨xs[j]'(by omega), by rw [h.cellAt j hj]; exact List.getElem?_eq_getElem _⟩

open Go.RowKit
set_option linter.unusedVariables false

def repOk (r : R3) : Bool := decide (r.text.size ≤ 2000) && decide (0 ≤ r.code) && decide (r.code ≤ 7)
def repsOk (rs : List R3) : Bool := decide (rs.length ≤ 200) && decide (∀ i, i < rs.length → repOk (rx rs i) = true)
theorem repsOk_at {rs : List R3} {k : Nat} (hk : k < rs.length) (h : repOk (rx rs k) = false) : repsOk rs = false := by
  rw [Bool.eq_false_iff]
  intro e
  simp only [repsOk, Bool.and_eq_true, decide_eq_true_eq] at e
  rw [e.2 k hk] at h
  cases h
theorem repOk_cases (r : R3) : (repOk r = false ∧ decide ((2000 : Int) < r.text.size) = true) ∨ (repOk r = false ∧ decide ((2000 : Int) < r.text.size) = false ∧ decide (r.code < 0) = true) ∨ (repOk r = false ∧ decide ((2000 : Int) < r.text.size) = false ∧ decide (r.code < 0) = false ∧ decide (7 < r.code) = true) ∨ (repOk r = true ∧ decide ((2000 : Int) < r.text.size) = false ∧ decide (r.code < 0) = false ∧ decide (7 < r.code) = false) := by
  unfold repOk
  by_cases h1 : 2000 < r.text.size <;> by_cases h2 : r.code < 0 <;> by_cases h3 : 7 < r.code <;> simp [h1, h2, h3] <;> omega

end Go.Proofs.YtmpgajfccaoboaeGreatDoor
