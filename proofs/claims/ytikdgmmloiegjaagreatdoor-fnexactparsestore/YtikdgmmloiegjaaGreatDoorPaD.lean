import Derived.Test.YtikdgmmloiegjaaGreatDoorPaC
import Derived.Deep.AppendLies
namespace Go.Proofs.YtikdgmmloiegjaaGreatDoor
open Go.RowKit
set_option linter.unusedVariables false

def insC1 (i : I3) : List Value := [.int .i64 i.op, .string i.text, .int .i64 i.n]
def insC (is : List I3) : List Value := is.flatMap insC1
theorem insC_length (is : List I3) : (insC is).length = is.length * 3 := by
  unfold insC
  induction is with
  | nil => rfl
  | cons e r ih => rw [List.flatMap_cons, List.length_append, ih]; simp [insC1]; omega
theorem insC_app (is js : List I3) : insC (is ++ js) = insC is ++ insC js := by simp [insC]
theorem insC_one (is : List I3) : ∀ u ∈ insC is, u.oneCell' = true := by
  intro u hu
  unfold insC at hu
  rw [List.mem_flatMap] at hu
  obtain ⟨i, _, hi⟩ := hu
  simp [insC1] at hi
  rcases hi with rfl | rfl | rfl <;> rfl
theorem insC_get : ∀ (is : List I3) (i j : Nat), i < is.length → j < 3 → (insC is)[i * 3 + j]? = (insC1 (ix is i))[j]?
  | [], i, j, h, _ => by simp at h
  | e :: r, 0, j, h, hj => by
    unfold insC
    rw [List.flatMap_cons, Nat.zero_mul, Nat.zero_add, List.getElem?_append_left (by simp [insC1]; omega)]
    rfl
  | e :: r, i + 1, j, h, hj => by
    have := insC_get r i j (by simpa using h) hj
    unfold insC at this ⊢
    rw [List.flatMap_cons, List.getElem?_append_right (by simp [insC1]; omega)]
    have e1 : (i + 1) * 3 + j - (insC1 e).length = i * 3 + j := by simp [insC1]; omega
    rw [e1, this]
    rfl
theorem own_keepD {w w' : World} {B e sz n : Nat} {v : Value} {xs : List Value} (h : w.ownsRow B e sz v n xs) (hk : ∀ b, B ≤ b → b < w.heap.size → w'.heap[b]? = w.heap[b]?) : w'.ownsRow B e sz v n xs := by
  refine ⟨h.1, ?_⟩
  rcases h.2 with k | ⟨g, cap, cur, e1, hg, hh, r⟩
  · exact Or.inl k
  · have hlt : g < w.heap.size := by
      rcases Nat.lt_or_ge g w.heap.size with q | q
      · exact q
      · rw [Array.getElem?_eq_none q] at hh; cases hh
    exact Or.inr ⟨g, cap, cur, e1, hg, by rw [hk g hg hlt]; exact hh, r⟩
theorem heap_newD (w : World) (o : Obj) : (w.alloc o).heap[w.heap.size]? = some o := alloc_here w o
/-- A list of instructions in memory of our own. -/
def RowI (B : Nat) (v : Value) (is : List I3) (w : World) : Prop := w.ownsRow B 56 3 v is.length (insC is)
theorem RowI.below {B : Nat} {v : Value} {is : List I3} {w w' : World} (h : RowI B v is w) (hb : Below w.heap.size w w') : RowI B v is w' := own_keepD h (fun b _ hb' => hb.block b hb')
theorem RowI.shape {B : Nat} {v : Value} {is : List I3} {w : World} (h : RowI B v is w) (h0 : is ≠ []) : ∃ g cap, v = .slice (some ⟨g, 0, none⟩) is.length cap ∧ B ≤ g := by
  rcases h.2 with ⟨_, h2⟩ | ⟨g, cap, cur, hv, hg, _⟩
  · exact absurd (List.eq_nil_of_length_eq_zero h2) h0
  · exact ⟨g, cap, hv, hg⟩
theorem RowI.nil {B : Nat} {v : Value} {w : World} (h : RowI B v [] w) : (v = .slice none 0 0) ∨ ∃ g cap, v = .slice (some ⟨g, 0, none⟩) 0 cap ∧ B ≤ g := by
  rcases h.2 with ⟨h1, _⟩ | ⟨g, cap, cur, hv, hg, _⟩
  · exact Or.inl h1
  · exact Or.inr ⟨g, cap, hv, hg⟩

/-- What readCode gives. -/
def CodeP (p : Nat → Addr) (B : Nat) : PO → Value → World → Prop
  | .good is, v, w => ∃ x, v = .tuple #[x, .nilIface] ∧ RowI B x is w ∧ is ≠ [] ∧ is.length ≤ 200
  | .bad c l, v, w => (c = 1 ∧ l = 0 ∧ v = .tuple #[.slice none 0 0, .iface 150 (.pointer (some (p 1)))]) ∨ (c = 2 ∧ l ≤ 1500000 ∧ ∃ a, v = .tuple #[.slice none 0 0, .iface 84 (.agg #[.int .i64 l, .iface 150 (.pointer (some a))])]) ∨ (c = 3 ∧ l = 0 ∧ v = .tuple #[.slice none 0 0, .iface 150 (.pointer (some (p 3)))])
theorem Tryz.info47b : (Tryz.prog.info? 56).map (fun i => (i.zero, i.size, i.bytes)) = some (some (.agg #[.int .i64 0, .string ⟨#[]⟩, .int .i64 0]), 3, 32) := by kernel_rfl
theorem insC_snoc (is : List I3) (i : I3) : insC is ++ [.int .i64 i.op, .string i.text, .int .i64 i.n] = insC (is ++ [i]) := by rw [insC_app]; simp [insC, insC1]
theorem take_snoc200 (is : List I3) (i : I3) (h : is.length < 200) : (is ++ [i]).take 200 = is.take 200 ++ [i] := by
  rw [List.take_of_length_le (by simp; omega), List.take_of_length_le (by omega)]
theorem take_far (is : List I3) (i : I3) (h : 200 ≤ is.length) : (is ++ [i]).take 200 = is.take 200 := by
  rw [List.take_append_of_le_length h]

end Go.Proofs.YtikdgmmloiegjaaGreatDoor
