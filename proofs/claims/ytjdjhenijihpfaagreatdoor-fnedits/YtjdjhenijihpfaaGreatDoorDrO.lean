import Derived.Test.YtjdjhenijihpfaaGreatDoorSpSize
import Derived.Test.YtjdjhenijihpfaaGreatDoorValidP
import Derived.Deep.AppendLies
import Derived.Lib.ItoaNum
import Derived.Deep.RegionWith
import Derived.Deep.RegionHeld3
namespace Go.Proofs.YtjdjhenijihpfaaGreatDoor
open Go.RowKit
set_option linter.unusedVariables false

def insC1 (i : I3) : List Value := [.int .i64 i.op, .string i.text, .int .i64 i.n]
def insC (is : List I3) : List Value := is.flatMap insC1
theorem insC_length (is : List I3) : (insC is).length = is.length * 3 := by
  unfold insC
  induction is with
  | nil => rfl
  | cons e r ih => rw [List.flatMap_cons, List.length_append, ih]; simp [insC1]; omega
theorem insC_app (is js : List I3) : insC (is ++ js) = insC is ++ insC js := by simp [insC]
theorem insC_one (is : List I3) : ∀ u ∈ insC is, u.oneCell' = true := by
  intro u hu
  unfold insC at hu
  rw [List.mem_flatMap] at hu
  obtain ⟨i, _, hi⟩ := hu
  simp [insC1] at hi
  rcases hi with rfl | rfl | rfl <;> rfl
theorem insC_get : ∀ (is : List I3) (i j : Nat), i < is.length → j < 3 → (insC is)[i * 3 + j]? = (insC1 (ix is i))[j]?
  | [], i, j, h, _ => by simp at h
  | e :: r, 0, j, h, hj => by
    unfold insC
    rw [List.flatMap_cons, Nat.zero_mul, Nat.zero_add, List.getElem?_append_left (by simp [insC1]; omega)]
    rfl
  | e :: r, i + 1, j, h, hj => by
    have := insC_get r i j (by simpa using h) hj
    unfold insC at this ⊢
    rw [List.flatMap_cons, List.getElem?_append_right (by simp [insC1]; omega)]
    have e1 : (i + 1) * 3 + j - (insC1 e).length = i * 3 + j := by simp [insC1]; omega
    rw [e1, this]
    rfl
theorem own_keepD {w w' : World} {B e sz n : Nat} {v : Value} {xs : List Value} (h : w.ownsRow B e sz v n xs) (hk : ∀ b, B ≤ b → b < w.heap.size → w'.heap[b]? = w.heap[b]?) : w'.ownsRow B e sz v n xs := by
  refine ⟨h.1, ?_⟩
  rcases h.2 with k | ⟨g, cap, cur, e1, hg, hh, r⟩
  · exact Or.inl k
  · have hlt : g < w.heap.size := by
      rcases Nat.lt_or_ge g w.heap.size with q | q
      · exact q
      · rw [Array.getElem?_eq_none q] at hh; cases hh
    exact Or.inr ⟨g, cap, cur, e1, hg, by rw [hk g hg hlt]; exact hh, r⟩
theorem heap_newD (w : World) (o : Obj) : (w.alloc o).heap[w.heap.size]? = some o := by unfold World.alloc; simp
theorem dec_length : ∀ (k n : Nat), n < 10 ^ (k + 1) → (Lib.decDigits n).length ≤ k + 1
  | 0, n, h => by rw [Lib.decDigits, dif_pos (by simpa using h)]; simp
  | k + 1, n, h => by
    rw [Lib.decDigits]
    split
    · simp
    · have := dec_length k (n / 10) (by rw [Nat.pow_succ] at h; omega)
      simp; omega
def bcells (l : List UInt8) : List Value := l.map fun b => Value.int .u8 b.toNat
theorem bcells_append (l m : List UInt8) : bcells (l ++ m) = bcells l ++ bcells m := by simp [bcells]
theorem bcells_length (l : List UInt8) : (bcells l).length = l.length := by simp [bcells]
theorem bcells_one (l : List UInt8) : ∀ u ∈ bcells l, u.oneCell' = true := by
  intro u hu; obtain ⟨_, _, rfl⟩ := List.mem_map.1 hu; rfl
end Go.Proofs.YtjdjhenijihpfaaGreatDoor
