/-
  PLAIN: what Clash answers, said of lists.
-/
import Derived.Test.YtmeojnaoljgieaaStrs
import Derived.Test.YtmeojnaoljgieaaISum
namespace Go.Proofs.Ytmeojnaoljgieaa
open Go.RowKit

/-- The sum of a text at width n. -/
def Hs (n : Nat) (s : ByteArray) : ByteArray := ⟨(digs (hash s.data.toList) n).toArray⟩
def tx (ss : List ByteArray) (i : Nat) : ByteArray := ss.getD i ByteArray.empty

def NoClash (n : Nat) (ss : List ByteArray) (k : Nat) : Prop := ∀ j, j < k → ∀ i, i < j → Hs n (tx ss i) = Hs n (tx ss j) → tx ss i = tx ss j

def ClashAt (n : Nat) (ss : List ByteArray) (i j : Nat) : Prop :=
  i < j ∧ j < ss.length ∧ NoClash n ss j ∧ Hs n (tx ss i) = Hs n (tx ss j) ∧ tx ss i ≠ tx ss j ∧ ∀ i', i' < i → Hs n (tx ss i') = Hs n (tx ss j) → tx ss i' = tx ss j

def ClashOut (n : Nat) (ss : List ByteArray) (A B : ByteArray) (ok : Bool) : Prop :=
  (ok = false ∧ A = ⟨#[]⟩ ∧ B = ⟨#[]⟩ ∧ NoClash n ss ss.length) ∨ (ok = true ∧ ∃ i j, ClashAt n ss i j ∧ A = tx ss i ∧ B = tx ss j)

theorem ClashAt.not_none {n : Nat} {ss : List ByteArray} {i j : Nat} (h : ClashAt n ss i j) (h' : NoClash n ss ss.length) : False :=
  h.2.2.2.2.1 (h' j h.2.1 i h.1 h.2.2.2.1)

theorem ClashAt.unique {n : Nat} {ss : List ByteArray} {i j i' j' : Nat} (h : ClashAt n ss i j) (h' : ClashAt n ss i' j') : i = i' ∧ j = j' := by
  have hj : j = j' := by
    rcases Nat.lt_trichotomy j j' with hl | hl | hl
    · exact absurd (h'.2.2.1 j hl i h.1 h.2.2.2.1) h.2.2.2.2.1
    · exact hl
    · exact absurd (h.2.2.1 j' hl i' h'.1 h'.2.2.2.1) h'.2.2.2.2.1
  subst hj
  refine ⟨?_, rfl⟩
  rcases Nat.lt_trichotomy i i' with hl | hl | hl
  · exact absurd (h'.2.2.2.2.2 i hl h.2.2.2.1) h.2.2.2.2.1
  · exact hl
  · exact absurd (h.2.2.2.2.2 i' hl h'.2.2.2.1) h'.2.2.2.2.1

theorem ClashOut.unique {n : Nat} {ss : List ByteArray} {A B A' B' : ByteArray} {ok ok' : Bool} (h : ClashOut n ss A B ok) (h' : ClashOut n ss A' B' ok') : A = A' ∧ B = B' ∧ ok = ok' := by
  rcases h with ⟨rfl, rfl, rfl, hn⟩ | ⟨rfl, i, j, hc, rfl, rfl⟩ <;> rcases h' with ⟨rfl, rfl, rfl, hn'⟩ | ⟨rfl, i', j', hc', rfl, rfl⟩
  · exact ⟨rfl, rfl, rfl⟩
  · exact (hc'.not_none hn).elim
  · exact (hc.not_none hn').elim
  · obtain ⟨rfl, rfl⟩ := hc.unique hc'
    exact ⟨rfl, rfl, rfl⟩

theorem noClash_succ {n : Nat} {ss : List ByteArray} {j : Nat} (h : NoClash n ss j) (h' : ∀ i, i < j → Hs n (tx ss i) = Hs n (tx ss j) → tx ss i = tx ss j) : NoClash n ss (j + 1) := by
  intro j' hj' i hi he
  rcases Nat.lt_or_ge j' j with hl | hl
  · exact h j' hl i hi he
  · obtain rfl : j' = j := by omega
    exact h' i hi he

theorem str_eq {p q : ByteArray} (h : p = q) : (p.toList == q.toList) = true := by subst h; simp
theorem str_ne {p q : ByteArray} (h : p ≠ q) : (p.toList == q.toList) = false := by
  rw [beq_eq_false_iff_ne]
  intro e
  rw [ByteArray.toList_eq, ByteArray.toList_eq] at e
  exact h (WideShapes.bytes_inj e)

theorem ownsRow_below {w w' : World} {base e size n : Nat} {v : Value} {xs : List Value} (h : w.ownsRow base e size v n xs) (hb : Below w.heap.size w w') : w'.ownsRow base e size v n xs := by
  refine ⟨h.1, ?_⟩
  rcases h.2 with h2 | ⟨g, cap, cur, hv, hg, hh, r⟩
  · exact Or.inl h2
  · refine Or.inr ⟨g, cap, cur, hv, hg, ?_, r⟩
    have hlt : g < w.heap.size := by
      rcases Nat.lt_or_ge g w.heap.size with h | h
      · exact h
      · rw [Array.getElem?_eq_none h] at hh; cases hh
    rw [hb.block g hlt]; exact hh

def hcells (n : Nat) (ss : List ByteArray) (j : Nat) : List Value := (List.range j).map fun i => Value.string (Hs n (tx ss i))
theorem hcells_length (n : Nat) (ss : List ByteArray) (j : Nat) : (hcells n ss j).length = j := by simp [hcells]
theorem hcells_succ (n : Nat) (ss : List ByteArray) (j : Nat) : hcells n ss (j + 1) = hcells n ss j ++ [Value.string (Hs n (tx ss j))] := by simp [hcells, List.range_succ]
theorem hcells_get (n : Nat) (ss : List ByteArray) (j i : Nat) (h : i < j) : (hcells n ss j)[i]? = some (.string (Hs n (tx ss i))) := by simp [hcells, h]

theorem specSum_H (s : ByteArray) (n : Nat) (w : World) (hs : s.size ≤ 1048576) (h1 : 1 ≤ n) (h2 : n ≤ 8) :
    Calls Try.prog 7 #[.string s, .int .i64 n] w fun e w' => e = .returned (.string (Hs n s)) ∧ Below w.heap.size w w' := specSum_yes s n w hs h1 h2

theorem le_sum_of_mem {a : Nat} : ∀ {l : List Nat}, a ∈ l → a ≤ l.sum
  | [], h => by cases h
  | b :: l, h => by
    rcases List.mem_cons.1 h with rfl | h
    · simp
    · have := le_sum_of_mem h; simp; omega
theorem size_le_total {ss : List ByteArray} (i : Nat) : (tx ss i).size ≤ total ss := by
  unfold tx total
  rw [List.getD_eq_getElem?_getD]
  cases h : ss[i]? with
  | none => simp
  | some s =>
    have hm : s ∈ ss := List.mem_of_getElem? h
    exact le_sum_of_mem (List.mem_map_of_mem hm)

end Go.Proofs.Ytmeojnaoljgieaa
