import Derived.Test.YtikdgmmloiegjaaGreatDoorBuilder
import Derived.Test.YtikdgmmloiegjaaGreatDoorShelf
import Derived.Laws.BitsAllLaws
import Derived.Lib.AppendIntMem
namespace Go.Proofs.YtikdgmmloiegjaaGreatDoor
open Go.RowKit
set_option linter.unusedVariables false

set_option maxHeartbeats 400000 in
theorem plainByte_any (u : UInt8) (w : World) : Calls Tryz.prog 91 #[.int .u8 u.toNat] w fun e w' => e = .returned (.bool (plainB u)) ∧ w = w' := by
  generalize hm : u.toNat = m
  have hp : plainB u = (decide (32 ≤ m) && decide (m ≤ 126) && decide (m ≠ 34) && decide (m ≠ 92)) := by rw [plainB, hm]
  rw [hp]
  clear hp hm
  by_cases h1 : 32 ≤ m
  · have d1 : decide ((32 : Int) ≤ (m : Int)) = true := by simp; omega
    by_cases h2 : m ≤ 126
    · have d2 : decide ((m : Int) ≤ 126) = true := by simp; omega
      by_cases h3 : m = 34
      · have d3 : ((m : Int) != 34) = false := by simp; omega
        rw [show (decide (32 ≤ m) && decide (m ≤ 126) && decide (m ≠ 34) && decide (m ≠ 92)) = false from by simp [h3]]
        clear h1 h2 h3
        go_enter Tryz.func91, Tryz.ntmps91
        go_wp2
        go_ret
        exact ⟨rfl, rfl⟩
      · have d3 : ((m : Int) != 34) = true := by rw [bne_iff_ne]; omega
        by_cases h4 : m = 92
        · have d4 : ((m : Int) != 92) = false := by simp; omega
          rw [show (decide (32 ≤ m) && decide (m ≤ 126) && decide (m ≠ 34) && decide (m ≠ 92)) = false from by simp [h4]]
          clear h1 h2 h3 h4
          go_enter Tryz.func91, Tryz.ntmps91
          go_wp2
          go_ret
          exact ⟨rfl, rfl⟩
        · have d4 : ((m : Int) != 92) = true := by rw [bne_iff_ne]; omega
          rw [show (decide (32 ≤ m) && decide (m ≤ 126) && decide (m ≠ 34) && decide (m ≠ 92)) = true from by simp [h1, h2, h3, h4]]
          clear h1 h2 h3 h4
          go_enter Tryz.func91, Tryz.ntmps91
          go_wp2
          go_ret
          exact ⟨rfl, rfl⟩
    · have d2 : decide ((m : Int) ≤ 126) = false := by simp; omega
      rw [show (decide (32 ≤ m) && decide (m ≤ 126) && decide (m ≠ 34) && decide (m ≠ 92)) = false from by simp [h2]]
      clear h1 h2
      go_enter Tryz.func91, Tryz.ntmps91
      go_wp2
      go_ret
      exact ⟨rfl, rfl⟩
  · have d1 : decide ((32 : Int) ≤ (m : Int)) = false := by simp; omega
    rw [show (decide (32 ≤ m) && decide (m ≤ 126) && decide (m ≠ 34) && decide (m ≠ 92)) = false from by simp [h1]]
    clear h1
    go_enter Tryz.func91, Tryz.ntmps91
    go_wp2
    go_ret
    exact ⟨rfl, rfl⟩

theorem take_snocQ (s : ByteArray) (k : Nat) (h : k < s.size) : s.data.toList.take (k + 1) = s.data.toList.take k ++ [s[k]] := by
  rw [List.take_succ_eq_append_getElem (by simpa using h)]; rfl

/-- What the first k bytes are written as, the opening quote ahead. -/
def qTo (s : ByteArray) (k : Nat) : List UInt8 := [34] ++ (s.data.toList.take k).flatMap qbyte
theorem qTo_succ (s : ByteArray) (k : Nat) (h : k < s.size) : qTo s (k + 1) = qTo s k ++ qbyte s[k] := by
  unfold qTo; rw [take_snocQ s k h, List.flatMap_append]; simp
theorem qTo_length (s : ByteArray) (k : Nat) (h : k ≤ s.size) : (qTo s k).length ≤ 3 * k + 1 := by
  have := flat_length (s.data.toList.take k)
  have hl : (s.data.toList.take k).length ≤ k := List.length_take_le _ _
  unfold qTo; rw [List.length_append, List.length_singleton]; omega
theorem qTo_end (s : ByteArray) : qTo s s.size ++ [34] = quoteL s.data.toList := by
  unfold qTo quoteL
  rw [show s.data.toList.take s.size = s.data.toList from List.take_of_length_le (Nat.le_of_eq Array.length_toList)]

theorem and15 (u : UInt8) : bits BinOp.and IntKind.u8 (u.toNat : Int) 15 = ((u.toNat % 16 : Nat) : Int) := by
  have hu : u.toNat < 256 := UInt8.toNat_lt u
  have h := u8_and_nat u.toNat 15 hu (by omega)
  have e : u.toNat &&& 15 = u.toNat % 16 := Nat.and_two_pow_sub_one_eq_mod u.toNat 4
  rw [e] at h
  exact h

theorem byte_snoc (l : List UInt8) (u : UInt8) : Lib.byteCells l ++ [.int .u8 u.toNat] = Lib.byteCells (l ++ [u]) := by simp [Lib.byteCells]

end Go.Proofs.YtikdgmmloiegjaaGreatDoor
namespace Go.Proofs.YtikdgmmloiegjaaGreatDoor
open Go.RowKit
set_option linter.unusedVariables false

def P10 (w : World) : Prop := Lib.TabIs Tryz.prog w "internal/strconv.uint64pow10" .u64 Lib.pow10Tab
theorem P10.below {w w' : World} (h : P10 w) (hb : Below w.heap.size w w') : P10 w' := Lib.tabBelow_of_tabIs h w' hb

theorem str_join (a b : ByteArray) (c : List UInt8) : a ++ b ++ (⟨c.toArray⟩ : ByteArray) = ⟨(a.data.toList ++ (b.data.toList ++ c)).toArray⟩ := by
  apply WideShapes.bytes_inj
  simp [ByteArray.data_append]

theorem word_size (o : Nat) : (wordB o).size ≤ 6 := by have := word_length o; rw [Array.length_toList] at this; exact this

theorem line_text (o : Nat) (t : ByteArray) (n : Int) (hk : kindOf o = 1) : wordB o ++ (⟨#[32]⟩ : ByteArray) ++ (⟨(quoteL t.data.toList).toArray⟩ : ByteArray) = ⟨(lineL ⟨o, t, n⟩).toArray⟩ := by
  rw [str_join]; simp [lineL, hk]
theorem line_num (o : Nat) (t : ByteArray) (n : Int) (hk : kindOf o = 2 ∨ kindOf o = 3) : wordB o ++ (⟨#[32]⟩ : ByteArray) ++ (⟨(Lib.decDigits n.toNat).toArray⟩ : ByteArray) = ⟨(lineL ⟨o, t, n⟩).toArray⟩ := by
  rw [str_join]; rcases hk with hk | hk <;> simp [lineL, hk]
theorem line_bare (o : Nat) (t : ByteArray) (n : Int) (hk : kindOf o = 0) : wordB o = ⟨(lineL ⟨o, t, n⟩).toArray⟩ := by
  apply WideShapes.bytes_inj
  simp [lineL, hk]

theorem builder_below {T e : TypeId} {B b : Nat} {bs : List Value} {w w' : World} (h : Lib.IsBuilder T e B b bs w) (hb : Below w.heap.size w w') : Lib.IsBuilder T e B b bs w' := by
  have key : ∀ p, Lib.BuilderAt T e B b p bs w → Lib.BuilderAt T e B b p bs w' := by
    intro p h
    have hlt := h.lt
    obtain ⟨hB, v, hbk, hown, hne⟩ := h
    exact ⟨hB, v, by rw [hb.block b hlt]; exact hbk, ownsRow_below hown hb, hne⟩
  rcases h with h | h
  · exact Or.inl (key _ h)
  · exact Or.inr (key _ h)

theorem str_cells (l : List UInt8) : Lib.strCells ⟨l.toArray⟩ = Lib.byteCells l := by simp [Lib.strCells, Lib.byteCells]

end Go.Proofs.YtikdgmmloiegjaaGreatDoor
