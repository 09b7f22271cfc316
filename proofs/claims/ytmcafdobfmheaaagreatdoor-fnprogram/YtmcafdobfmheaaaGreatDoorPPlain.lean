/-
  PLAIN: how an instruction is written.
-/
import Derived.Test.YtmcafdobfmheaaaGreatDoorValidP
import Derived.Lib.ItoaNum
namespace Go.Proofs.YtmcafdobfmheaaaGreatDoor
open Go.RowKit
set_option linter.unusedVariables false

def hexL : List UInt8 := [48, 49, 50, 51, 52, 53, 54, 55, 56, 57, 97, 98, 99, 100, 101, 102]
def hexd (j : Nat) : UInt8 := hexL.getD j 0
def plainB (u : UInt8) : Bool := decide (32 ≤ u.toNat) && decide (u.toNat ≤ 126) && decide (u.toNat ≠ 34) && decide (u.toNat ≠ 92)
def qbyte (u : UInt8) : List UInt8 := if plainB u then [u] else [92, hexd (u.toNat / 16), hexd (u.toNat % 16)]
def quoteL (l : List UInt8) : List UInt8 := [34] ++ l.flatMap qbyte ++ [34]
def lineL (i : I3) : List UInt8 :=
  (wordB i.op.toNat).data.toList ++ (if kindOf i.op = 1 then 32 :: quoteL i.text.data.toList else if kindOf i.op = 0 then [] else 32 :: Lib.decDigits i.n.toNat)
def printL (is : List I3) (k : Nat) : List UInt8 := (List.range k).flatMap fun j => lineL (ix is j) ++ [10]
theorem printL_succ (is : List I3) (k : Nat) : printL is (k + 1) = printL is k ++ (lineL (ix is k) ++ [10]) := by simp [printL, List.range_succ]
theorem qbyte_length (u : UInt8) : (qbyte u).length ≤ 3 := by unfold qbyte; split <;> simp
theorem flat_length (l : List UInt8) : (l.flatMap qbyte).length ≤ 3 * l.length := by
  induction l with
  | nil => simp
  | cons u l ih => have := qbyte_length u; rw [List.flatMap_cons, List.length_append, List.length_cons]; omega
theorem quoteL_length (l : List UInt8) : (quoteL l).length ≤ 3 * l.length + 2 := by
  have := flat_length l
  unfold quoteL
  rw [List.length_append, List.length_append, List.length_singleton]
  omega
theorem dec_length : ∀ (k n : Nat), n < 10 ^ (k + 1) → (Lib.decDigits n).length ≤ k + 1
  | 0, n, h => by rw [Lib.decDigits, dif_pos (by simpa using h)]; simp
  | k + 1, n, h => by
    rw [Lib.decDigits]
    split
    · simp
    · have := dec_length k (n / 10) (by rw [Nat.pow_succ] at h; omega)
      simp; omega
theorem word_length (o : Nat) : (wordB o).data.toList.length ≤ 6 := by
  by_cases h : o < 16
  · rcases (show o = 0 ∨ o = 1 ∨ o = 2 ∨ o = 3 ∨ o = 4 ∨ o = 5 ∨ o = 6 ∨ o = 7 ∨ o = 8 ∨ o = 9 ∨ o = 10 ∨ o = 11 ∨ o = 12 ∨ o = 13 ∨ o = 14 ∨ o = 15 from by omega) with rfl | rfl | rfl | rfl | rfl | rfl | rfl | rfl | rfl | rfl | rfl | rfl | rfl | rfl | rfl | rfl <;> decide
  · have e : words.getD o [] = [] := by
      rw [List.getD_eq_getElem?_getD, List.getElem?_eq_none (show words.length ≤ o from by have : words.length = 16 := rfl; omega)]; rfl
    unfold wordB
    rw [e]; simp
theorem lineL_length {i : I3} (h : insOk i = true) : (lineL i).length ≤ 6100 := by
  simp only [insOk, Bool.and_eq_true, decide_eq_true_eq] at h
  obtain ⟨⟨⟨⟨_, _⟩, ht⟩, h0⟩, hn⟩ := h
  have hw := word_length i.op.toNat
  unfold lineL
  rw [List.length_append]
  split
  · rename_i hk
    rw [hk] at ht
    have ht' : i.text.size ≤ 2000 := by simp [mostT] at ht; omega
    have hq := quoteL_length i.text.data.toList
    have he : i.text.data.toList.length = i.text.size := Array.length_toList
    rw [List.length_cons]; omega
  · split
    · rw [List.length_nil]; omega
    · have hm : i.n.toNat ≤ 2000 := by
        have : mostN (kindOf i.op) ≤ 2000 := by
          unfold mostN
          split
          · omega
          · split <;> omega
        omega
      have hd := dec_length 3 i.n.toNat (by omega)
      rw [List.length_cons]; omega
theorem printL_length {is : List I3} (h : ∀ i, i < is.length → insOk (ix is i) = true) : ∀ k, k ≤ is.length → (printL is k).length ≤ 6101 * k
  | 0, _ => by simp [printL]
  | k + 1, hk => by
    have := printL_length h k (by omega)
    have h2 := lineL_length (h k (by omega))
    rw [printL_succ]; simp; omega

def bcells (l : List UInt8) : List Value := l.map fun b => Value.int .u8 b.toNat
theorem bcells_append (l m : List UInt8) : bcells (l ++ m) = bcells l ++ bcells m := by simp [bcells]
theorem bcells_length (l : List UInt8) : (bcells l).length = l.length := by simp [bcells]
theorem bcells_one (l : List UInt8) : ∀ u ∈ bcells l, u.oneCell' = true := by
  intro u hu; obtain ⟨_, _, rfl⟩ := List.mem_map.1 hu; rfl

theorem hexIdx (j : Nat) (h : j < 16) (w : World) : (Instr.index 9 (.string ⟨#[48, 49, 50, 51, 52, 53, 54, 55, 56, 57, 97, 98, 99, 100, 101, 102]⟩) (.int .u8 j)).run Tryz.prog w = .ok (.int .u8 (hexd j).toNat) w := by
  rcases (show j = 0 ∨ j = 1 ∨ j = 2 ∨ j = 3 ∨ j = 4 ∨ j = 5 ∨ j = 6 ∨ j = 7 ∨ j = 8 ∨ j = 9 ∨ j = 10 ∨ j = 11 ∨ j = 12 ∨ j = 13 ∨ j = 14 ∨ j = 15 from by omega) with rfl | rfl | rfl | rfl | rfl | rfl | rfl | rfl | rfl | rfl | rfl | rfl | rfl | rfl | rfl | rfl <;> kernel_rfl

set_option maxHeartbeats 400000 in
theorem l2Hex_any (u : UInt8) (w : World) :
    Calls Tryz.prog 80 #[.int .u8 u.toNat] w fun e w' => Below w.heap.size w w' ∧ ∃ g cap : Nat, w.heap.size ≤ g ∧ e = .returned (.slice (some ⟨g, 0, none⟩) 2 cap) ∧ w'.ownsRow w.heap.size 5 1 (.slice (some ⟨g, 0, none⟩) 2 cap) 2 (bcells [hexd (u.toNat / 16), hexd (u.toNat % 16)]) := by
  have hu : u.toNat < 256 := UInt8.toNat_lt u
  obtain ⟨j1, e1, h1, r1⟩ : ∃ j : Nat, (u.toNat : Int) / 16 = (j : Int) ∧ j < 16 ∧ u.toNat / 16 = j := ⟨u.toNat / 16, by omega, by omega, rfl⟩
  obtain ⟨j2, e2, h2, r2⟩ : ∃ j : Nat, (u.toNat : Int) % 16 = (j : Int) ∧ j < 16 ∧ u.toNat % 16 = j := ⟨u.toNat % 16, by omega, by omega, rfl⟩
  rw [r1, r2]
  clear r1 r2
  have x1 := hexIdx j1 h1
  have x2 := hexIdx j2 h2
  go_enter Tryz.func80, Tryz.ntmps80
  go_wp2
  go_region
  all_goals go_wp2
  all_goals go_ret
  all_goals
    refine ⟨(Below.drew (Below.refl _ _)).alloc (Nat.le_refl _) _, _, _, Nat.le_refl _, rfl, ?_⟩
    exact World.ownsRow_lit w.drew #[.int .u8 (hexd j1).toNat, .int .u8 (hexd j2).toNat] 2 (Nat.le_refl _) (by unfold maxLen; omega) (by simp)

end Go.Proofs.YtmcafdobfmheaaaGreatDoor
