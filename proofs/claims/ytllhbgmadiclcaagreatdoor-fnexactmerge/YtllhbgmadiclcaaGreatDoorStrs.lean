import Derived.Test.YtllhbgmadiclcaaGreatDoorRows
import Derived.WalkKit
import Derived.WalkSpells
import Derived.WalkLawsBesides
import Derived.ProofKit
import Derived.OpenShut
import Derived.Below
namespace Go.Proofs.YtllhbgmadiclcaaGreatDoor
open Go.RowKit

/-- The slice's address leads to the strings ss, in w. -/
def Strs (w : World) (a : Option Addr) (ss : List ByteArray) : Prop :=
  ∀ i, i < ss.length → ∃ b off, a = some ⟨b, off, none⟩ ∧ w.cell? ⟨b, off + i, none⟩ = some (.string (ss.getD i ByteArray.empty))

theorem Strs.below {w w' : World} {a : Option Addr} {ss : List ByteArray} (h : Strs w a ss) (hb : Below w.heap.size w w') : Strs w' a ss := by
  intro i hi
  obtain ⟨b, off, ha, hc⟩ := h i hi
  exact ⟨b, off, ha, (hb.cell (p := ⟨b, off + i, none⟩) (World.block_lt_of_cell? w _ hc)).trans hc⟩

theorem Strs.setCell {w : World} {g : Nat} {ss : List ByteArray} (h : Strs w (some ⟨g, 0, none⟩) ss) {b j : Nat} (hb : b ≠ g) (v : Value) : Strs (w.setCell ⟨b, j, none⟩ v) (some ⟨g, 0, none⟩) ss := by
  intro i hi
  obtain ⟨b', off, ha, h1⟩ := h i hi
  cases ha
  have e : ∀ o, (w.setCell ⟨b, j, none⟩ v).cell? ⟨g, o, none⟩ = w.cell? ⟨g, o, none⟩ := fun o => World.cell?_of_block (w := w) (Below.heap_setCell w ⟨b, j, none⟩ v g (fun e => hb e.symm))
  exact ⟨g, 0, rfl, by rw [e]; exact h1⟩

def total (ss : List ByteArray) : Nat := (ss.map ByteArray.size).sum

theorem total_take_succ (ss : List ByteArray) (k : Nat) (h : k < ss.length) : total (ss.take (k + 1)) = total (ss.take k) + (ss.getD k ByteArray.empty).size := by
  have e : ss.take (k + 1) = ss.take k ++ [ss[k]] := List.take_succ_eq_append_getElem h
  unfold total
  rw [e, List.map_append, List.sum_append, List.getD_eq_getElem?_getD, List.getElem?_eq_getElem h]
  simp

theorem getD_le {ss : List ByteArray} (h : ∀ s ∈ ss, s.size ≤ maxLen) (k : Nat) : (ss.getD k ByteArray.empty).size ≤ maxLen := by
  rw [List.getD_eq_getElem?_getD]
  cases hk : ss[k]? with
  | none => simp [maxLen]
  | some s => exact h s (List.mem_of_getElem? hk)

set_option maxHeartbeats 400000 in
theorem szStringS_any (a : Option Addr) (cap : Nat) (ss : List ByteArray) (w : World) (hc : Strs w a ss) (hl : ss.length ≤ maxLen) (hs : ∀ s ∈ ss, s.size ≤ maxLen) (L : Int) (hL0 : 0 ≤ L) (hL : L ≤ 1048576) :
    Calls Tryz.prog 13 #[.slice a ss.length cap, .int .i64 L] w fun e w' => w = w' ∧ ∃ r : Int, e = .returned (.int .i64 r) ∧ (r < 0 ∨ ((ss.length + total ss : Int) ≤ L ∧ 0 ≤ r ∧ r ≤ L)) := by
  have hs' := getD_le hs
  unfold maxLen at hl hs'
  by_cases h0 : (ss.length : Int) ≤ L
  · go_enter Tryz.func13, Tryz.ntmps13
    go_wp2
    go_loop [1, 5] (fun l i => ∃ k : Nat, k ≤ ss.length ∧ i = .int .i64 k ∧ l = .int .i64 (L - ss.length - total (ss.take k)) ∧ (ss.length + total (ss.take k) : Int) ≤ L) (fun _ i => ss.length - (intOf i).toNat)
    case atStart => exact ⟨0, Nat.zero_le _, rfl, by simp [total], by simpa [total] using h0⟩
    case round =>
      obtain ⟨k, hk, rfl, rfl, ht⟩ := hrel
      by_cases hlt : k < ss.length
      · obtain ⟨b, off, rfl, hck⟩ := hc k hlt
        have hts := total_take_succ ss k hlt
        have hsk := hs' k
        clear hs'
        generalize ss.getD k ByteArray.empty = s at *
        have HT : Hid (total (ss.take (k + 1)) = total (ss.take k) + s.size) := hts
        clear hts
        by_cases hneg : L - ss.length - total (ss.take k) - s.size < 0
        · go_wp2
          go_ret
          exact ⟨rfl, -1, rfl, by omega⟩
        · go_wp2
          go_round
          case rel => exact ⟨k + 1, by omega, by go_num, by rw [HT.out]; go_num, by rw [HT.out]; omega⟩
          case measure => simp [intOf]; omega
      · go_wp2
        go_ret
        rw [List.take_of_length_le (show ss.length ≤ k by omega)] at ht ⊢
        exact ⟨rfl, _, rfl, by omega⟩
  · go_enter Tryz.func13, Tryz.ntmps13
    go_wp2
    go_ret
    exact ⟨rfl, -1, rfl, by omega⟩

theorem Tryz.info9 : (Tryz.prog.info? 9).map (fun i => (i.zero, i.size, i.bytes)) = some (some (.string ByteArray.empty), 1, 16) := by kernel_rfl

/-- The cells of a slice of strings of which the first k are filled. -/
def filled (ss : List ByteArray) (k n : Nat) : List Value := (ss.take k).map Value.string ++ List.replicate (n - k) (Value.string ByteArray.empty)
theorem filled_length (ss : List ByteArray) (k : Nat) (h : k ≤ ss.length) : (filled ss k ss.length).length = ss.length := by
  simp [filled]; omega
theorem filled_set (ss : List ByteArray) (k : Nat) (h : k < ss.length) : (filled ss k ss.length).set k (.string (ss.getD k ByteArray.empty)) = filled ss (k + 1) ss.length := by
  unfold filled
  have e : ss.take (k + 1) = ss.take k ++ [ss[k]] := List.take_succ_eq_append_getElem h
  have hr : List.replicate (ss.length - k) (Value.string ByteArray.empty) = Value.string ByteArray.empty :: List.replicate (ss.length - (k + 1)) (Value.string ByteArray.empty) := by
    rw [show ss.length - k = (ss.length - (k + 1)) + 1 by omega, List.replicate_succ]
  rw [e, hr, List.set_append_right _ _ (by simp; omega)]
  have hk : k - ((ss.take k).map Value.string).length = 0 := by simp; omega
  rw [hk, List.getD_eq_getElem?_getD, List.getElem?_eq_getElem h, List.map_append, List.append_assoc]
  rfl
theorem filled_get (ss : List ByteArray) (i : Nat) (h : i < ss.length) : (filled ss ss.length ss.length)[i]? = some (.string (ss.getD i ByteArray.empty)) := by
  simp [filled, List.getD_eq_getElem?_getD, List.getElem?_eq_getElem h]

theorem made_strings (n : Nat) : (madeCells (Value.string ByteArray.empty).cells (n * 1)).toList = List.replicate n (.string ByteArray.empty) := by
  apply List.ext_getElem?
  intro i
  by_cases h : i < n <;> simp [madeCells, Value.cells, h, Nat.mod_one]

theorem ownsRow_strs {w : World} {B g : Nat} {cap : Nat} {ss : List ByteArray} (h : w.ownsRow B 9 1 (.slice (some ⟨g, 0, none⟩) ss.length cap) ss.length (filled ss ss.length ss.length)) : Strs w (some ⟨g, 0, none⟩) ss := by
  intro i hi
  refine ⟨g, 0, rfl, ?_⟩
  rw [Nat.zero_add, h.cellAt i (by omega), filled_get ss i hi]

set_option maxHeartbeats 400000 in
theorem toStringS_any (a : Option Addr) (cap : Nat) (ss : List ByteArray) (w : World) (hc : Strs w a ss) (hl : ss.length ≤ 1048576) :
    Calls Tryz.prog 20 #[.slice a ss.length cap] w fun e w' => Below w.heap.size w w' ∧ ∃ g : Nat, e = .returned (.slice (some ⟨g, 0, none⟩) ss.length ss.length) ∧ w.heap.size ≤ g ∧ Strs w' (some ⟨g, 0, none⟩) ss := by
  obtain ⟨i0, hi, hz0, hz1, hz2⟩ := info_parts Tryz.info9
  go_enter Tryz.func20, Tryz.ntmps20
  go_wp2_with (first | (at_make; refine wpList_make_full _ rfl (.tmp 6) (.tmp 6) 22 rfl w.heap.size 9 i0 (.string ByteArray.empty) 1 Tryz.underlying22 hi hz0 hz1 .i64 .i64 _ _ ss.length rfl rfl rfl rfl (by rw [hz2]; omega) (by unfold maxLen; omega) (Nat.le_refl _) ?_; intro w1 hown hgrow))
  rw [made_strings] at hown
  have hbel1 : Below w.heap.size w w1 := (Below.refl _ _).grown hgrow (Nat.le_refl _) (by simp)
  clear hgrow
  go_loopw [4] (fun i wr => ∃ k : Nat, k ≤ ss.length ∧ i = .int .i64 k ∧ wr.ownsRow w.heap.size 9 1 (.slice (some ⟨w.heap.size, 0, none⟩) ss.length ss.length) ss.length (filled ss k ss.length) ∧ Below w.heap.size w wr) (fun i _ => ss.length - (intOf i).toNat)
  case atStart => exact ⟨0, Nat.zero_le _, rfl, by simpa [filled] using hown, hbel1⟩
  case round =>
    obtain ⟨k, hk, rfl, hown, hbel⟩ := hrel
    by_cases hlt : k < ss.length
    · obtain ⟨b, off, rfl, hck⟩ := (hc.below hbel) k hlt
      have hst := hown.stored k (.string (ss.getD k ByteArray.empty))
      rw [filled_set ss k hlt] at hst
      have hfr := hown.frozenAt k
      have hce : wr.cell? ⟨w.heap.size, k, none⟩ = some ((filled ss k ss.length)[k]'(by rw [filled_length ss k hk]; exact hlt)) := by
        rw [hown.cellAt k (by omega)]; exact List.getElem?_eq_getElem _
      generalize (filled ss k ss.length)[k]'(by rw [filled_length ss k hk]; exact hlt) = old at hce
      generalize ss.getD k ByteArray.empty = s at *
      have hbel2 : Below w.heap.size w (wr.setCell ⟨w.heap.size, k, none⟩ (.string s)) := hbel.setCell (Nat.le_refl _) _
      clear hown hbel hbel1 hc
      go_wp2
      go_roundw
      case rel => exact ⟨k + 1, by omega, by go_num, hst.1, hbel2⟩
      case measure => simp [intOf]; omega
    · have ek : k = ss.length := by omega
      subst ek
      go_wp2
      go_ret
      exact ⟨hbel, _, rfl, Nat.le_refl _, ownsRow_strs hown⟩

set_option maxHeartbeats 400000 in
theorem eqStringS_same (a a' : Option Addr) (cap cap' : Nat) (ss : List ByteArray) (w : World) (hc : Strs w a ss) (hc' : Strs w a' ss) (hl : ss.length ≤ 1048576) :
    Calls Tryz.prog 30 #[.slice a ss.length cap, .slice a' ss.length cap'] w fun e w' => Below w.heap.size w w' ∧ e = .returned (.bool true) := by
  go_enter Tryz.func30, Tryz.ntmps30
  go_wp2
  go_loopw [5] (fun i wr => ∃ k : Nat, k ≤ ss.length ∧ i = .int .i64 k ∧ Below w.heap.size w wr) (fun i _ => ss.length - (intOf i).toNat)
  case atStart => exact ⟨0, Nat.zero_le _, rfl, Below.refl _ _⟩
  case round =>
    obtain ⟨k, hk, rfl, hbel⟩ := hrel
    by_cases hlt : k < ss.length
    · obtain ⟨b, off, rfl, hck⟩ := (hc.below hbel) k hlt
      obtain ⟨b', off', rfl, hck'⟩ := (hc'.below hbel) k hlt
      generalize ss.getD k ByteArray.empty = s at *
      clear hc hc'
      go_wp2
      go_region
      all_goals
        go_wp2
        go_roundw
        case rel => exact ⟨k + 1, by omega, by go_num, by repeat (first | exact hbel | apply Below.drew)⟩
        case measure => simp [intOf]; omega
    · go_wp2
      go_ret
      exact ⟨hbel, rfl⟩

end Go.Proofs.YtllhbgmadiclcaaGreatDoor
