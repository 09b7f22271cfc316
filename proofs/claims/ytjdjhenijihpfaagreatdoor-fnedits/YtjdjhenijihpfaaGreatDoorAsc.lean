import Derived.Test.YtjdjhenijihpfaaGreatDoorSpSize
import Derived.Test.YtjdjhenijihpfaaGreatDoorRows
import Derived.WalkKit
import Derived.WalkSpells
import Derived.WalkLawsBesides
import Derived.ProofKit
import Derived.OpenShut
import Derived.Below
import Derived.Shelf.SlSorted.Search
namespace Go.Proofs.YtjdjhenijihpfaaGreatDoor
open Go.RowKit
set_option linter.unusedVariables false

def NameOk (s : ByteArray) : Prop := 1 ≤ s.size ∧ s.size ≤ 60 ∧ ∀ j, (h : j < s.size) → 33 ≤ s[j].toNat ∧ s[j].toNat ≤ 126
noncomputable def nameB (s : ByteArray) : Bool := @decide (NameOk s) (Classical.propDecidable _)
theorem nameB_true {s : ByteArray} (h : NameOk s) : nameB s = true := by simp [nameB, h]
theorem nameB_false {s : ByteArray} (h : ¬ NameOk s) : nameB s = false := by simp [nameB, h]
set_option maxHeartbeats 400000 in
theorem l2NameOk_any (s : ByteArray) (w : World) (hs : s.size ≤ 9223372036854775807) : Calls Tryz.prog 29 #[.string s] w fun e w' => e = .returned (.bool (nameB s)) ∧ w = w' := by
  by_cases h1 : s.size < 1
  · rw [nameB_false (fun h => by have := h.1; omega)]
    have d1 : decide ((s.size : Int) < 1) = true := by simp; omega
    go_enter Tryz.func29, Tryz.ntmps29
    go_wp2
    go_ret
    exact ⟨rfl, rfl⟩
  · have d1 : decide ((s.size : Int) < 1) = false := by simp; omega
    by_cases h2 : 60 < s.size
    · rw [nameB_false (fun h => by have := h.2.1; omega)]
      have d2 : decide ((60 : Int) < s.size) = true := by simp; omega
      go_enter Tryz.func29, Tryz.ntmps29
      go_wp2
      go_ret
      exact ⟨rfl, rfl⟩
    · have d2 : decide ((60 : Int) < s.size) = false := by simp; omega
      go_enter Tryz.func29, Tryz.ntmps29
      go_wp2
      go_loopw [3] (fun i wr => ∃ k : Nat, k ≤ s.size ∧ i = .int .i64 k ∧ Hid (∀ j, (h : j < s.size) → j < k → 33 ≤ s[j].toNat ∧ s[j].toNat ≤ 126) ∧ w = wr) (fun i _ => s.size - (intOf i).toNat)
      case atStart => exact ⟨0, Nat.zero_le _, rfl, fun j _ hj => by omega, rfl⟩
      case round =>
        obtain ⟨k, hk, rfl, HA, rfl⟩ := hrel
        by_cases hlt : k < s.size
        · by_cases c1 : s[k].toNat < 33
          · have e1 : decide ((s[k].toNat : Int) < 33) = true := by simp; omega
            have HF : Hid (nameB s = false) := nameB_false (fun h => by have := h.2.2 k hlt; omega)
            clear c1
            go_wp2
            go_ret
            exact ⟨by rw [HF.out]; rfl, rfl⟩
          · have e1 : decide ((s[k].toNat : Int) < 33) = false := by simp; omega
            by_cases c2 : 126 < s[k].toNat
            · have e2 : decide ((126 : Int) < s[k].toNat) = true := by simp; omega
              have HF : Hid (nameB s = false) := nameB_false (fun h => by have := h.2.2 k hlt; omega)
              clear c1 c2
              go_wp2
              go_ret
              exact ⟨by rw [HF.out]; rfl, rfl⟩
            · have e2 : decide ((126 : Int) < s[k].toNat) = false := by simp; omega
              have HB : Hid (∀ j, (h : j < s.size) → j < k + 1 → 33 ≤ s[j].toNat ∧ s[j].toNat ≤ 126) := fun j h hj => by
                rcases Nat.lt_or_ge j k with h' | h'
                · exact HA.out j h h'
                · obtain rfl : j = k := by omega
                  omega
              clear c1 c2
              go_wp2
              go_roundw
              case rel => exact ⟨k + 1, by omega, by go_num, HB, by first | trivial | rfl⟩
              case measure => simp [intOf]; omega
        · have HF : Hid (nameB s = true) := nameB_true ⟨by omega, by omega, fun j h => HA.out j h (by omega)⟩
          go_wp2
          go_ret
          exact ⟨by rw [HF.out]; rfl, rfl⟩

set_option maxHeartbeats 400000 in
theorem validName_any (s : ByteArray) (w : World) (hs : s.size ≤ 9223372036854775807) : Calls Tryz.prog 47 #[.string s] w fun e w' => e = .returned (.bool (nameB s)) ∧ w = w' := by
  by_cases h1 : s.size < 1
  · rw [nameB_false (fun h => by have := h.1; omega)]
    have d1 : decide ((s.size : Int) < 1) = true := by simp; omega
    go_enter Tryz.func47, Tryz.ntmps47
    go_wp2
    go_ret
    exact ⟨rfl, rfl⟩
  · have d1 : decide ((s.size : Int) < 1) = false := by simp; omega
    by_cases h2 : 60 < s.size
    · rw [nameB_false (fun h => by have := h.2.1; omega)]
      have d2 : decide ((60 : Int) < s.size) = true := by simp; omega
      go_enter Tryz.func47, Tryz.ntmps47
      go_wp2
      go_ret
      exact ⟨rfl, rfl⟩
    · have d2 : decide ((60 : Int) < s.size) = false := by simp; omega
      go_enter Tryz.func47, Tryz.ntmps47
      go_wp2
      go_loopw [14] (fun i wr => ∃ k : Nat, k ≤ s.size ∧ i = .int .i64 k ∧ Hid (∀ j, (h : j < s.size) → j < k → 33 ≤ s[j].toNat ∧ s[j].toNat ≤ 126) ∧ w = wr) (fun i _ => s.size - (intOf i).toNat)
      case atStart => exact ⟨0, Nat.zero_le _, rfl, fun j _ hj => by omega, rfl⟩
      case round =>
        obtain ⟨k, hk, rfl, HA, rfl⟩ := hrel
        by_cases hlt : k < s.size
        · by_cases c1 : s[k].toNat < 33
          · have e1 : decide ((s[k].toNat : Int) < 33) = true := by simp; omega
            have HF : Hid (nameB s = false) := nameB_false (fun h => by have := h.2.2 k hlt; omega)
            clear c1
            go_wp2
            go_ret
            exact ⟨by rw [HF.out]; rfl, rfl⟩
          · have e1 : decide ((s[k].toNat : Int) < 33) = false := by simp; omega
            by_cases c2 : 126 < s[k].toNat
            · have e2 : decide ((126 : Int) < s[k].toNat) = true := by simp; omega
              have HF : Hid (nameB s = false) := nameB_false (fun h => by have := h.2.2 k hlt; omega)
              clear c1 c2
              go_wp2
              go_ret
              exact ⟨by rw [HF.out]; rfl, rfl⟩
            · have e2 : decide ((126 : Int) < s[k].toNat) = false := by simp; omega
              have HB : Hid (∀ j, (h : j < s.size) → j < k + 1 → 33 ≤ s[j].toNat ∧ s[j].toNat ≤ 126) := fun j h hj => by
                rcases Nat.lt_or_ge j k with h' | h'
                · exact HA.out j h h'
                · obtain rfl : j = k := by omega
                  omega
              clear c1 c2
              go_wp2
              go_roundw
              case rel => exact ⟨k + 1, by omega, by go_num, HB, by first | trivial | rfl⟩
              case measure => simp [intOf]; omega
        · have HF : Hid (nameB s = true) := nameB_true ⟨by omega, by omega, fun j h => HA.out j h (by omega)⟩
          go_wp2
          go_ret
          exact ⟨by rw [HF.out]; rfl, rfl⟩

end Go.Proofs.YtjdjhenijihpfaaGreatDoor
namespace Go.Proofs.YtjdjhenijihpfaaGreatDoor
open Go.RowKit

/-- The slice's address leads to the strings ss, in w. -/
def Strs (w : World) (a : Option Addr) (ss : List ByteArray) : Prop :=
  ∀ i, i < ss.length → ∃ b off, a = some ⟨b, off, none⟩ ∧ w.cell? ⟨b, off + i, none⟩ = some (.string (ss.getD i ByteArray.empty))

theorem Strs.below {w w' : World} {a : Option Addr} {ss : List ByteArray} (h : Strs w a ss) (hb : Below w.heap.size w w') : Strs w' a ss := by
  intro i hi
  obtain ⟨b, off, ha, hc⟩ := h i hi
  exact ⟨b, off, ha, (hb.cell (p := ⟨b, off + i, none⟩) (World.block_lt_of_cell? w _ hc)).trans hc⟩

theorem Strs.setCell {w : World} {g : Nat} {ss : List ByteArray} (h : Strs w (some ⟨g, 0, none⟩) ss) {b j : Nat} (hb : b ≠ g) (v : Value) : Strs (w.setCell ⟨b, j, none⟩ v) (some ⟨g, 0, none⟩) ss := by
  intro i hi
  obtain ⟨b', off, ha, h1⟩ := h i hi
  cases ha
  have e : ∀ o, (w.setCell ⟨b, j, none⟩ v).cell? ⟨g, o, none⟩ = w.cell? ⟨g, o, none⟩ := fun o => World.cell?_of_block (w := w) (Below.heap_setCell w ⟨b, j, none⟩ v g (fun e => hb e.symm))
  exact ⟨g, 0, rfl, by rw [e]; exact h1⟩

def total (ss : List ByteArray) : Nat := (ss.map ByteArray.size).sum

theorem total_take_succ (ss : List ByteArray) (k : Nat) (h : k < ss.length) : total (ss.take (k + 1)) = total (ss.take k) + (ss.getD k ByteArray.empty).size := by
  have e : ss.take (k + 1) = ss.take k ++ [ss[k]] := List.take_succ_eq_append_getElem h
  unfold total
  rw [e, List.map_append, List.sum_append, List.getD_eq_getElem?_getD, List.getElem?_eq_getElem h]
  simp

theorem getD_le {ss : List ByteArray} (h : ∀ s ∈ ss, s.size ≤ maxLen) (k : Nat) : (ss.getD k ByteArray.empty).size ≤ maxLen := by
  rw [List.getD_eq_getElem?_getD]
  cases hk : ss[k]? with
  | none => simp [maxLen]
  | some s => exact h s (List.mem_of_getElem? hk)

theorem Tryz.info9 : (Tryz.prog.info? 9).map (fun i => (i.zero, i.size, i.bytes)) = some (some (.string ByteArray.empty), 1, 16) := by kernel_rfl

/-- The cells of a slice of strings of which the first k are filled. -/
def filled (ss : List ByteArray) (k n : Nat) : List Value := (ss.take k).map Value.string ++ List.replicate (n - k) (Value.string ByteArray.empty)
theorem filled_length (ss : List ByteArray) (k : Nat) (h : k ≤ ss.length) : (filled ss k ss.length).length = ss.length := by
  simp [filled]; omega
theorem filled_set (ss : List ByteArray) (k : Nat) (h : k < ss.length) : (filled ss k ss.length).set k (.string (ss.getD k ByteArray.empty)) = filled ss (k + 1) ss.length := by
  unfold filled
  have e : ss.take (k + 1) = ss.take k ++ [ss[k]] := List.take_succ_eq_append_getElem h
  have hr : List.replicate (ss.length - k) (Value.string ByteArray.empty) = Value.string ByteArray.empty :: List.replicate (ss.length - (k + 1)) (Value.string ByteArray.empty) := by
    rw [show ss.length - k = (ss.length - (k + 1)) + 1 by omega, List.replicate_succ]
  rw [e, hr, List.set_append_right _ _ (by simp; omega)]
  have hk : k - ((ss.take k).map Value.string).length = 0 := by simp; omega
  rw [hk, List.getD_eq_getElem?_getD, List.getElem?_eq_getElem h, List.map_append, List.append_assoc]
  rfl
theorem filled_get (ss : List ByteArray) (i : Nat) (h : i < ss.length) : (filled ss ss.length ss.length)[i]? = some (.string (ss.getD i ByteArray.empty)) := by
  simp [filled, List.getD_eq_getElem?_getD, List.getElem?_eq_getElem h]

theorem made_strings (n : Nat) : (madeCells (Value.string ByteArray.empty).cells (n * 1)).toList = List.replicate n (.string ByteArray.empty) := by
  apply List.ext_getElem?
  intro i
  by_cases h : i < n <;> simp [madeCells, Value.cells, h, Nat.mod_one]

theorem ownsRow_strs {w : World} {B g : Nat} {cap : Nat} {ss : List ByteArray} (h : w.ownsRow B 9 1 (.slice (some ⟨g, 0, none⟩) ss.length cap) ss.length (filled ss ss.length ss.length)) : Strs w (some ⟨g, 0, none⟩) ss := by
  intro i hi
  refine ⟨g, 0, rfl, ?_⟩
  rw [Nat.zero_add, h.cellAt i (by omega), filled_get ss i hi]

end Go.Proofs.YtjdjhenijihpfaaGreatDoor
namespace Go.Proofs.YtjdjhenijihpfaaGreatDoor
open Go.RowKit
set_option linter.unusedVariables false

def lessB (a b : ByteArray) : Bool := Op.bytesLess a.toList b.toList
theorem lessB_trans {a b c : ByteArray} (h : lessB a b = true) (k : lessB b c = true) : lessB a c = true := by
  unfold lessB at *
  rw [bytesLess_eq] at *
  simp only [decide_eq_true_eq] at *
  exact List.lt_trans h k
theorem lessB_irrefl (a : ByteArray) : lessB a a = false := by
  unfold lessB
  rw [bytesLess_eq]
  simp only [decide_eq_false_iff_not]
  exact List.lt_irrefl _

def nx (l : List ByteArray) (i : Nat) : ByteArray := l.getD i ByteArray.empty
def Asc (l : List ByteArray) : Prop := ∀ i, 1 ≤ i → i < l.length → lessB (nx l (i - 1)) (nx l i) = true
theorem Asc.lt {l : List ByteArray} (h : Asc l) : ∀ (d i : Nat), i + d + 1 < l.length → lessB (nx l i) (nx l (i + d + 1)) = true
  | 0, i, hi => by have := h (i + 0 + 1) (by omega) hi; simpa using this
  | d + 1, i, hi => by
    have h1 := Asc.lt h d i (by omega)
    have h2 := h (i + (d + 1) + 1) (by omega) hi
    exact lessB_trans h1 (by have := h2; rw [Nat.add_sub_cancel] at this; exact this)
theorem Asc.pair {l : List ByteArray} (h : Asc l) {i j : Nat} (hij : i < j) (hj : j < l.length) : lessB (nx l i) (nx l j) = true := by
  have := h.lt (j - i - 1) i (by omega)
  rwa [show i + (j - i - 1) + 1 = j by omega] at this

theorem iff_no {P : Prop} (h : ¬ P) : (false = true ↔ P) := ⟨fun k => absurd k (by decide), fun k => absurd k h⟩
theorem iff_yes {P : Prop} (h : P) : (true = true ↔ P) := ⟨fun _ => h, fun _ => rfl⟩

theorem ascending_step {l : List ByteArray} {m : Nat} (h : ∀ j, 1 ≤ j → j < m + 1 → lessB (nx l (j - 1)) (nx l j) = true) (hk : lessB (nx l m) (nx l (m + 1)) = true) : ∀ j, 1 ≤ j → j < m + 1 + 1 → lessB (nx l (j - 1)) (nx l j) = true := by
  intro j h1 h2
  rcases Nat.lt_or_ge j (m + 1) with h3 | h3
  · exact h j h1 h3
  · obtain rfl : j = m + 1 := by omega
    simpa using hk

set_option maxHeartbeats 1000000 in
theorem ascending_any (a : Option Addr) (cap : Nat) (l : List ByteArray) (w : World) (hc : Strs w a l) (hl : l.length ≤ 1048576) :
    Calls Tryz.prog 35 #[.slice a l.length cap] w fun e w' => Below w.heap.size w w' ∧ ∃ b : Bool, e = .returned (.bool b) ∧ (b = true ↔ Asc l) := by
  go_enter Tryz.func35, Tryz.ntmps35
  go_wp2
  go_loopw [3] (fun i wr => ∃ m : Nat, (m = 0 ∨ m + 1 ≤ l.length) ∧ i = .int .i64 (m + 1) ∧ Hid (∀ j, 1 ≤ j → j < m + 1 → lessB (nx l (j - 1)) (nx l j) = true) ∧ Below w.heap.size w wr) (fun i _ => l.length + 1 - (intOf i).toNat)
  case atStart => exact ⟨0, Or.inl rfl, rfl, (fun j h1 h2 => by omega : ∀ j, 1 ≤ j → j < 0 + 1 → lessB (nx l (j - 1)) (nx l j) = true), Below.refl _ _⟩
  case round =>
    obtain ⟨m, hm, rfl, HA, hbel⟩ := hrel
    by_cases hlt : m + 1 < l.length
    · obtain ⟨b, off, rfl, c1⟩ := (hc.below hbel) m (by omega)
      obtain ⟨b', off', e', c2⟩ := (hc.below hbel) (m + 1) hlt
      simp only [Option.some.injEq, Addr.mk.injEq, and_true] at e'
      obtain ⟨rfl, rfl⟩ := e'
      replace c1 : wr.cell? ⟨b, off + m, none⟩ = some (.string (nx l m)) := c1
      replace c2 : wr.cell? ⟨b, off + (m + 1), none⟩ = some (.string (nx l (m + 1))) := c2
      obtain ⟨v, hv⟩ : ∃ v, lessB (nx l m) (nx l (m + 1)) = v := ⟨_, rfl⟩
      have HV : Hid (lessB (nx l m) (nx l (m + 1)) = v) := hv
      unfold lessB at hv
      clear hc
      generalize nx l m = s at c1 hv
      generalize nx l (m + 1) = s' at c2 hv
      have hltI : (m : Int) + 1 < (l.length : Int) := by omega
      cases v
      · go_wp2
        go_region
        all_goals
          go_wp2
          go_ret
          exact ⟨by repeat (first | exact hbel | apply Below.drew), false, rfl, iff_no (fun h => by have := h (m + 1) (by omega) hlt; rw [Nat.add_sub_cancel, HV.out] at this; cases this)⟩
      · go_wp2
        go_region
        all_goals
          go_wp2
          go_roundw
          case rel => exact ⟨m + 1, by omega, by go_num, ascending_step HA.out HV.out, by repeat (first | exact hbel | apply Below.drew)⟩
          case measure => simp [intOf]; omega
    · go_wp2
      go_ret
      exact ⟨hbel, true, rfl, iff_yes (fun j h1 h2 => HA.out j h1 (by omega))⟩

end Go.Proofs.YtjdjhenijihpfaaGreatDoor
