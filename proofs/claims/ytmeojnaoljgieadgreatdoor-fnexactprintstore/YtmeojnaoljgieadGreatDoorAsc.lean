/-
  Ascending texts: impl.ascending.
-/
import Derived.Test.YtmeojnaoljgieadGreatDoorStrs
import Derived.Shelf.SlSorted.Search
namespace Go.Proofs.YtmeojnaoljgieadGreatDoor
open Go.RowKit
set_option linter.unusedVariables false

def lessB (a b : ByteArray) : Bool := Op.bytesLess a.toList b.toList
theorem lessB_trans {a b c : ByteArray} (h : lessB a b = true) (k : lessB b c = true) : lessB a c = true := by
  unfold lessB at *
  rw [bytesLess_eq] at *
  simp only [decide_eq_true_eq] at *
  exact List.lt_trans h k
theorem lessB_irrefl (a : ByteArray) : lessB a a = false := by
  unfold lessB
  rw [bytesLess_eq]
  simp only [decide_eq_false_iff_not]
  exact List.lt_irrefl _

def nx (l : List ByteArray) (i : Nat) : ByteArray := l.getD i ByteArray.empty
def Asc (l : List ByteArray) : Prop := ∀ i, 1 ≤ i → i < l.length → lessB (nx l (i - 1)) (nx l i) = true
theorem Asc.lt {l : List ByteArray} (h : Asc l) : ∀ (d i : Nat), i + d + 1 < l.length → lessB (nx l i) (nx l (i + d + 1)) = true
  | 0, i, hi => by have := h (i + 0 + 1) (by omega) hi; simpa using this
  | d + 1, i, hi => by
    have h1 := Asc.lt h d i (by omega)
    have h2 := h (i + (d + 1) + 1) (by omega) hi
    exact lessB_trans h1 (by have := h2; rw [Nat.add_sub_cancel] at this; exact this)
theorem Asc.pair {l : List ByteArray} (h : Asc l) {i j : Nat} (hij : i < j) (hj : j < l.length) : lessB (nx l i) (nx l j) = true := by
  have := h.lt (j - i - 1) i (by omega)
  rwa [show i + (j - i - 1) + 1 = j by omega] at this

theorem iff_no {P : Prop} (h : ¬ P) : (false = true ↔ P) := ⟨fun k => absurd k (by decide), fun k => absurd k h⟩
theorem iff_yes {P : Prop} (h : P) : (true = true ↔ P) := ⟨fun _ => h, fun _ => rfl⟩

theorem ascending_step {l : List ByteArray} {m : Nat} (h : ∀ j, 1 ≤ j → j < m + 1 → lessB (nx l (j - 1)) (nx l j) = true) (hk : lessB (nx l m) (nx l (m + 1)) = true) : ∀ j, 1 ≤ j → j < m + 1 + 1 → lessB (nx l (j - 1)) (nx l j) = true := by
  intro j h1 h2
  rcases Nat.lt_or_ge j (m + 1) with h3 | h3
  · exact h j h1 h3
  · obtain rfl : j = m + 1 := by omega
    simpa using hk

set_option maxHeartbeats 1000000 in
theorem ascending_any (a : Option Addr) (cap : Nat) (l : List ByteArray) (w : World) (hc : Strs w a l) (hl : l.length ≤ 1048576) :
    Calls Tryz.prog 75 #[.slice a l.length cap] w fun e w' => Below w.heap.size w w' ∧ ∃ b : Bool, e = .returned (.bool b) ∧ (b = true ↔ Asc l) := by
  go_enter Tryz.func75, Tryz.ntmps75
  go_wp2
  go_loopw [3] (fun i wr => ∃ m : Nat, (m = 0 ∨ m + 1 ≤ l.length) ∧ i = .int .i64 (m + 1) ∧ Hid (∀ j, 1 ≤ j → j < m + 1 → lessB (nx l (j - 1)) (nx l j) = true) ∧ Below w.heap.size w wr) (fun i _ => l.length + 1 - (intOf i).toNat)
  case atStart => exact ⟨0, Or.inl rfl, rfl, (fun j h1 h2 => by omega : ∀ j, 1 ≤ j → j < 0 + 1 → lessB (nx l (j - 1)) (nx l j) = true), Below.refl _ _⟩
  case round =>
    obtain ⟨m, hm, rfl, HA, hbel⟩ := hrel
    by_cases hlt : m + 1 < l.length
    · obtain ⟨b, off, rfl, c1⟩ := (hc.below hbel) m (by omega)
      obtain ⟨b', off', e', c2⟩ := (hc.below hbel) (m + 1) hlt
      simp only [Option.some.injEq, Addr.mk.injEq, and_true] at e'
      obtain ⟨rfl, rfl⟩ := e'
      replace c1 : wr.cell? ⟨b, off + m, none⟩ = some (.string (nx l m)) := c1
      replace c2 : wr.cell? ⟨b, off + (m + 1), none⟩ = some (.string (nx l (m + 1))) := c2
      obtain ⟨v, hv⟩ : ∃ v, lessB (nx l m) (nx l (m + 1)) = v := ⟨_, rfl⟩
      have HV : Hid (lessB (nx l m) (nx l (m + 1)) = v) := hv
      unfold lessB at hv
      clear hc
      generalize nx l m = s at c1 hv
      generalize nx l (m + 1) = s' at c2 hv
      have hltI : (m : Int) + 1 < (l.length : Int) := by omega
      cases v
      · go_wp2
        go_region
        all_goals
          go_wp2
          go_ret
          exact ⟨by repeat (first | exact hbel | apply Below.drew), false, rfl, iff_no (fun h => by have := h (m + 1) (by omega) hlt; rw [Nat.add_sub_cancel, HV.out] at this; cases this)⟩
      · go_wp2
        go_region
        all_goals
          go_wp2
          go_roundw
          case rel => exact ⟨m + 1, by omega, by go_num, ascending_step HA.out HV.out, by repeat (first | exact hbel | apply Below.drew)⟩
          case measure => simp [intOf]; omega
    · go_wp2
      go_ret
      exact ⟨hbel, true, rfl, iff_yes (fun j h1 h2 => HA.out j h1 (by omega))⟩

end Go.Proofs.YtmeojnaoljgieadGreatDoor
