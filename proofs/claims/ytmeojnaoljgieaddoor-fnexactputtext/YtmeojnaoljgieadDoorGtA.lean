/-
  impl.findText: the place of a sum.
-/
import Derived.Test.YtmeojnaoljgieadDoorGtIm
import Derived.Test.YtmeojnaoljgieadDoorGtSp
namespace Go.Proofs.YtmeojnaoljgieadDoor
open Go.RowKit
set_option linter.unusedVariables false

/-- The place of a sum among those of the texts. -/
structure PlT (n : Nat) (ts : List ByteArray) (t : ByteArray) (r : Nat) : Prop where
  le : r ≤ ts.length
  lo : ∀ j, j < r → lessB (sumB n (nx ts j)) t = true
  hi : r < ts.length → lessB (sumB n (nx ts r)) t = false
theorem PlT.unique {n : Nat} {ts : List ByteArray} {t : ByteArray} {r r' : Nat} (h : PlT n ts t r) (h' : PlT n ts t r') : r = r' := by
  rcases Nat.lt_trichotomy r r' with k | k | k
  · have h1 := h.hi (by have := h'.le; omega)
    rw [h'.lo r k] at h1; cases h1
  · exact k
  · have h1 := h'.hi (by have := h.le; omega)
    rw [h.lo r' k] at h1; cases h1

set_option maxHeartbeats 2000000 in
theorem binarySearch_at (a : Option Addr) (cap : Nat) (l : List ByteArray) (t : ByteArray) (w : World) (hc0 : Strs w a l) (hl : l.length ≤ 1048576) (hasc : Asc l) :
    Calls Tryd.prog 37 #[.slice a l.length cap, .string t] w fun e w' => w = w' ∧ ∃ (r : Nat) (b : Bool), e = .returned (.tuple #[.int .i64 r, .bool b]) ∧ r ≤ l.length ∧ (∀ j, j < r → lessB (nx l j) t = true) ∧ (∀ j, r ≤ j → j < l.length → lessB (nx l j) t = false) ∧ ((b = true ∧ r < l.length ∧ nx l r = t) ∨ (b = false ∧ ¬ (r < l.length ∧ nx l r = t))) := by
  have HASC : Hid (Asc l) := hasc
  have hc : ∀ i, i < l.length → ∃ b off, a = some ⟨b, off, none⟩ ∧ w.cell? ⟨b, off + i, none⟩ = some (.string (nx l i)) := fun i hi => hc0 i hi
  clear hasc hc0
  go_enter Tryd.func37, Tryd.ntmps37
  go_wp2
  go_loopw [7, 8] (fun i j wr => ∃ lo hi : Nat, i = .int .i64 lo ∧ j = .int .i64 hi ∧ lo ≤ hi ∧ hi ≤ l.length ∧ Hid (∀ j, j < lo → lessB (nx l j) t = true) ∧ Hid (∀ j, hi ≤ j → j < l.length → lessB (nx l j) t = false) ∧ w = wr) (fun i j _ => (intOf j).toNat - (intOf i).toNat)
  case atStart => exact ⟨0, l.length, rfl, rfl, Nat.zero_le _, Nat.le_refl _, (fun j hj => by omega : ∀ j, j < 0 → lessB (nx l j) t = true), (fun j h1 h2 => by omega : ∀ j, l.length ≤ j → j < l.length → lessB (nx l j) t = false), rfl⟩
  case round =>
    obtain ⟨lo, hi, rfl, rfl, h1, h2, HL, HH, rfl⟩ := hrel
    by_cases hlt : lo < hi
    · obtain ⟨m, e1, hm1, hm2⟩ : ∃ m : Nat, ((lo : Int) + (hi : Int)) / 2 = (m : Int) ∧ lo ≤ m ∧ m < hi := ⟨(lo + hi) / 2, by omega, by omega, by omega⟩
      obtain ⟨b, off, rfl, c1⟩ := hc m (by omega)
      obtain ⟨v, hv⟩ : ∃ v, lessB (nx l m) t = v := ⟨_, rfl⟩
      have HV : Hid (lessB (nx l m) t = v) := hv
      have HN : Hid (∀ W : World, Calls Tryd.prog 60 #[.string (nx l m), .string t] W fun e w' => e = .returned (.bool v) ∧ W = w') := fun W => by rw [← hv]; exact cmpLess_any _ _ W
      clear hc hv
      generalize nx l m = s at c1 HN
      have hmI : (m : Int) < (l.length : Int) := by omega
      cases v
      · go_wp2_with (go_at_call 60; refine (HN.out _).mono ?_; rintro e w' ⟨rfl, rfl⟩)
        go_roundw
        case rel => exact ⟨lo, m, rfl, rfl, hm1, by omega, HL.out, hi_step HASC.out HV.out, trivial⟩
        case measure => simp [intOf]; omega
      · go_wp2_with (go_at_call 60; refine (HN.out _).mono ?_; rintro e w' ⟨rfl, rfl⟩)
        go_roundw
        case rel => exact ⟨m + 1, hi, by go_num, rfl, by omega, by omega, lo_step HASC.out (by omega) HV.out, HH.out, trivial⟩
        case measure => simp [intOf]; omega
    · obtain rfl : lo = hi := by omega
      by_cases hll : lo < l.length
      · obtain ⟨b, off, rfl, c1⟩ := hc lo hll
        have hlI : (lo : Int) < (l.length : Int) := by omega
        by_cases he : nx l lo = t
        · have heq := str_eq he
          have HE : Hid (nx l lo = t) := he
          clear hc he
          generalize nx l lo = s at c1 heq
          go_wp2
          go_ret2
          exact ⟨rfl, lo, true, rfl, h2, HL.out, HH.out, Or.inl ⟨rfl, hll, HE.out⟩⟩
        · have heq := str_ne he
          have HE : Hid (nx l lo ≠ t) := he
          clear hc he
          have hss := str_eq (rfl : nx l lo = nx l lo)
          generalize nx l lo = s at c1 heq hss
          go_wp2
          go_ret2
          exact ⟨rfl, lo, false, rfl, h2, HL.out, HH.out, Or.inr ⟨rfl, fun h => HE.out h.2⟩⟩
      · have hlI : ¬ (lo : Int) < (l.length : Int) := by omega
        have HLL : Hid (¬ lo < l.length) := hll
        go_wp2
        go_ret2
        exact ⟨rfl, lo, Or.inl ⟨rfl, h2, HL.out, HH.out, fun h => absurd h HLL.out⟩⟩

end Go.Proofs.YtmeojnaoljgieadDoor
