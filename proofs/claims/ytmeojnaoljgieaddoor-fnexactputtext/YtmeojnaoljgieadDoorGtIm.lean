/-
  GetText: impl's search.
-/
import Derived.Test.YtmeojnaoljgieadDoorStSp
namespace Go.Proofs.YtmeojnaoljgieadDoor
open Go.RowKit
set_option linter.unusedVariables false

def Has (l : List ByteArray) (n : ByteArray) : Prop := ∃ j, j < l.length ∧ nx l j = n
theorem lo_step {l : List ByteArray} {t : ByteArray} {m : Nat} (h : Asc l) (hm : m < l.length) (hv : lessB (nx l m) t = true) : ∀ j, j < m + 1 → lessB (nx l j) t = true := by
  intro j hj
  rcases Nat.lt_or_ge j m with h1 | h1
  · exact lessB_trans (h.pair h1 hm) hv
  · obtain rfl : j = m := by omega
    exact hv
theorem hi_step {l : List ByteArray} {t : ByteArray} {m : Nat} (h : Asc l) (hv : lessB (nx l m) t = false) : ∀ j, m ≤ j → j < l.length → lessB (nx l j) t = false := by
  intro j hj hl
  rcases Nat.lt_or_ge m j with h1 | h1
  · rw [Bool.eq_false_iff]
    intro h2
    have := lessB_trans (h.pair h1 hl) h2
    rw [hv] at this; cases this
  · obtain rfl : j = m := by omega
    exact hv
theorem has_at {l : List ByteArray} {t : ByteArray} {i : Nat} (h : Asc l) (h1 : ∀ j, j < i → lessB (nx l j) t = true) (h2 : ∀ j, i ≤ j → j < l.length → lessB (nx l j) t = false) (k : Has l t) : i < l.length ∧ nx l i = t := by
  obtain ⟨j, hj, e⟩ := k
  rcases Nat.lt_trichotomy j i with hji | hji | hji
  · have := h1 j hji
    rw [e, lessB_irrefl] at this; cases this
  · subst hji; exact ⟨hj, e⟩
  · have := h.pair hji hj
    rw [e, h2 i (Nat.le_refl _) (by omega)] at this; cases this


theorem cmpLess_any (s t : ByteArray) (w : World) : Calls Tryd.prog 60 #[.string s, .string t] w fun e w' => e = .returned (.bool (lessB s t)) ∧ w = w' := by
  unfold lessB
  have e1 := str_eq (rfl : s = s)
  go_enter Tryd.func60, Tryd.ntmps60
  go_wp2
  go_ret
  exact ⟨rfl, rfl⟩
set_option maxHeartbeats 2000000 in
theorem binarySearch_any (a : Option Addr) (cap : Nat) (l : List ByteArray) (t : ByteArray) (w : World) (hc0 : Strs w a l) (hl : l.length ≤ 1048576) (hasc : Asc l) :
    Calls Tryd.prog 37 #[.slice a l.length cap, .string t] w fun e w' => w = w' ∧ ∃ (r : Nat) (b : Bool), e = .returned (.tuple #[.int .i64 r, .bool b]) ∧ ((b = true ∧ r < l.length ∧ nx l r = t) ∨ (b = false ∧ ¬ Has l t)) := by
  have HASC : Hid (Asc l) := hasc
  have hc : ∀ i, i < l.length → ∃ b off, a = some ⟨b, off, none⟩ ∧ w.cell? ⟨b, off + i, none⟩ = some (.string (nx l i)) := fun i hi => hc0 i hi
  clear hasc hc0
  go_enter Tryd.func37, Tryd.ntmps37
  go_wp2
  go_loopw [7, 8] (fun i j wr => ∃ lo hi : Nat, i = .int .i64 lo ∧ j = .int .i64 hi ∧ lo ≤ hi ∧ hi ≤ l.length ∧ Hid (∀ j, j < lo → lessB (nx l j) t = true) ∧ Hid (∀ j, hi ≤ j → j < l.length → lessB (nx l j) t = false) ∧ w = wr) (fun i j _ => (intOf j).toNat - (intOf i).toNat)
  case atStart => exact ⟨0, l.length, rfl, rfl, Nat.zero_le _, Nat.le_refl _, (fun j hj => by omega : ∀ j, j < 0 → lessB (nx l j) t = true), (fun j h1 h2 => by omega : ∀ j, l.length ≤ j → j < l.length → lessB (nx l j) t = false), rfl⟩
  case round =>
    obtain ⟨lo, hi, rfl, rfl, h1, h2, HL, HH, rfl⟩ := hrel
    by_cases hlt : lo < hi
    · obtain ⟨m, e1, hm1, hm2⟩ : ∃ m : Nat, ((lo : Int) + (hi : Int)) / 2 = (m : Int) ∧ lo ≤ m ∧ m < hi := ⟨(lo + hi) / 2, by omega, by omega, by omega⟩
      obtain ⟨b, off, rfl, c1⟩ := hc m (by omega)
      obtain ⟨v, hv⟩ : ∃ v, lessB (nx l m) t = v := ⟨_, rfl⟩
      have HV : Hid (lessB (nx l m) t = v) := hv
      have HN : Hid (∀ W : World, Calls Tryd.prog 60 #[.string (nx l m), .string t] W fun e w' => e = .returned (.bool v) ∧ W = w') := fun W => by rw [← hv]; exact cmpLess_any _ _ W
      clear hc hv
      generalize nx l m = s at c1 HN
      have hmI : (m : Int) < (l.length : Int) := by omega
      cases v
      · go_wp2_with (go_at_call 60; refine (HN.out _).mono ?_; rintro e w' ⟨rfl, rfl⟩)
        go_roundw
        case rel => exact ⟨lo, m, rfl, rfl, hm1, by omega, HL.out, hi_step HASC.out HV.out, trivial⟩
        case measure => simp [intOf]; omega
      · go_wp2_with (go_at_call 60; refine (HN.out _).mono ?_; rintro e w' ⟨rfl, rfl⟩)
        go_roundw
        case rel => exact ⟨m + 1, hi, by go_num, rfl, by omega, by omega, lo_step HASC.out (by omega) HV.out, HH.out, trivial⟩
        case measure => simp [intOf]; omega
    · obtain rfl : lo = hi := by omega
      by_cases hll : lo < l.length
      · obtain ⟨b, off, rfl, c1⟩ := hc lo hll
        have hlI : (lo : Int) < (l.length : Int) := by omega
        by_cases he : nx l lo = t
        · have heq := str_eq he
          have HE : Hid (nx l lo = t) := he
          clear hc he
          generalize nx l lo = s at c1 heq
          go_wp2
          go_ret2
          exact ⟨rfl, lo, true, rfl, Or.inl ⟨rfl, hll, HE.out⟩⟩
        · have heq := str_ne he
          have HE : Hid (nx l lo ≠ t) := he
          clear hc he
          have hss := str_eq (rfl : nx l lo = nx l lo)
          generalize nx l lo = s at c1 heq hss
          go_wp2
          go_ret2
          exact ⟨rfl, lo, false, rfl, Or.inr ⟨rfl, fun h => HE.out (has_at HASC.out HL.out HH.out h).2⟩⟩
      · have hlI : ¬ (lo : Int) < (l.length : Int) := by omega
        have HLL : Hid (¬ lo < l.length) := hll
        go_wp2
        go_ret2
        exact ⟨rfl, lo, Or.inl ⟨rfl, fun h => HLL.out (has_at HASC.out HL.out HH.out h).1⟩⟩

/-- What GetText answers. -/
def GetOut (n : Nat) (ts : List ByteArray) (t A : ByteArray) (ok : Bool) : Prop := (ok = true ∧ ∃ i, i < ts.length ∧ sumB n (nx ts i) = t ∧ A = nx ts i) ∨ (ok = false ∧ A = ⟨#[]⟩ ∧ ¬ Has (ts.map (sumB n)) t)
theorem has_sums {n : Nat} {ts : List ByteArray} {t : ByteArray} {i : Nat} (h : i < ts.length) (e : sumB n (nx ts i) = t) : Has (ts.map (sumB n)) t := ⟨i, by rw [List.length_map]; exact h, by rw [nx_sums n ts i h]; exact e⟩
theorem GetOut.unique {n : Nat} {ts : List ByteArray} {t A A' : ByteArray} {ok ok' : Bool} (ha : Asc (ts.map (sumB n))) (h : GetOut n ts t A ok) (h' : GetOut n ts t A' ok') : A' = A ∧ ok' = ok := by
  rcases h with ⟨rfl, i, h1, h2, rfl⟩ | ⟨rfl, rfl, h1⟩ <;> rcases h' with ⟨rfl, j, k1, k2, rfl⟩ | ⟨rfl, rfl, k1⟩
  · have : i = j := by
      have hs : ∀ i, i < ts.length → nx (ts.map (sumB n)) i = sumB n (nx ts i) := fun i h => nx_sums n ts i h
      rcases Nat.lt_trichotomy i j with hij | hij | hij
      · have := ha.pair hij (by rw [List.length_map]; exact k1)
        rw [hs i h1, hs j k1, h2, k2, lessB_irrefl] at this; cases this
      · exact hij
      · have := ha.pair hij (by rw [List.length_map]; exact h1)
        rw [hs i h1, hs j k1, h2, k2, lessB_irrefl] at this; cases this
    subst this
    exact ⟨rfl, rfl⟩
  · exact absurd (has_sums h1 h2) k1
  · exact absurd (has_sums k1 k2) h1
  · exact ⟨rfl, rfl⟩

end Go.Proofs.YtmeojnaoljgieadDoor
