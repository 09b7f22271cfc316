import Derived.Test.YtjdjhenijihpfaaGreatDoorChkA
namespace Go.Proofs.YtjdjhenijihpfaaGreatDoor
open Go.RowKit
set_option linter.unusedVariables false

theorem cmpLess_any (s t : ByteArray) (w : World) : Calls Tryz.prog 81 #[.string s, .string t] w fun e w' => e = .returned (.bool (lessB s t)) ∧ w = w' := by
  unfold lessB
  have e1 := str_eq (rfl : s = s)
  go_enter Tryz.func81, Tryz.ntmps81
  go_wp2
  go_ret
  exact ⟨rfl, rfl⟩

theorem lo_step {l : List ByteArray} {t : ByteArray} {m : Nat} (h : Asc l) (hm : m < l.length) (hv : lessB (nx l m) t = true) : ∀ j, j < m + 1 → lessB (nx l j) t = true := by
  intro j hj
  rcases Nat.lt_or_ge j m with h1 | h1
  · exact lessB_trans (h.pair h1 hm) hv
  · obtain rfl : j = m := by omega
    exact hv
theorem hi_step {l : List ByteArray} {t : ByteArray} {m : Nat} (h : Asc l) (hv : lessB (nx l m) t = false) : ∀ j, m ≤ j → j < l.length → lessB (nx l j) t = false := by
  intro j hj hl
  rcases Nat.lt_or_ge m j with h1 | h1
  · rw [Bool.eq_false_iff]
    intro h2
    have := lessB_trans (h.pair h1 hl) h2
    rw [hv] at this; cases this
  · obtain rfl : j = m := by omega
    exact hv
theorem has_at {l : List ByteArray} {t : ByteArray} {i : Nat} (h : Asc l) (h1 : ∀ j, j < i → lessB (nx l j) t = true) (h2 : ∀ j, i ≤ j → j < l.length → lessB (nx l j) t = false) (k : Has l t) : i < l.length ∧ nx l i = t := by
  obtain ⟨j, hj, e⟩ := k
  rcases Nat.lt_trichotomy j i with hji | hji | hji
  · have := h1 j hji
    rw [e, lessB_irrefl] at this; cases this
  · subst hji; exact ⟨hj, e⟩
  · have := h.pair hji hj
    rw [e, h2 i (Nat.le_refl _) (by omega)] at this; cases this

set_option maxHeartbeats 2000000 in
theorem binarySearch_any (a : Option Addr) (cap : Nat) (l : List ByteArray) (t : ByteArray) (w : World) (hc : Strs w a l) (hl : l.length ≤ 1048576) (hasc : Asc l) :
    Calls Tryz.prog 66 #[.slice a l.length cap, .string t] w fun e w' => w = w' ∧ ∃ (r : Int) (b : Bool), e = .returned (.tuple #[.int .i64 r, .bool b]) ∧ (b = true ↔ Has l t) := by
  have HASC : Hid (Asc l) := hasc
  clear hasc
  go_enter Tryz.func66, Tryz.ntmps66
  go_wp2
  go_loopw [7, 8] (fun i j wr => ∃ lo hi : Nat, i = .int .i64 lo ∧ j = .int .i64 hi ∧ lo ≤ hi ∧ hi ≤ l.length ∧ Hid (∀ j, j < lo → lessB (nx l j) t = true) ∧ Hid (∀ j, hi ≤ j → j < l.length → lessB (nx l j) t = false) ∧ w = wr) (fun i j _ => (intOf j).toNat - (intOf i).toNat)
  case atStart => exact ⟨0, l.length, rfl, rfl, Nat.zero_le _, Nat.le_refl _, (fun j hj => by omega : ∀ j, j < 0 → lessB (nx l j) t = true), (fun j h1 h2 => by omega : ∀ j, l.length ≤ j → j < l.length → lessB (nx l j) t = false), rfl⟩
  case round =>
    obtain ⟨lo, hi, rfl, rfl, h1, h2, HL, HH, rfl⟩ := hrel
    by_cases hlt : lo < hi
    · obtain ⟨m, e1, hm1, hm2⟩ : ∃ m : Nat, ((lo : Int) + (hi : Int)) / 2 = (m : Int) ∧ lo ≤ m ∧ m < hi := ⟨(lo + hi) / 2, by omega, by omega, by omega⟩
      obtain ⟨b, off, rfl, c1⟩ := hc.nx m (by omega)
      obtain ⟨v, hv⟩ : ∃ v, lessB (nx l m) t = v := ⟨_, rfl⟩
      have HV : Hid (lessB (nx l m) t = v) := hv
      have HN : Hid (∀ W : World, Calls Tryz.prog 81 #[.string (nx l m), .string t] W fun e w' => e = .returned (.bool v) ∧ W = w') := fun W => by rw [← hv]; exact cmpLess_any _ _ W
      clear hc hv
      generalize nx l m = s at c1 HN
      have hmI : (m : Int) < (l.length : Int) := by omega
      cases v
      · go_wp2_with (go_at_call 81; refine (HN.out _).mono ?_; rintro e w' ⟨rfl, rfl⟩)
        go_roundw
        case rel => exact ⟨lo, m, rfl, rfl, hm1, by omega, HL.out, hi_step HASC.out HV.out, trivial⟩
        case measure => simp [intOf]; omega
      · go_wp2_with (go_at_call 81; refine (HN.out _).mono ?_; rintro e w' ⟨rfl, rfl⟩)
        go_roundw
        case rel => exact ⟨m + 1, hi, by go_num, rfl, by omega, by omega, lo_step HASC.out (by omega) HV.out, HH.out, trivial⟩
        case measure => simp [intOf]; omega
    · obtain rfl : lo = hi := by omega
      by_cases hll : lo < l.length
      · obtain ⟨b, off, rfl, c1⟩ := hc.nx lo hll
        have hlI : (lo : Int) < (l.length : Int) := by omega
        by_cases he : nx l lo = t
        · have heq := str_eq he
          have HE : Hid (nx l lo = t) := he
          clear hc he
          generalize nx l lo = s at c1 heq
          go_wp2
          go_ret2
          exact ⟨rfl, _, true, rfl, iff_yes ⟨lo, hll, HE.out⟩⟩
        · have heq := str_ne he
          have HE : Hid (nx l lo ≠ t) := he
          clear hc he
          have hss := str_eq (rfl : nx l lo = nx l lo)
          generalize nx l lo = s at c1 heq hss
          go_wp2
          go_ret2
          exact ⟨rfl, _, false, rfl, iff_no (fun h => HE.out (has_at HASC.out HL.out HH.out h).2)⟩
      · have hlI : ¬ (lo : Int) < (l.length : Int) := by omega
        have HLL : Hid (¬ lo < l.length) := hll
        go_wp2
        go_ret2
        exact ⟨rfl, _, Or.inl ⟨rfl, fun h => HLL.out (has_at HASC.out HL.out HH.out h).1⟩⟩

set_option maxHeartbeats 1000000 in
theorem shareName_any (a a' : Option Addr) (cap cap' : Nat) (l m : List ByteArray) (w : World) (hc : Strs w a l) (hc' : Strs w a' m) (hl : l.length ≤ 1048576) (hl' : m.length ≤ 1048576) (hasc : Asc m) :
    Calls Tryz.prog 36 #[.slice a l.length cap, .slice a' m.length cap'] w fun e w' => w = w' ∧ ∃ b : Bool, e = .returned (.bool b) ∧ (b = true ↔ Share l m) := by
  have HB : Hid (∀ t : ByteArray, Calls Tryz.prog 66 #[.slice a' m.length cap', .string t] w fun e w' => w = w' ∧ ∃ (r : Int) (b : Bool), e = .returned (.tuple #[.int .i64 r, .bool b]) ∧ (b = true ↔ Has m t)) := fun t => binarySearch_any a' cap' m t w hc' hl' hasc
  clear hc' hasc
  go_enter Tryz.func36, Tryz.ntmps36
  go_wp2
  go_loopw [11] (fun i wr => ∃ k : Nat, k ≤ l.length ∧ i = .int .i64 k ∧ Hid (∀ j, j < k → ¬ Has m (nx l j)) ∧ w = wr) (fun i _ => l.length - (intOf i).toNat)
  case atStart => exact ⟨0, Nat.zero_le _, rfl, (fun j hj => by omega : ∀ j, j < 0 → ¬ Has m (nx l j)), rfl⟩
  case round =>
    obtain ⟨k, hk, rfl, HA, rfl⟩ := hrel
    by_cases hlt : k < l.length
    · obtain ⟨b, off, rfl, c1⟩ := hc.nx k hlt
      clear hc
      obtain ⟨s, es⟩ : ∃ s, nx l k = s := ⟨_, rfl⟩
      have ES : Hid (nx l k = s) := es
      rw [es] at c1
      clear es
      go_wp2_with fail
      refine (HB.out s).mono ?_
      rintro e w' ⟨rfl, r, b, rfl, hb⟩
      cases b
      · have HNo : Hid (¬ Has m s) := fun h => by have := hb.mpr h; cases this
        clear hb
        go_wp2
        go_roundw
        case rel => exact ⟨k + 1, by omega, by go_num, ext_succ HA.out (by rw [ES.out]; exact HNo.out), trivial⟩
        case measure => simp [intOf]; omega
      · have HYes : Hid (Has m s) := hb.mp rfl
        clear hb
        go_wp2
        go_ret
        exact ⟨rfl, true, rfl, iff_yes ⟨k, hlt, by rw [ES.out]; exact HYes.out⟩⟩
    · go_wp2
      go_ret
      exact ⟨rfl, false, rfl, iff_no (fun ⟨j, hj, h⟩ => HA.out j (by omega) h)⟩

set_option maxHeartbeats 1000000 in
theorem validTexts_any (a : Option Addr) (cap : Nat) (is : List S2) (w : World) (hc : RowS w a is) (hl : is.length ≤ 1048576) (hs : ∀ i, (sx is i).text.size ≤ maxLen) :
    Calls Tryz.prog 37 #[.slice a is.length cap] w fun e w' => Below w.heap.size w w' ∧ ∃ b : Bool, e = .returned (.bool b) ∧ (b = true ↔ TextsOk is) := by
  go_enter Tryz.func37, Tryz.ntmps37
  go_wp2
  go_loopw [7] (fun i wr => ∃ k : Nat, k ≤ is.length ∧ i = .int .i64 k ∧ Hid (∀ j, j < k → (sx is j).text.size ≤ 2000) ∧ Below w.heap.size w wr) (fun i _ => is.length - (intOf i).toNat)
  case atStart => exact ⟨0, Nat.zero_le _, rfl, (fun j hj => by omega : ∀ j, j < 0 → (sx is j).text.size ≤ 2000), Below.refl _ _⟩
  case round =>
    obtain ⟨k, hk, rfl, HA, hbel⟩ := hrel
    by_cases hlt : k < is.length
    · obtain ⟨b, off, rfl, c1, c2⟩ := (hc.below hbel) k hlt
      have hsk := hs k
      unfold maxLen at hsk
      obtain ⟨i, ei⟩ : ∃ i, sx is k = i := ⟨_, rfl⟩
      have EI : Hid (sx is k = i) := ei
      rw [ei] at c1 c2 hsk
      clear hc hs ei
      have hkI : (k : Int) < (is.length : Int) := by omega
      by_cases ht : i.text.size ≤ 2000
      · go_wp2
        go_roundw
        case rel => exact ⟨k + 1, by omega, by go_num, ext_succ HA.out (by rw [EI.out]; exact ht), hbel.alloc hbel.size _⟩
        case measure => simp [intOf]; omega
      · go_wp2
        go_ret
        exact ⟨hbel.alloc hbel.size _, false, rfl, iff_no (fun h => by have := h k hlt; rw [EI.out] at this; omega)⟩
    · go_wp2
      go_ret
      exact ⟨hbel, true, rfl, iff_yes (fun j hj => HA.out j (by omega))⟩

set_option maxHeartbeats 1000000 in
theorem validActions_any (a : Option Addr) (cap : Nat) (is : List T2) (w : World) (hT : Tab w) (hc : RowT w a is) (hl : is.length ≤ 1048576) (hk : ∀ i, i < is.length → (tx is i).code.length ≤ 1048576) (hs : ∀ i j, (ix (tx is i).code j).text.size ≤ maxLen) :
    Calls Tryz.prog 38 #[.slice a is.length cap] w fun e w' => Below w.heap.size w w' ∧ ∃ b : Bool, e = .returned (.bool b) ∧ (b = true ↔ ActsOk is) := by
  have HK : Hid (∀ i, i < is.length → (tx is i).code.length ≤ 1048576) := hk
  have HX : Hid (∀ i j, (ix (tx is i).code j).text.size ≤ maxLen) := hs
  clear hk hs
  go_enter Tryz.func38, Tryz.ntmps38
  go_wp2
  go_loopw [7] (fun i wr => ∃ k : Nat, k ≤ is.length ∧ i = .int .i64 k ∧ Hid (∀ j, j < k → progOk (tx is j).code = true) ∧ Below w.heap.size w wr) (fun i _ => is.length - (intOf i).toNat)
  case atStart => exact ⟨0, Nat.zero_le _, rfl, (fun j hj => by omega : ∀ j, j < 0 → progOk (tx is j).code = true), Below.refl _ _⟩
  case round =>
    obtain ⟨k, hk, rfl, HA, hbel⟩ := hrel
    by_cases hlt : k < is.length
    · obtain ⟨b, off, rfl, c1, x, p, c2, c3⟩ := (hc.below hbel) k hlt
      have hck := HK.out k hlt
      have hxk := HX.out k
      obtain ⟨i, ei⟩ : ∃ i, tx is k = i := ⟨_, rfl⟩
      have EI : Hid (tx is k = i) := ei
      rw [ei] at c1 c2 c3 hck hxk
      clear hc ei
      have hkI : (k : Int) < (is.length : Int) := by omega
      have hba : Below wr.heap.size wr (wr.alloc (.cells #[.string i.name, .slice x i.code.length p] 64)) := (Below.refl _ _).alloc (Nat.le_refl _) _
      have HN : Hid (Calls Tryz.prog 41 #[.agg #[.slice x i.code.length p]] (wr.alloc (.cells #[.string i.name, .slice x i.code.length p] 64)) fun e w' => Below (wr.alloc (.cells #[.string i.name, .slice x i.code.length p] 64)).heap.size (wr.alloc (.cells #[.string i.name, .slice x i.code.length p] 64)) w' ∧ e = .returned (.bool (progOk i.code))) := implValid_any x p i.code _ ((hT.below hbel).below hba) (c3.below hba) hck hxk
      have HB : Hid (Below wr.heap.size wr (wr.alloc (.cells #[.string i.name, .slice x i.code.length p] 64))) := hba
      clear hba hxk c3 hT
      obtain ⟨v, hv⟩ : ∃ v, progOk i.code = v := ⟨_, rfl⟩
      rw [hv] at HN
      have HV : Hid (progOk i.code = v) := hv
      clear hv
      cases v
      · go_wp2_with (go_at_call 41; refine HN.out.mono ?_; rintro e w1 ⟨hb1, rfl⟩)
        go_ret
        exact ⟨bt (bt hbel HB.out) hb1, false, rfl, iff_no (fun h => by have := h k hlt; rw [EI.out, HV.out] at this; cases this)⟩
      · go_wp2_with (go_at_call 41; refine HN.out.mono ?_; rintro e w1 ⟨hb1, rfl⟩)
        go_roundw
        case rel => exact ⟨k + 1, by omega, by go_num, ext_succ HA.out (by rw [EI.out]; exact HV.out), bt (bt hbel HB.out) hb1⟩
        case measure => simp [intOf]; omega
    · go_wp2
      go_ret
      exact ⟨hbel, true, rfl, iff_yes (fun j hj => HA.out j (by omega))⟩

end Go.Proofs.YtjdjhenijihpfaaGreatDoor
