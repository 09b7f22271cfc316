/-
  GetText: impl's search.
-/
import Derived.Test.YtmpgajfccaoboacDoorStSp
import Derived.Test.YtmpgajfccaoboacDoorCmp
namespace Go.Proofs.YtmpgajfccaoboacDoor
open Go.RowKit
set_option linter.unusedVariables false

def Has (l : List ByteArray) (n : ByteArray) : Prop := ∃ j, j < l.length ∧ nx l j = n
theorem lo_step {l : List ByteArray} {t : ByteArray} {m : Nat} (h : Asc l) (hm : m < l.length) (hv : lessB (nx l m) t = true) : ∀ j, j < m + 1 → lessB (nx l j) t = true := by
  intro j hj
  rcases Nat.lt_or_ge j m with h1 | h1
  · exact lessB_trans (h.pair h1 hm) hv
  · obtain rfl : j = m := by omega
    exact hv
theorem hi_step {l : List ByteArray} {t : ByteArray} {m : Nat} (h : Asc l) (hv : lessB (nx l m) t = false) : ∀ j, m ≤ j → j < l.length → lessB (nx l j) t = false := by
  intro j hj hl
  rcases Nat.lt_or_ge m j with h1 | h1
  · rw [Bool.eq_false_iff]
    intro h2
    have := lessB_trans (h.pair h1 hl) h2
    rw [hv] at this; cases this
  · obtain rfl : j = m := by omega
    exact hv
theorem has_at {l : List ByteArray} {t : ByteArray} {i : Nat} (h : Asc l) (h1 : ∀ j, j < i → lessB (nx l j) t = true) (h2 : ∀ j, i ≤ j → j < l.length → lessB (nx l j) t = false) (k : Has l t) : i < l.length ∧ nx l i = t := by
  obtain ⟨j, hj, e⟩ := k
  rcases Nat.lt_trichotomy j i with hji | hji | hji
  · have := h1 j hji
    rw [e, lessB_irrefl] at this; cases this
  · subst hji; exact ⟨hj, e⟩
  · have := h.pair hji hj
    rw [e, h2 i (Nat.le_refl _) (by omega)] at this; cases this


theorem cmp_lt : ∀ (a b : List UInt8), Lib.compareBytes a b < 0 ↔ Op.bytesLess a b = true
  | [], [] => by simp [Lib.compareBytes, Op.bytesLess]
  | [], _ :: _ => by simp [Lib.compareBytes, Op.bytesLess]
  | _ :: _, [] => by simp [Lib.compareBytes, Op.bytesLess]
  | a :: ar, b :: bs => by
    have ih := cmp_lt ar bs
    by_cases h1 : a < b
    · simp [Lib.compareBytes, Op.bytesLess, h1]
    · by_cases h2 : b < a
      · have hne : ¬ a = b := by intro e; subst e; exact absurd h2 (by simp)
        simp [Lib.compareBytes, Op.bytesLess, h1, h2, hne]
      · have he : a = b := UInt8.le_antisymm (UInt8.not_lt.mp h2) (UInt8.not_lt.mp h1)
        subst he
        simp [Lib.compareBytes, Op.bytesLess, ih]
theorem cmp_zero : ∀ (a b : List UInt8), Lib.compareBytes a b = 0 ↔ a = b
  | [], [] => by simp [Lib.compareBytes]
  | [], _ :: _ => by simp [Lib.compareBytes]
  | _ :: _, [] => by simp [Lib.compareBytes]
  | a :: ar, b :: bs => by
    have ih := cmp_zero ar bs
    by_cases h1 : a < b
    · have hne : ¬ a = b := by intro e; subst e; exact absurd h1 (by simp)
      simp [Lib.compareBytes, h1, hne]
    · by_cases h2 : b < a
      · have hne : ¬ a = b := by intro e; subst e; exact absurd h2 (by simp)
        simp [Lib.compareBytes, h1, h2, hne]
      · have he : a = b := UInt8.le_antisymm (UInt8.not_lt.mp h2) (UInt8.not_lt.mp h1)
        subst he
        simp [Lib.compareBytes, ih]
def cmpB (a b : ByteArray) : Int := Lib.compareBytes a.data.toList b.data.toList
theorem cmpB_lt {a b : ByteArray} {v : Bool} (h : lessB a b = v) : decide (cmpB a b < 0) = v := by
  unfold lessB at h
  rw [ByteArray.toList_eq, ByteArray.toList_eq] at h
  unfold cmpB
  cases v
  · rw [decide_eq_false_iff_not, cmp_lt, h]; simp
  · rw [decide_eq_true_eq, cmp_lt]; exact h
theorem cmpB_zero (a b : ByteArray) : cmpB a b = 0 ↔ a = b := by
  unfold cmpB
  rw [cmp_zero]
  exact ⟨fun h => WideShapes.bytes_inj h, fun h => by rw [h]⟩

set_option maxHeartbeats 400000 in
theorem cmpText_any (x t : ByteArray) (g n : Nat) (w : World) (hx : x.size ≤ 1048576) (h1 : 1 ≤ n) (h8 : n ≤ 8) (hc : w.cell? ⟨g, 0, none⟩ = some (.int .i64 n)) :
    Calls Tryd.prog 122 #[.string x, .string t, .pointer (some ⟨g, 0, none⟩)] w fun e w' => Below w.heap.size w w' ∧ e = .returned (.int .i64 (cmpB (sumB n x) t)) := by
  go_enter Tryd.func122, Tryd.ntmps122
  go_wp2_with fail
  refine (implSum_yes x n _ hx h1 h8).mono ?_
  rintro e w1 ⟨rfl, hb1⟩
  go_wp2_with fail
  refine (Tryd.strings_Compare _ t _).mono ?_
  rintro e w2 ⟨rfl, rfl⟩
  go_wp2
  go_ret
  exact ⟨hb1, rfl⟩

set_option maxRecDepth 100000 in
set_option maxHeartbeats 2000000 in
theorem search_any (a : Option Addr) (cap g n : Nat) (ts : List ByteArray) (t : ByteArray) (w : World) (hc : Strs w a ts) (hl : ts.length ≤ 1048576) (hs : ∀ i, i < ts.length → (nx ts i).size ≤ 2002) (h1 : 1 ≤ n) (h8 : n ≤ 8) (hx : w.cell? ⟨g, 0, none⟩ = some (.int .i64 n)) (hasc : Asc (ts.map (sumB n))) :
    Calls Tryd.prog 121 #[.slice a ts.length cap, .string t, .func (.func 122) #[] #[.pointer (some ⟨g, 0, none⟩)]] w fun e w' => Below w.heap.size w w' ∧ ∃ (r : Nat) (b : Bool), e = .returned (.tuple #[.int .i64 r, .bool b]) ∧ ((b = true ∧ r < ts.length ∧ sumB n (nx ts r) = t) ∨ (b = false ∧ ¬ Has (ts.map (sumB n)) t)) := by
  obtain ⟨l, el⟩ : ∃ l, ts.map (sumB n) = l := ⟨_, rfl⟩
  rw [el] at hasc ⊢
  have HLL : Hid (l.length = ts.length) := by show l.length = ts.length; rw [← el, List.length_map]
  have HNX : Hid (∀ i, i < ts.length → nx l i = sumB n (nx ts i)) := fun i h => by rw [← el]; exact nx_sums n ts i h
  have HASC : Hid (Asc l) := hasc
  have HC : Hid (Strs w a ts) := hc
  have HS : Hid (∀ i, i < ts.length → (nx ts i).size ≤ 2002) := hs
  have HX : Hid (w.cell? ⟨g, 0, none⟩ = some (.int .i64 n)) := hx
  clear hasc el hc hs hx
  go_enter Tryd.func121, Tryd.ntmps121
  go_wp2
  go_loopw [9, 10] (fun i j wr => ∃ lo hi : Nat, i = .int .i64 lo ∧ j = .int .i64 hi ∧ lo ≤ hi ∧ hi ≤ ts.length ∧ Hid (∀ j, j < lo → lessB (nx l j) t = true) ∧ Hid (∀ j, hi ≤ j → j < l.length → lessB (nx l j) t = false) ∧ Below w.heap.size w wr) (fun i j _ => (intOf j).toNat - (intOf i).toNat)
  case atStart => exact ⟨0, ts.length, rfl, rfl, Nat.zero_le _, Nat.le_refl _, (fun j hj => by omega : ∀ j, j < 0 → lessB (nx l j) t = true), (fun j h1 h2 => by have := HLL.out; omega : ∀ j, ts.length ≤ j → j < l.length → lessB (nx l j) t = false), Below.refl _ _⟩
  case round =>
    obtain ⟨lo, hi, rfl, rfl, g1, g2, HL, HH, hbr⟩ := hrel
    have hxr := cell_below hbr HX.out
    by_cases hlt : lo < hi
    · obtain ⟨m, e1, hm1, hm2⟩ : ∃ m : Nat, ((lo : Int) + (hi : Int)) / 2 = (m : Int) ∧ lo ≤ m ∧ m < hi := ⟨(lo + hi) / 2, by omega, by omega, by omega⟩
      obtain ⟨b, off, rfl, c1⟩ := (HC.out.below hbr) m (by omega)
      replace c1 : wr.cell? ⟨b, off + m, none⟩ = some (.string (nx ts m)) := c1
      have hsm := HS.out m (by omega)
      obtain ⟨v, hv⟩ : ∃ v, lessB (nx l m) t = v := ⟨_, rfl⟩
      have HV : Hid (lessB (nx l m) t = v) := hv
      have dv : decide (cmpB (sumB n (nx ts m)) t < 0) = v := by rw [← HNX.out m (by omega)]; exact cmpB_lt hv
      clear hv
      generalize nx ts m = s at c1 hsm dv
      obtain ⟨q, eq⟩ : ∃ q, cmpB (sumB n s) t = q := ⟨_, rfl⟩
      rw [eq] at dv
      have HN : Hid (∀ W : World, W.cell? ⟨g, 0, none⟩ = some (.int .i64 n) → Calls Tryd.prog 122 #[.string s, .string t, .pointer (some ⟨g, 0, none⟩)] W fun e w' => Below W.heap.size W w' ∧ e = .returned (.int .i64 q)) := fun W hW => by rw [← eq]; exact cmpText_any s t g n W (by omega) h1 h8 hW
      clear eq
      have hmI : (m : Int) < (ts.length : Int) := by omega
      cases v
      · go_wp2_with fail
        refine (HN.out _ hxr).mono ?_
        rintro e w2 ⟨hb2, rfl⟩
        go_wp2_with fail
        go_roundw
        case rel => exact ⟨lo, m, rfl, rfl, hm1, by omega, HL.out, hi_step HASC.out HV.out, bt hbr hb2⟩
        case measure => simp [intOf]; omega
      · go_wp2_with fail
        refine (HN.out _ hxr).mono ?_
        rintro e w2 ⟨hb2, rfl⟩
        go_wp2_with fail
        go_roundw
        case rel => exact ⟨m + 1, hi, by go_num, rfl, by omega, by omega, lo_step HASC.out (by have := HLL.out; omega) HV.out, HH.out, bt hbr hb2⟩
        case measure => simp [intOf]; omega
    · obtain rfl : lo = hi := by omega
      by_cases hll : lo < ts.length
      · obtain ⟨b, off, rfl, c1⟩ := (HC.out.below hbr) lo hll
        replace c1 : wr.cell? ⟨b, off + lo, none⟩ = some (.string (nx ts lo)) := c1
        have hsm := HS.out lo hll
        have hlI : (lo : Int) < (ts.length : Int) := by omega
        have HE0 : Hid (nx l lo = sumB n (nx ts lo)) := HNX.out lo hll
        have HT : Hid (∀ r, sumB n (nx ts lo) = r → sumB n (nx ts lo) = r) := fun r h => h
        by_cases he : sumB n (nx ts lo) = t
        · have HE : Hid (sumB n (nx ts lo) = t) := he
          have dz : (cmpB (sumB n (nx ts lo)) t == 0) = true := by rw [beq_iff_eq, cmpB_zero]; exact he
          clear he
          generalize nx ts lo = s at c1 hsm dz
          obtain ⟨q, eq⟩ : ∃ q, cmpB (sumB n s) t = q := ⟨_, rfl⟩
          rw [eq] at dz
          have HN : Hid (∀ W : World, W.cell? ⟨g, 0, none⟩ = some (.int .i64 n) → Calls Tryd.prog 122 #[.string s, .string t, .pointer (some ⟨g, 0, none⟩)] W fun e w' => Below W.heap.size W w' ∧ e = .returned (.int .i64 q)) := fun W hW => by rw [← eq]; exact cmpText_any s t g n W (by omega) h1 h8 hW
          clear eq
          go_wp2_with fail
          refine (HN.out _ hxr).mono ?_
          rintro e w2 ⟨hb2, rfl⟩
          go_wp2_with fail
          go_ret2
          exact ⟨bt hbr hb2, lo, true, rfl, Or.inl ⟨rfl, hll, HE.out⟩⟩
        · have HE : Hid (¬ Has l t) := fun h => he (by rw [← HE0.out]; exact (has_at HASC.out HL.out HH.out h).2)
          have dz : (cmpB (sumB n (nx ts lo)) t == 0) = false := by rw [beq_eq_false_iff_ne]; exact fun h => he ((cmpB_zero _ _).mp h)
          clear he
          generalize nx ts lo = s at c1 hsm dz
          obtain ⟨q, eq⟩ : ∃ q, cmpB (sumB n s) t = q := ⟨_, rfl⟩
          rw [eq] at dz
          have HN : Hid (∀ W : World, W.cell? ⟨g, 0, none⟩ = some (.int .i64 n) → Calls Tryd.prog 122 #[.string s, .string t, .pointer (some ⟨g, 0, none⟩)] W fun e w' => Below W.heap.size W w' ∧ e = .returned (.int .i64 q)) := fun W hW => by rw [← eq]; exact cmpText_any s t g n W (by omega) h1 h8 hW
          clear eq
          go_wp2_with fail
          refine (HN.out _ hxr).mono ?_
          rintro e w2 ⟨hb2, rfl⟩
          go_wp2_with fail
          go_ret2
          exact ⟨bt hbr hb2, lo, false, rfl, Or.inr ⟨rfl, HE.out⟩⟩
      · have hlI : ¬ (lo : Int) < (ts.length : Int) := by omega
        have HE : Hid (¬ Has l t) := fun h => hll (by have := (has_at HASC.out HL.out HH.out h).1; have := HLL.out; omega)
        clear hll
        go_wp2_with fail
        go_ret2
        exact ⟨hbr, lo, Or.inl ⟨rfl, HE.out⟩⟩

/-- What GetText answers. -/
def GetOut (n : Nat) (ts : List ByteArray) (t A : ByteArray) (ok : Bool) : Prop := (ok = true ∧ ∃ i, i < ts.length ∧ sumB n (nx ts i) = t ∧ A = nx ts i) ∨ (ok = false ∧ A = ⟨#[]⟩ ∧ ¬ Has (ts.map (sumB n)) t)
theorem has_sums {n : Nat} {ts : List ByteArray} {t : ByteArray} {i : Nat} (h : i < ts.length) (e : sumB n (nx ts i) = t) : Has (ts.map (sumB n)) t := ⟨i, by rw [List.length_map]; exact h, by rw [nx_sums n ts i h]; exact e⟩
theorem GetOut.unique {n : Nat} {ts : List ByteArray} {t A A' : ByteArray} {ok ok' : Bool} (ha : Asc (ts.map (sumB n))) (h : GetOut n ts t A ok) (h' : GetOut n ts t A' ok') : A' = A ∧ ok' = ok := by
  rcases h with ⟨rfl, i, h1, h2, rfl⟩ | ⟨rfl, rfl, h1⟩ <;> rcases h' with ⟨rfl, j, k1, k2, rfl⟩ | ⟨rfl, rfl, k1⟩
  · have : i = j := by
      have hs : ∀ i, i < ts.length → nx (ts.map (sumB n)) i = sumB n (nx ts i) := fun i h => nx_sums n ts i h
      rcases Nat.lt_trichotomy i j with hij | hij | hij
      · have := ha.pair hij (by rw [List.length_map]; exact k1)
        rw [hs i h1, hs j k1, h2, k2, lessB_irrefl] at this; cases this
      · exact hij
      · have := ha.pair hij (by rw [List.length_map]; exact h1)
        rw [hs i h1, hs j k1, h2, k2, lessB_irrefl] at this; cases this
    subst this
    exact ⟨rfl, rfl⟩
  · exact absurd (has_sums h1 h2) k1
  · exact absurd (has_sums k1 k2) h1
  · exact ⟨rfl, rfl⟩

set_option maxRecDepth 100000 in
set_option maxHeartbeats 1000000 in
theorem textOf_any (n : Nat) (ta ra : Option Addr) (tc rn rc : Nat) (ts : List ByteArray) (t : ByteArray) (w : World) (h1 : 1 ≤ n) (h8 : n ≤ 8) (hc : Strs w ta ts) (hl : ts.length ≤ 1048576) (hs : ∀ i, i < ts.length → (nx ts i).size ≤ 2002) (hasc : Asc (ts.map (sumB n))) :
    Calls Tryd.prog 73 #[.agg #[.int .i64 n, .slice ta ts.length tc, .slice ra rn rc], .string t] w fun e w' => Below w.heap.size w w' ∧ ∃ A ok, e = .returned (.tuple #[.string A, .bool ok]) ∧ GetOut n ts t A ok := by
  have hb0 : Below w.heap.size w (w.alloc (.cells #[.int .i64 n, .slice ta ts.length tc, .slice ra rn rc] 30)) := (Below.refl _ _).alloc (Nat.le_refl _) _
  have k0 : (w.alloc (.cells #[.int .i64 n, .slice ta ts.length tc, .slice ra rn rc] 30)).cell? ⟨w.heap.size, 0, none⟩ = some (.int .i64 n) := by simp [go_sem]
  have k1 : (w.alloc (.cells #[.int .i64 n, .slice ta ts.length tc, .slice ra rn rc] 30)).cell? ⟨w.heap.size, 1, none⟩ = some (.slice ta ts.length tc) := by simp [go_sem]
  have HC : Hid (Strs w ta ts) := hc
  have HS : Hid (∀ i, i < ts.length → (nx ts i).size ≤ 2002) := hs
  have HA : Hid (Asc (ts.map (sumB n))) := hasc
  clear hc hs hasc
  go_enter Tryd.func73, Tryd.ntmps73
  go_wp2_with fail
  refine (search_any ta tc w.heap.size n ts t _ (HC.out.below hb0) hl HS.out h1 h8 k0 HA.out).mono ?_
  rintro e w2 ⟨hb2, r, b, rfl, hr⟩
  have hB2 := bt hb0 hb2
  have k2 := cell_below hb2 k1
  clear hb2 k1
  rcases hr with ⟨rfl, h3, h4⟩ | ⟨rfl, h3⟩
  · obtain ⟨b, off, rfl, c1⟩ := (HC.out.below hB2) r h3
    replace c1 : w2.cell? ⟨b, off + r, none⟩ = some (.string (nx ts r)) := c1
    have HO : Hid (GetOut n ts t (nx ts r) true) := Or.inl ⟨rfl, r, h3, h4, rfl⟩
    have hrI : (r : Int) < (ts.length : Int) := by omega
    clear h4
    generalize nx ts r = x at c1 HO
    go_wp2_with fail
    go_ret2
    exact ⟨hB2, x, true, rfl, HO.out⟩
  · have HO : Hid (GetOut n ts t ⟨#[]⟩ false) := Or.inr ⟨rfl, rfl, h3⟩
    clear h3
    go_wp2_with fail
    go_ret2
    exact ⟨hB2, ⟨#[]⟩, false, rfl, HO.out⟩

end Go.Proofs.YtmpgajfccaoboacDoor
