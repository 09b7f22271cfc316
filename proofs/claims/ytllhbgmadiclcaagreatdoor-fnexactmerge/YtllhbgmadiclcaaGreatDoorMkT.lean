import Derived.Test.YtllhbgmadiclcaaGreatDoorStSp
import Derived.Test.YtllhbgmadiclcaaGreatDoorStLaw
import Derived.BigQuiet
import Derived.Test.YtllhbgmadiclcaaGreatDoorGRec
namespace Go.Proofs.YtllhbgmadiclcaaGreatDoor
open Go.RowKit
set_option linter.unusedVariables false

def Has (l : List ByteArray) (n : ByteArray) : Prop := ∃ j, j < l.length ∧ nx l j = n
theorem lo_step {l : List ByteArray} {t : ByteArray} {m : Nat} (h : Asc l) (hm : m < l.length) (hv : lessB (nx l m) t = true) : ∀ j, j < m + 1 → lessB (nx l j) t = true := by
  intro j hj
  rcases Nat.lt_or_ge j m with h1 | h1
  · exact lessB_trans (h.pair h1 hm) hv
  · obtain rfl : j = m := by omega
    exact hv
theorem hi_step {l : List ByteArray} {t : ByteArray} {m : Nat} (h : Asc l) (hv : lessB (nx l m) t = false) : ∀ j, m ≤ j → j < l.length → lessB (nx l j) t = false := by
  intro j hj hl
  rcases Nat.lt_or_ge m j with h1 | h1
  · rw [Bool.eq_false_iff]
    intro h2
    have := lessB_trans (h.pair h1 hl) h2
    rw [hv] at this; cases this
  · obtain rfl : j = m := by omega
    exact hv
theorem has_at {l : List ByteArray} {t : ByteArray} {i : Nat} (h : Asc l) (h1 : ∀ j, j < i → lessB (nx l j) t = true) (h2 : ∀ j, i ≤ j → j < l.length → lessB (nx l j) t = false) (k : Has l t) : i < l.length ∧ nx l i = t := by
  obtain ⟨j, hj, e⟩ := k
  rcases Nat.lt_trichotomy j i with hji | hji | hji
  · have := h1 j hji
    rw [e, lessB_irrefl] at this; cases this
  · subst hji; exact ⟨hj, e⟩
  · have := h.pair hji hj
    rw [e, h2 i (Nat.le_refl _) (by omega)] at this; cases this


theorem cmpLess_any (s t : ByteArray) (w : World) : Calls Tryz.prog 70 #[.string s, .string t] w fun e w' => e = .returned (.bool (lessB s t)) ∧ w = w' := by
  unfold lessB
  have e1 := str_eq (rfl : s = s)
  go_enter Tryz.func70, Tryz.ntmps70
  go_wp2
  go_ret
  exact ⟨rfl, rfl⟩
set_option maxHeartbeats 2000000 in
theorem binarySearch_any (a : Option Addr) (cap : Nat) (l : List ByteArray) (t : ByteArray) (w : World) (hc0 : Strs w a l) (hl : l.length ≤ 1048576) (hasc : Asc l) :
    Calls Tryz.prog 44 #[.slice a l.length cap, .string t] w fun e w' => w = w' ∧ ∃ (r : Nat) (b : Bool), e = .returned (.tuple #[.int .i64 r, .bool b]) ∧ ((b = true ∧ r < l.length ∧ nx l r = t) ∨ (b = false ∧ ¬ Has l t)) := by
  have HASC : Hid (Asc l) := hasc
  have hc : ∀ i, i < l.length → ∃ b off, a = some ⟨b, off, none⟩ ∧ w.cell? ⟨b, off + i, none⟩ = some (.string (nx l i)) := fun i hi => hc0 i hi
  clear hasc hc0
  go_enter Tryz.func44, Tryz.ntmps44
  go_wp2
  go_loopw [7, 8] (fun i j wr => ∃ lo hi : Nat, i = .int .i64 lo ∧ j = .int .i64 hi ∧ lo ≤ hi ∧ hi ≤ l.length ∧ Hid (∀ j, j < lo → lessB (nx l j) t = true) ∧ Hid (∀ j, hi ≤ j → j < l.length → lessB (nx l j) t = false) ∧ w = wr) (fun i j _ => (intOf j).toNat - (intOf i).toNat)
  case atStart => exact ⟨0, l.length, rfl, rfl, Nat.zero_le _, Nat.le_refl _, (fun j hj => by omega : ∀ j, j < 0 → lessB (nx l j) t = true), (fun j h1 h2 => by omega : ∀ j, l.length ≤ j → j < l.length → lessB (nx l j) t = false), rfl⟩
  case round =>
    obtain ⟨lo, hi, rfl, rfl, h1, h2, HL, HH, rfl⟩ := hrel
    by_cases hlt : lo < hi
    · obtain ⟨m, e1, hm1, hm2⟩ : ∃ m : Nat, ((lo : Int) + (hi : Int)) / 2 = (m : Int) ∧ lo ≤ m ∧ m < hi := ⟨(lo + hi) / 2, by omega, by omega, by omega⟩
      obtain ⟨b, off, rfl, c1⟩ := hc m (by omega)
      obtain ⟨v, hv⟩ : ∃ v, lessB (nx l m) t = v := ⟨_, rfl⟩
      have HV : Hid (lessB (nx l m) t = v) := hv
      have HN : Hid (∀ W : World, Calls Tryz.prog 70 #[.string (nx l m), .string t] W fun e w' => e = .returned (.bool v) ∧ W = w') := fun W => by rw [← hv]; exact cmpLess_any _ _ W
      clear hc hv
      generalize nx l m = s at c1 HN
      have hmI : (m : Int) < (l.length : Int) := by omega
      cases v
      · go_wp2_with (go_at_call 70; refine (HN.out _).mono ?_; rintro e w' ⟨rfl, rfl⟩)
        go_roundw
        case rel => exact ⟨lo, m, rfl, rfl, hm1, by omega, HL.out, hi_step HASC.out HV.out, trivial⟩
        case measure => simp [intOf]; omega
      · go_wp2_with (go_at_call 70; refine (HN.out _).mono ?_; rintro e w' ⟨rfl, rfl⟩)
        go_roundw
        case rel => exact ⟨m + 1, hi, by go_num, rfl, by omega, by omega, lo_step HASC.out (by omega) HV.out, HH.out, trivial⟩
        case measure => simp [intOf]; omega
    · obtain rfl : lo = hi := by omega
      by_cases hll : lo < l.length
      · obtain ⟨b, off, rfl, c1⟩ := hc lo hll
        have hlI : (lo : Int) < (l.length : Int) := by omega
        by_cases he : nx l lo = t
        · have heq := str_eq he
          have HE : Hid (nx l lo = t) := he
          clear hc he
          generalize nx l lo = s at c1 heq
          go_wp2
          go_ret2
          exact ⟨rfl, lo, true, rfl, Or.inl ⟨rfl, hll, HE.out⟩⟩
        · have heq := str_ne he
          have HE : Hid (nx l lo ≠ t) := he
          clear hc he
          have hss := str_eq (rfl : nx l lo = nx l lo)
          generalize nx l lo = s at c1 heq hss
          go_wp2
          go_ret2
          exact ⟨rfl, lo, false, rfl, Or.inr ⟨rfl, fun h => HE.out (has_at HASC.out HL.out HH.out h).2⟩⟩
      · have hlI : ¬ (lo : Int) < (l.length : Int) := by omega
        have HLL : Hid (¬ lo < l.length) := hll
        go_wp2
        go_ret2
        exact ⟨rfl, lo, Or.inl ⟨rfl, fun h => HLL.out (has_at HASC.out HL.out HH.out h).1⟩⟩

/-- What GetText answers. -/
def GetOut (n : Nat) (ts : List ByteArray) (t A : ByteArray) (ok : Bool) : Prop := (ok = true ∧ ∃ i, i < ts.length ∧ sumB n (nx ts i) = t ∧ A = nx ts i) ∨ (ok = false ∧ A = ⟨#[]⟩ ∧ ¬ Has (ts.map (sumB n)) t)
theorem has_sums {n : Nat} {ts : List ByteArray} {t : ByteArray} {i : Nat} (h : i < ts.length) (e : sumB n (nx ts i) = t) : Has (ts.map (sumB n)) t := ⟨i, by rw [List.length_map]; exact h, by rw [nx_sums n ts i h]; exact e⟩
theorem GetOut.unique {n : Nat} {ts : List ByteArray} {t A A' : ByteArray} {ok ok' : Bool} (ha : Asc (ts.map (sumB n))) (h : GetOut n ts t A ok) (h' : GetOut n ts t A' ok') : A' = A ∧ ok' = ok := by
  rcases h with ⟨rfl, i, h1, h2, rfl⟩ | ⟨rfl, rfl, h1⟩ <;> rcases h' with ⟨rfl, j, k1, k2, rfl⟩ | ⟨rfl, rfl, k1⟩
  · have : i = j := by
      have hs : ∀ i, i < ts.length → nx (ts.map (sumB n)) i = sumB n (nx ts i) := fun i h => nx_sums n ts i h
      rcases Nat.lt_trichotomy i j with hij | hij | hij
      · have := ha.pair hij (by rw [List.length_map]; exact k1)
        rw [hs i h1, hs j k1, h2, k2, lessB_irrefl] at this; cases this
      · exact hij
      · have := ha.pair hij (by rw [List.length_map]; exact h1)
        rw [hs i h1, hs j k1, h2, k2, lessB_irrefl] at this; cases this
    subst this
    exact ⟨rfl, rfl⟩
  · exact absurd (has_sums h1 h2) k1
  · exact absurd (has_sums k1 k2) h1
  · exact ⟨rfl, rfl⟩

end Go.Proofs.YtllhbgmadiclcaaGreatDoor
namespace Go.Proofs.YtllhbgmadiclcaaGreatDoor
open Go.RowKit
set_option linter.unusedVariables false

theorem place_has {n : Nat} {ts : List ByteArray} {t : ByteArray} {k : Nat} (ha : Asc (ts.map (sumB n))) (h1 : ∀ j, j < k → lessB (sumB n (nx ts j)) t = true) (h2 : k < ts.length → lessB (sumB n (nx ts k)) t = false) (hk : k ≤ ts.length) (hh : Has (ts.map (sumB n)) t) : k < ts.length ∧ sumB n (nx ts k) = t := by
  have hs : ∀ i, i < ts.length → nx (ts.map (sumB n)) i = sumB n (nx ts i) := fun i h => nx_sums n ts i h
  have hl : (ts.map (sumB n)).length = ts.length := List.length_map _
  have := has_at (i := k) ha (fun j hj => by rw [hs j (by omega)]; exact h1 j hj) (fun j hj hjl => by
    have hk' : k < ts.length := by omega
    exact hi_step ha (m := k) (by rw [hs k hk']; exact h2 hk') j hj hjl) hh
  exact ⟨by omega, by rw [← hs k (by omega)]; exact this.2⟩

end Go.Proofs.YtllhbgmadiclcaaGreatDoor
namespace Go.Proofs.YtllhbgmadiclcaaGreatDoor
open Go.RowKit
set_option linter.unusedVariables false

/-- The place of a sum among those of the texts. -/
structure PlT (n : Nat) (ts : List ByteArray) (t : ByteArray) (r : Nat) : Prop where
  le : r ≤ ts.length
  lo : ∀ j, j < r → lessB (sumB n (nx ts j)) t = true
  hi : r < ts.length → lessB (sumB n (nx ts r)) t = false
theorem PlT.unique {n : Nat} {ts : List ByteArray} {t : ByteArray} {r r' : Nat} (h : PlT n ts t r) (h' : PlT n ts t r') : r = r' := by
  rcases Nat.lt_trichotomy r r' with k | k | k
  · have h1 := h.hi (by have := h'.le; omega)
    rw [h'.lo r k] at h1; cases h1
  · exact k
  · have h1 := h'.hi (by have := h.le; omega)
    rw [h.lo r' k] at h1; cases h1

set_option maxHeartbeats 2000000 in
theorem binarySearch_at (a : Option Addr) (cap : Nat) (l : List ByteArray) (t : ByteArray) (w : World) (hc0 : Strs w a l) (hl : l.length ≤ 1048576) (hasc : Asc l) :
    Calls Tryz.prog 44 #[.slice a l.length cap, .string t] w fun e w' => w = w' ∧ ∃ (r : Nat) (b : Bool), e = .returned (.tuple #[.int .i64 r, .bool b]) ∧ r ≤ l.length ∧ (∀ j, j < r → lessB (nx l j) t = true) ∧ (∀ j, r ≤ j → j < l.length → lessB (nx l j) t = false) ∧ ((b = true ∧ r < l.length ∧ nx l r = t) ∨ (b = false ∧ ¬ (r < l.length ∧ nx l r = t))) := by
  have HASC : Hid (Asc l) := hasc
  have hc : ∀ i, i < l.length → ∃ b off, a = some ⟨b, off, none⟩ ∧ w.cell? ⟨b, off + i, none⟩ = some (.string (nx l i)) := fun i hi => hc0 i hi
  clear hasc hc0
  go_enter Tryz.func44, Tryz.ntmps44
  go_wp2
  go_loopw [7, 8] (fun i j wr => ∃ lo hi : Nat, i = .int .i64 lo ∧ j = .int .i64 hi ∧ lo ≤ hi ∧ hi ≤ l.length ∧ Hid (∀ j, j < lo → lessB (nx l j) t = true) ∧ Hid (∀ j, hi ≤ j → j < l.length → lessB (nx l j) t = false) ∧ w = wr) (fun i j _ => (intOf j).toNat - (intOf i).toNat)
  case atStart => exact ⟨0, l.length, rfl, rfl, Nat.zero_le _, Nat.le_refl _, (fun j hj => by omega : ∀ j, j < 0 → lessB (nx l j) t = true), (fun j h1 h2 => by omega : ∀ j, l.length ≤ j → j < l.length → lessB (nx l j) t = false), rfl⟩
  case round =>
    obtain ⟨lo, hi, rfl, rfl, h1, h2, HL, HH, rfl⟩ := hrel
    by_cases hlt : lo < hi
    · obtain ⟨m, e1, hm1, hm2⟩ : ∃ m : Nat, ((lo : Int) + (hi : Int)) / 2 = (m : Int) ∧ lo ≤ m ∧ m < hi := ⟨(lo + hi) / 2, by omega, by omega, by omega⟩
      obtain ⟨b, off, rfl, c1⟩ := hc m (by omega)
      obtain ⟨v, hv⟩ : ∃ v, lessB (nx l m) t = v := ⟨_, rfl⟩
      have HV : Hid (lessB (nx l m) t = v) := hv
      have HN : Hid (∀ W : World, Calls Tryz.prog 70 #[.string (nx l m), .string t] W fun e w' => e = .returned (.bool v) ∧ W = w') := fun W => by rw [← hv]; exact cmpLess_any _ _ W
      clear hc hv
      generalize nx l m = s at c1 HN
      have hmI : (m : Int) < (l.length : Int) := by omega
      cases v
      · go_wp2_with (go_at_call 70; refine (HN.out _).mono ?_; rintro e w' ⟨rfl, rfl⟩)
        go_roundw
        case rel => exact ⟨lo, m, rfl, rfl, hm1, by omega, HL.out, hi_step HASC.out HV.out, trivial⟩
        case measure => simp [intOf]; omega
      · go_wp2_with (go_at_call 70; refine (HN.out _).mono ?_; rintro e w' ⟨rfl, rfl⟩)
        go_roundw
        case rel => exact ⟨m + 1, hi, by go_num, rfl, by omega, by omega, lo_step HASC.out (by omega) HV.out, HH.out, trivial⟩
        case measure => simp [intOf]; omega
    · obtain rfl : lo = hi := by omega
      by_cases hll : lo < l.length
      · obtain ⟨b, off, rfl, c1⟩ := hc lo hll
        have hlI : (lo : Int) < (l.length : Int) := by omega
        by_cases he : nx l lo = t
        · have heq := str_eq he
          have HE : Hid (nx l lo = t) := he
          clear hc he
          generalize nx l lo = s at c1 heq
          go_wp2
          go_ret2
          exact ⟨rfl, lo, true, rfl, h2, HL.out, HH.out, Or.inl ⟨rfl, hll, HE.out⟩⟩
        · have heq := str_ne he
          have HE : Hid (nx l lo ≠ t) := he
          clear hc he
          have hss := str_eq (rfl : nx l lo = nx l lo)
          generalize nx l lo = s at c1 heq hss
          go_wp2
          go_ret2
          exact ⟨rfl, lo, false, rfl, h2, HL.out, HH.out, Or.inr ⟨rfl, fun h => HE.out h.2⟩⟩
      · have hlI : ¬ (lo : Int) < (l.length : Int) := by omega
        have HLL : Hid (¬ lo < l.length) := hll
        go_wp2
        go_ret2
        exact ⟨rfl, lo, Or.inl ⟨rfl, h2, HL.out, HH.out, fun h => absurd h HLL.out⟩⟩

end Go.Proofs.YtllhbgmadiclcaaGreatDoor
namespace Go.Proofs.YtllhbgmadiclcaaGreatDoor
open Go.RowKit
set_option linter.unusedVariables false

def digM (n : Nat) : ByteArray := ⟨#[UInt8.ofNat (48 + n)]⟩
theorem dig_byteM (d : Nat) (h : d < 10) : ((UInt8.ofNat (48 + d)).toNat : Int) = 48 + d := by rw [UInt8.toNat_ofNat']; omega
theorem conv_oneM (W : World) (g : Nat) (c : Int) (u : UInt8) (hu : (u.toNat : Int) = c) (h : W.cell? ⟨g, 0, none⟩ = some (.int .u8 c)) : (convert 87 9 (.slice (some ⟨g, 0, none⟩) 1 1)).run Tryz.prog W = .ok (.string ⟨#[u]⟩) W := by
  subst hu
  exact run_convert_bytes_back (P := Tryz.prog) W 87 9 5 ⟨g, 0, none⟩ 1 [u] Tryz.underlying87 Tryz.underlying5 Tryz.underlying9 (fun t ht => by
    obtain rfl : t = 0 := by simp at ht; omega
    simpa [Addr.add] using h)


/-- The decimal of k ahead of a text. -/
def mtL : Nat → Nat → ByteArray → ByteArray
  | 0, _, out => out
  | f + 1, k, out => if k = 0 then out else mtL f (k / 10) (digM (k % 10) ++ out)
theorem mtL_zero (f : Nat) (out : ByteArray) : mtL f 0 out = out := by cases f <;> simp [mtL]
def mt (k : Nat) : ByteArray := ⟨#[109]⟩ ++ mtL 16 k ⟨#[]⟩

set_option maxRecDepth 100000 in
set_option maxHeartbeats 1000000 in
theorem markText_any (K : Nat) (w : World) (h1 : 1 ≤ K) (h2 : K < 1000000000000000) :
    Calls Tryz.prog 52 #[.int .i64 K] w fun e w' => Below w.heap.size w w' ∧ e = .returned (.string (mt K)) := by
  go_enter Tryz.func52, Tryz.ntmps52
  go_wp2
  go_loopw [0, 3] (fun a v wr => ∃ (f k : Nat) (out : ByteArray), a = .int .i64 k ∧ v = .string out ∧ Hid (mtL f k out = mtL 16 K ⟨#[]⟩) ∧ k < 10 ^ f ∧ f ≤ 16 ∧ out.size + f = 16 ∧ Below w.heap.size w wr) (fun a _ _ => (intOf a).toNat)
  case atStart => exact ⟨16, K, ⟨#[]⟩, rfl, rfl, rfl, by omega, by omega, rfl, Below.refl _ _⟩
  case round =>
    obtain ⟨f, k, out, rfl, rfl, HM, hk, hf, ho, hbr⟩ := hrel
    by_cases h0 : k = 0
    · subst h0
      have HO : Hid (mt K = (⟨#[109]⟩ : ByteArray) ++ out) := by
        show mt K = _
        unfold mt
        rw [← HM.out, mtL_zero]
      have hs : ((⟨#[109]⟩ : ByteArray) ++ out).size = 1 + out.size := ByteArray.size_append
      go_wp2
      go_ret
      exact ⟨hbr, by rw [HO.out]; rfl⟩
    · obtain ⟨g, rfl⟩ : ∃ g, f = g + 1 := by
        cases f with
        | zero => simp at hk; omega
        | succ g => exact ⟨g, rfl⟩
      have hk' : k / 10 < 10 ^ g := by rw [Nat.pow_succ] at hk; omega
      obtain ⟨d, ed⟩ : ∃ d, k % 10 = d := ⟨_, rfl⟩
      have hd : d < 10 := by omega
      have HM2 : Hid (mtL g (k / 10) (digM d ++ out) = mtL 16 K ⟨#[]⟩) := by
        show mtL g (k / 10) (digM d ++ out) = _
        rw [← HM.out, ← ed]
        simp only [mtL, h0, if_false]
      have hu := dig_byteM d hd
      have hs : (digM d ++ out).size = 1 + out.size := ByteArray.size_append
      unfold digM at HM2 hs
      generalize UInt8.ofNat (48 + d) = u at *
      have e1 : (k : Int) % 10 = (d : Int) := by omega
      obtain ⟨k2, e2⟩ : ∃ k2, k / 10 = k2 := ⟨_, rfl⟩
      rw [e2] at HM2 hk'
      have e3 : (k : Int) / 10 = (k2 : Int) := by omega
      have hlt : k2 < k := by omega
      have hkI : (0 : Int) < (k : Int) := by omega
      have hcv := conv_oneM (wr.alloc (.cells #[.int .u8 (48 + d)] 5)) wr.heap.size (48 + d) u hu (by simp [go_sem])
      have hkb : k < 10000000000000000 := Nat.lt_of_lt_of_le hk (Nat.pow_le_pow_right (by omega) hf)
      have HK' : Hid (k2 < 10 ^ g) := hk'
      clear hu ed e2 hk hk' h0
      go_wp2
      go_roundw
      case rel => exact ⟨g, k2, _, by go_num, rfl, HM2.out, HK'.out, by omega, by rw [hs]; omega, hbr.alloc hbr.size _⟩
      case measure => simp [intOf]; omega

end Go.Proofs.YtllhbgmadiclcaaGreatDoor
