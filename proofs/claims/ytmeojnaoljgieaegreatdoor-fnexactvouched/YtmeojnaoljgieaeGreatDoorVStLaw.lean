import Derived.Test.YtmeojnaoljgieaeGreatDoorVStSp
namespace Go.Proofs.YtmeojnaoljgieaeGreatDoor
open Go.RowKit
set_option linter.unusedVariables false
set_option maxHeartbeats 8000000
set_option maxRecDepth 100000
def Has (l : List ByteArray) (n : ByteArray) : Prop := ∃ j, j < l.length /\ nx l j = n
theorem lo_step {l : List ByteArray} {t : ByteArray} {m : Nat} (h : Asc l) (hm : m < l.length) (hv : lessB (nx l m) t = true) : ∀ j, j < m + 1 -> lessB (nx l j) t = true := by
  intro j hj
  rcases Nat.lt_or_ge j m with h1 | h1
  · exact lessB_trans (h.pair h1 hm) hv
  · obtain rfl : j = m := by omega
    exact hv
theorem hi_step {l : List ByteArray} {t : ByteArray} {m : Nat} (h : Asc l) (hv : lessB (nx l m) t = false) : ∀ j, m <= j -> j < l.length -> lessB (nx l j) t = false := by
  intro j hj hl
  rcases Nat.lt_or_ge m j with h1 | h1
  · rw [Bool.eq_false_iff]
    intro h2
    have := lessB_trans (h.pair h1 hl) h2
    rw [hv] at this; cases this
  · obtain rfl : j = m := by omega
    exact hv
theorem has_at {l : List ByteArray} {t : ByteArray} {i : Nat} (h : Asc l) (h1 : ∀ j, j < i -> lessB (nx l j) t = true) (h2 : ∀ j, i <= j -> j < l.length -> lessB (nx l j) t = false) (k : Has l t) : i < l.length /\ nx l i = t := by
  obtain ⟨j, hj, e⟩ := k
  rcases Nat.lt_trichotomy j i with hji | hji | hji
  · have := h1 j hji
    rw [e, lessB_irrefl] at this; cases this
  · subst hji; exact ⟨hj, e⟩
  · have := h.pair hji hj
    rw [e, h2 i (Nat.le_refl _) (by omega)] at this; cases this
theorem cmpLess_any (s t : ByteArray) (w : World) : Calls Tryz.prog 212 #[.string s, .string t] w fun e w' => e = .returned (.bool (lessB s t)) /\ w = w' := by
  unfold lessB
  have e1 := str_eq (rfl : s = s)
  go_enter Tryz.func212, Tryz.ntmps212
  go_wp2
  go_ret
  exact ⟨rfl, rfl⟩
theorem binarySearch_any (a : Option Addr) (cap : Nat) (l : List ByteArray) (t : ByteArray) (w : World) (hc0 : Strs w a l) (hl : l.length <= 1048576) (hasc : Asc l) :
    Calls Tryz.prog 182 #[.slice a l.length cap, .string t] w fun e w' => w = w' /\ ∃ (r : Nat) (b : Bool), e = .returned (.tuple #[.int .i64 r, .bool b]) /\ ((b = true /\ r < l.length /\ nx l r = t) \/ (b = false /\ ¬ Has l t)) := by
  have HASC : Hid (Asc l) := hasc
  have hc : ∀ i, i < l.length -> ∃ b off, a = some ⟨b, off, none⟩ /\ w.cell? ⟨b, off + i, none⟩ = some (.string (nx l i)) := fun i hi => hc0 i hi
  clear hasc hc0
  go_enter Tryz.func182, Tryz.ntmps182
  go_wp2
  go_loopw [7, 8] (fun i j wr => ∃ lo hi : Nat, i = .int .i64 lo /\ j = .int .i64 hi /\ lo <= hi /\ hi <= l.length /\ Hid (∀ j, j < lo -> lessB (nx l j) t = true) /\ Hid (∀ j, hi <= j -> j < l.length -> lessB (nx l j) t = false) /\ w = wr) (fun i j _ => (intOf j).toNat - (intOf i).toNat)
  case atStart => exact ⟨0, l.length, rfl, rfl, Nat.zero_le _, Nat.le_refl _, (fun j hj => by omega : ∀ j, j < 0 -> lessB (nx l j) t = true), (fun j h1 h2 => by omega : ∀ j, l.length <= j -> j < l.length -> lessB (nx l j) t = false), rfl⟩
  case round =>
    obtain ⟨lo, hi, rfl, rfl, h1, h2, HL, HH, rfl⟩ := hrel
    by_cases hlt : lo < hi
    · obtain ⟨m, e1, hm1, hm2⟩ : ∃ m : Nat, ((lo : Int) + (hi : Int)) / 2 = (m : Int) /\ lo <= m /\ m < hi := ⟨(lo + hi) / 2, by omega, by omega, by omega⟩
      obtain ⟨b, off, rfl, c1⟩ := hc m (by omega)
      obtain ⟨v, hv⟩ : ∃ v, lessB (nx l m) t = v := ⟨_, rfl⟩
      have HV : Hid (lessB (nx l m) t = v) := hv
      have HN : Hid (∀ W : World, Calls Tryz.prog 212 #[.string (nx l m), .string t] W fun e w' => e = .returned (.bool v) /\ W = w') := fun W => by rw [<- hv]; exact cmpLess_any _ _ W
      clear hc hv
      generalize nx l m = s at c1 HN
      have hmI : (m : Int) < (l.length : Int) := by omega
      cases v
      · go_wp2_with (go_at_call 212; refine (HN.out _).mono ?_; rintro e w' ⟨rfl, rfl⟩)
        go_roundw
        case rel => exact ⟨lo, m, rfl, rfl, hm1, by omega, HL.out, hi_step HASC.out HV.out, trivial⟩
        case measure => simp [intOf]; omega
      · go_wp2_with (go_at_call 212; refine (HN.out _).mono ?_; rintro e w' ⟨rfl, rfl⟩)
        go_roundw
        case rel => exact ⟨m + 1, hi, by go_num, rfl, by omega, by omega, lo_step HASC.out (by omega) HV.out, HH.out, trivial⟩
        case measure => simp [intOf]; omega
    · obtain rfl : lo = hi := by omega
      by_cases hll : lo < l.length
      · obtain ⟨b, off, rfl, c1⟩ := hc lo hll
        have hlI : (lo : Int) < (l.length : Int) := by omega
        by_cases he : nx l lo = t
        · have heq := str_eq he
          have HE : Hid (nx l lo = t) := he
          clear hc he
          generalize nx l lo = s at c1 heq
          go_wp2
          go_ret2
          exact ⟨rfl, lo, true, rfl, Or.inl ⟨rfl, hll, HE.out⟩⟩
        · have heq := str_ne he
          have HE : Hid (nx l lo ≠ t) := he
          clear hc he
          have hss := str_eq (rfl : nx l lo = nx l lo)
          generalize nx l lo = s at c1 heq hss
          go_wp2
          go_ret2
          exact ⟨rfl, lo, false, rfl, Or.inr ⟨rfl, fun h => HE.out (has_at HASC.out HL.out HH.out h).2⟩⟩
      · have hlI : ¬ (lo : Int) < (l.length : Int) := by omega
        have HLL : Hid (¬ lo < l.length) := hll
        go_wp2
        go_ret2
        exact ⟨rfl, lo, Or.inl ⟨rfl, fun h => HLL.out (has_at HASC.out HL.out HH.out h).1⟩⟩
/-- What GetText answers. -/
def GetOut (n : Nat) (ts : List ByteArray) (t A : ByteArray) (ok : Bool) : Prop := (ok = true /\ ∃ i, i < ts.length /\ sumB n (nx ts i) = t /\ A = nx ts i) \/ (ok = false /\ A = ⟨#[]⟩ /\ ¬ Has (ts.map (sumB n)) t)
theorem has_sums {n : Nat} {ts : List ByteArray} {t : ByteArray} {i : Nat} (h : i < ts.length) (e : sumB n (nx ts i) = t) : Has (ts.map (sumB n)) t := ⟨i, by rw [List.length_map]; exact h, by rw [nx_sums n ts i h]; exact e⟩
theorem GetOut.unique {n : Nat} {ts : List ByteArray} {t A A' : ByteArray} {ok ok' : Bool} (ha : Asc (ts.map (sumB n))) (h : GetOut n ts t A ok) (h' : GetOut n ts t A' ok') : A' = A /\ ok' = ok := by
  rcases h with ⟨rfl, i, h1, h2, rfl⟩ | ⟨rfl, rfl, h1⟩ <;> rcases h' with ⟨rfl, j, k1, k2, rfl⟩ | ⟨rfl, rfl, k1⟩
  · have : i = j := by
      have hs : ∀ i, i < ts.length -> nx (ts.map (sumB n)) i = sumB n (nx ts i) := fun i h => nx_sums n ts i h
      rcases Nat.lt_trichotomy i j with hij | hij | hij
      · have := ha.pair hij (by rw [List.length_map]; exact k1)
        rw [hs i h1, hs j k1, h2, k2, lessB_irrefl] at this; cases this
      · exact hij
      · have := ha.pair hij (by rw [List.length_map]; exact h1)
        rw [hs i h1, hs j k1, h2, k2, lessB_irrefl] at this; cases this
    subst this
    exact ⟨rfl, rfl⟩
  · exact absurd (has_sums h1 h2) k1
  · exact absurd (has_sums k1 k2) h1
  · exact ⟨rfl, rfl⟩
theorem ShelfAt.lt {w : World} {g : Nat} {n : Int} {ta ra : Option Addr} {tl tc rl rc : Nat} {sv : Value} (h : ShelfAt w g n ta ra tl tc rl rc sv) : g < w.heap.size := by
  unfold ShelfAt at h
  rcases Nat.lt_or_ge g w.heap.size with h' | h'
  · exact h'
  · rw [Array.getElem?_eq_none h'] at h; cases h
theorem ShelfAt.below {w w' : World} {g : Nat} {n : Int} {ta ra : Option Addr} {tl tc rl rc : Nat} {sv : Value} (h : ShelfAt w g n ta ra tl tc rl rc sv) (hb : Below w.heap.size w w') : ShelfAt w' g n ta ra tl tc rl rc sv := by
  have := h.lt
  unfold ShelfAt at h ⊢
  rw [hb.block _ this]; exact h
theorem get_any (n : Nat) (g : Nat) (ta ra sa : Option Addr) (tc rn rc sc : Nat) (ts : List ByteArray) (t : ByteArray) (w : World) (hg : ShelfAt w g n ta ra ts.length tc rn rc (.slice sa ts.length sc)) (hst : Strs w sa (ts.map (sumB n))) (hc : Strs w ta ts) (hl : ts.length <= 1048576) (hasc : Asc (ts.map (sumB n))) :
    Calls Tryz.prog 129 #[.pointer (some ⟨g, 0, none⟩), .string t] w fun e w' => w = w' /\ ∃ A ok, e = .returned (.tuple #[.string A, .bool ok]) /\ GetOut n ts t A ok := by
  have k1 : w.cell? ⟨g, 1, none⟩ = some (.slice ta ts.length tc) := by unfold ShelfAt at hg; rw [Lib.cell_of_heap hg]; rfl
  have k3 : w.cell? ⟨g, 3, none⟩ = some (.slice sa ts.length sc) := by unfold ShelfAt at hg; rw [Lib.cell_of_heap hg]; rfl
  have HC : Hid (Strs w ta ts) := hc
  have HB : Hid (Calls Tryz.prog 182 #[.slice sa ts.length sc, .string t] w fun e w' => w = w' /\ ∃ (r : Nat) (b : Bool), e = .returned (.tuple #[.int .i64 r, .bool b]) /\ ((b = true /\ r < ts.length /\ sumB n (nx ts r) = t) \/ (b = false /\ ¬ Has (ts.map (sumB n)) t))) := by
    have := binarySearch_any sa sc (ts.map (sumB n)) t w hst (by rw [List.length_map]; exact hl) hasc
    rw [List.length_map] at this
    refine this.mono ?_
    rintro e w' ⟨rfl, r, b, rfl, h⟩
    refine ⟨rfl, r, b, rfl, ?_⟩
    rcases h with ⟨h1, h2, h3⟩ | h
    · exact Or.inl ⟨h1, h2, by rw [<- nx_sums n ts r h2]; exact h3⟩
    · exact Or.inr h
  clear hc hst hasc hg
  go_enter Tryz.func129, Tryz.ntmps129
  go_wp2_with fail
  refine HB.out.mono ?_
  rintro e w2 ⟨rfl, r, b, rfl, hr⟩
  rcases hr with ⟨rfl, h3, h4⟩ | ⟨rfl, h3⟩
  · obtain ⟨b, off, rfl, c1⟩ := HC.out r h3
    replace c1 : w.cell? ⟨b, off + r, none⟩ = some (.string (nx ts r)) := c1
    have HO : Hid (GetOut n ts t (nx ts r) true) := Or.inl ⟨rfl, r, h3, h4, rfl⟩
    have hrI : (r : Int) < (ts.length : Int) := by omega
    clear h4
    generalize nx ts r = x at c1 HO
    go_wp2_with fail
    go_ret2
    exact ⟨rfl, x, true, rfl, HO.out⟩
  · have HO : Hid (GetOut n ts t ⟨#[]⟩ false) := Or.inr ⟨rfl, rfl, h3⟩
    clear h3
    go_wp2_with fail
    go_ret2
    exact ⟨rfl, ⟨#[]⟩, false, rfl, HO.out⟩
/-- The hypotheses on a store that its reading gives. -/
structure SoOk (w : World) (ta : Option Addr) (ts : List ByteArray) (ra : Option Addr) (rs : List T3) : Prop where
  st : Strs w ta ts
  lt : ts.length <= maxLen
  xt : ∀ s ∈ ts, s.size <= maxLen
  rq : RowQ w ra rs
  ok : QsOk rs
theorem SoOk.below {w w' : World} {ta ra : Option Addr} {ts : List ByteArray} {rs : List T3} (h : SoOk w ta ts ra rs) (hb : Below w.heap.size w w') : SoOk w' ta ts ra rs := ⟨h.st.below hb, h.lt, h.xt, h.rq.below hb, h.ok⟩
theorem szStore_any (n : Int) (ta ra : Option Addr) (tc rc : Nat) (ts : List ByteArray) (rs : List T3) (w : World) (h : SoOk w ta ts ra rs) :
    Calls Tryz.prog 16 #[.agg #[.int .i64 n, .slice ta ts.length tc, .slice ra rs.length rc], .int .i64 1048576] w fun e w' => Below w.heap.size w w' /\ ∃ r : Int, e = .returned (.int .i64 r) /\ (r < 0 \/ (0 <= r /\ ts.length <= 1048576 /\ QsSmall rs)) := by
  have hb0 : Below w.heap.size w (w.alloc (.cells #[.int .i64 n, .slice ta ts.length tc, .slice ra rs.length rc] 44)) := (Below.refl _ _).alloc (Nat.le_refl _) _
  have k2 : (w.alloc (.cells #[.int .i64 n, .slice ta ts.length tc, .slice ra rs.length rc] 44)).cell? ⟨w.heap.size, 2, none⟩ = some (.slice ra rs.length rc) := by simp [go_sem]
  have HO : Hid (SoOk w ta ts ra rs) := h
  clear h
  go_enter Tryz.func16, Tryz.ntmps16
  go_wp2_with fail
  refine (szStringS_any ta tc ts _ (HO.out.st.below hb0) HO.out.lt HO.out.xt 1048576 (by omega) (by omega)).mono ?_
  rintro e w1 ⟨rfl, r, rfl, hr⟩
  rcases hr with hr | ⟨h1, hr0, hr1⟩
  · go_wp2
    go_ret
    exact ⟨hb0, -1, rfl, Or.inl (by omega)⟩
  · have hlt : ts.length <= 1048576 := by omega
    go_wp2_with fail
    refine (szRecordS_any ra rc rs r _ hr0 hr1 (HO.out.rq.below hb0) HO.out.ok).mono ?_
    rintro e w2 ⟨hb2, r2, rfl, hr2⟩
    have hB2 := bt hb0 hb2
    clear hb0 hb2 k2
    rcases hr2 with hr2 | ⟨hr2, hq⟩
    · go_wp2
      go_ret
      exact ⟨hB2, -1, rfl, Or.inl (by omega)⟩
    · have HQ : Hid (QsSmall rs) := hq
      clear hq
      go_wp2
      go_ret
      exact ⟨hB2, r2, rfl, Or.inr ⟨by omega, hlt, HQ.out⟩⟩
theorem toStore_any (n : Int) (ta ra : Option Addr) (tc rc : Nat) (ts : List ByteArray) (rs : List T3) (w : World) (st : Strs w ta ts) (rq : RowQ w ra rs) (hl : ts.length <= 1048576) (hq : QsSmall rs) :
    Calls Tryz.prog 19 #[.agg #[.int .i64 n, .slice ta ts.length tc, .slice ra rs.length rc]] w fun e w' => Below w.heap.size w w' /\ ∃ g1 g2 : Nat, e = .returned (.agg #[.int .i64 n, .slice (some ⟨g1, 0, none⟩) ts.length ts.length, .slice (some ⟨g2, 0, none⟩) rs.length rs.length]) /\ Strs w' (some ⟨g1, 0, none⟩) ts /\ RowQ w' (some ⟨g2, 0, none⟩) rs := by
  have HST : Hid (Strs w ta ts) := st
  have HRQ : Hid (RowQ w ra rs) := rq
  have HQS : Hid (QsSmall rs) := hq
  clear st rq hq
  go_enter Tryz.func19, Tryz.ntmps19
  go_wp2_with fail
  have hb0 : Below w.heap.size w (((w.alloc (.cells #[.int .i64 n, .slice ta ts.length tc, .slice ra rs.length rc] 44)).alloc (.cells #[.int .i64 0, .slice none 0 0, .slice none 0 0] 56)).alloc (.cells #[.int .i64 n, .slice none 0 0, .slice none 0 0] 56)) := (((Below.refl _ _).alloc (Nat.le_refl _) _).alloc (by simp) _).alloc (by simp; omega) _
  refine (toStringS_any ta tc ts _ (HST.out.below hb0) hl).mono ?_
  rintro e w1 ⟨hb1, g, rfl, hg, hr⟩
  simp at hg
  have hb : Below w.heap.size w w1 := hb0.trans (hb1.mono hb0.size)
  have hz := hb1.size
  simp at hz
  have c02 : w1.cell? ⟨w.heap.size, 2, none⟩ = some (.slice ra rs.length rc) := cell_below hb1 (by simp [go_sem])
  have c10 : w1.cell? ⟨w.heap.size + 1, 0, none⟩ = some (.int .i64 0) := cell_below hb1 (by simp [go_sem])
  have c11 : w1.cell? ⟨w.heap.size + 1, 1, none⟩ = some (.slice none 0 0) := cell_below hb1 (by simp [go_sem])
  have c12 : w1.cell? ⟨w.heap.size + 1, 2, none⟩ = some (.slice none 0 0) := cell_below hb1 (by simp [go_sem])
  have c20 : w1.cell? ⟨w.heap.size + 1 + 1, 0, none⟩ = some (.int .i64 n) := cell_below hb1 (by simp [go_sem])
  have c21 : w1.cell? ⟨w.heap.size + 1 + 1, 1, none⟩ = some (.slice none 0 0) := cell_below hb1 (by simp [go_sem])
  have c22 : w1.cell? ⟨w.heap.size + 1 + 1, 2, none⟩ = some (.slice none 0 0) := cell_below hb1 (by simp [go_sem])
  have f1 : ∀ j, w1.frozen? ⟨w.heap.size + 1, j, none⟩ = false := fun j => by rw [hb1.frozen (p := ⟨w.heap.size + 1, j, none⟩) (by simp)]; simp [go_sem]
  have f2 : ∀ j, w1.frozen? ⟨w.heap.size + 1 + 1, j, none⟩ = false := fun j => by rw [hb1.frozen (p := ⟨w.heap.size + 1 + 1, j, none⟩) (by simp)]; simp [go_sem]
  clear hb0 hb1
  go_wp2_with fail
  have hbs : Below w.heap.size w (w1.setCell ⟨w.heap.size + 1 + 1, 1, none⟩ (.slice (some ⟨g, 0, none⟩) ts.length ts.length)) := hb.setCell (p := ⟨w.heap.size + 1 + 1, 1, none⟩) (by simp; omega) _
  refine (toRecordS_any ra rc rs _ (HRQ.out.below hbs) HQS.out).mono ?_
  rintro e w2 ⟨hb2, g2, rfl, hr2⟩
  have hb3 : Below w.heap.size w w2 := hbs.trans (hb2.mono hbs.size)
  have hrs := (hr.setCell (b := w.heap.size + 1 + 1) (j := 1) (by omega) (.slice (some ⟨g, 0, none⟩) ts.length ts.length)).below hb2
  have hz2 := hb2.size
  simp at hz2
  simp at hr2
  have d10 : w2.cell? ⟨w.heap.size + 1, 0, none⟩ = some (.int .i64 0) := cell_below hb2 (by simp [go_sem, c10])
  have d11 : w2.cell? ⟨w.heap.size + 1, 1, none⟩ = some (.slice none 0 0) := cell_below hb2 (by simp [go_sem, c11])
  have d12 : w2.cell? ⟨w.heap.size + 1, 2, none⟩ = some (.slice none 0 0) := cell_below hb2 (by simp [go_sem, c12])
  have d20 : w2.cell? ⟨w.heap.size + 1 + 1, 0, none⟩ = some (.int .i64 n) := cell_below hb2 (by simp [go_sem, c20])
  have d21 : w2.cell? ⟨w.heap.size + 1 + 1, 1, none⟩ = some (.slice (some ⟨g, 0, none⟩) ts.length ts.length) := cell_below hb2 (by simp [go_sem, c21])
  have d22 : w2.cell? ⟨w.heap.size + 1 + 1, 2, none⟩ = some (.slice none 0 0) := cell_below hb2 (by simp [go_sem, c22])
  have e1 : ∀ j, w2.frozen? ⟨w.heap.size + 1, j, none⟩ = false := fun j => by rw [hb2.frozen (p := ⟨w.heap.size + 1, j, none⟩) (by simp; omega)]; simp [go_sem, f1]
  have e2 : ∀ j, w2.frozen? ⟨w.heap.size + 1 + 1, j, none⟩ = false := fun j => by rw [hb2.frozen (p := ⟨w.heap.size + 1 + 1, j, none⟩) (by simp; omega)]; simp [go_sem, f2]
  clear hb2 hbs hb c02 c10 c11 c12 c20 c21 c22 f1 f2 hr
  go_wp2
  refine bodyPost_ret (v := .agg #[.int .i64 n, .slice (some ⟨g, 0, none⟩) ts.length ts.length, .slice (some ⟨g2, 0, none⟩) rs.length rs.length]) (by simp [results, Tryz.results19, go_sem, d10, d11, d12]) rfl ⟨?_, g, g2, rfl, ?_, ?_⟩
  · exact (((hb3.setCell (p := ⟨w.heap.size + 1 + 1, 2, none⟩) (by simp; omega) _).setCell (p := ⟨w.heap.size + 1, 0, none⟩) (by simp) _).setCell (p := ⟨w.heap.size + 1, 1, none⟩) (by simp) _).setCell (p := ⟨w.heap.size + 1, 2, none⟩) (by simp) _
  · exact (((hrs.setCell (by omega) _).setCell (by omega) _).setCell (by omega) _).setCell (by omega) _
  · exact ((((hr2.setCell (by omega) _).setCell (by omega) _).setCell (by omega) _).setCell (by omega) _).row
theorem eqStore_same (n : Int) (ta ra ta' ra' : Option Addr) (tc rc tc' rc' : Nat) (ts : List ByteArray) (rs : List T3) (w : World) (st : Strs w ta ts) (st' : Strs w ta' ts) (rq : RowQ w ra rs) (rq' : RowQ w ra' rs) (hl : ts.length <= 1048576) (hq : QsSmall rs) :
    Calls Tryz.prog 22 #[.agg #[.int .i64 n, .slice ta ts.length tc, .slice ra rs.length rc], .agg #[.int .i64 n, .slice ta' ts.length tc', .slice ra' rs.length rc']] w fun e w' => Below w.heap.size w w' /\ e = .returned (.bool true) := by
  have HST : Hid (Strs w ta ts) := st
  have HRQ : Hid (RowQ w ra rs) := rq
  have HST' : Hid (Strs w ta' ts) := st'
  have HRQ' : Hid (RowQ w ra' rs) := rq'
  have HQS : Hid (QsSmall rs) := hq
  clear st rq st' rq' hq
  have hb0 : Below w.heap.size w ((w.alloc (.cells #[.int .i64 n, .slice ta ts.length tc, .slice ra rs.length rc] 56)).alloc (.cells #[.int .i64 n, .slice ta' ts.length tc', .slice ra' rs.length rc'] 56)) := ((Below.refl _ _).alloc (Nat.le_refl _) _).alloc (by simp) _
  have k1 : ((w.alloc (.cells #[.int .i64 n, .slice ta ts.length tc, .slice ra rs.length rc] 56)).alloc (.cells #[.int .i64 n, .slice ta' ts.length tc', .slice ra' rs.length rc'] 56)).cell? ⟨w.heap.size, 2, none⟩ = some (.slice ra rs.length rc) := by simp [go_sem]
  have k2 : ((w.alloc (.cells #[.int .i64 n, .slice ta ts.length tc, .slice ra rs.length rc] 56)).alloc (.cells #[.int .i64 n, .slice ta' ts.length tc', .slice ra' rs.length rc'] 56)).cell? ⟨w.heap.size + 1, 2, none⟩ = some (.slice ra' rs.length rc') := by simp [go_sem]
  go_enter Tryz.func22, Tryz.ntmps22
  go_wp2_with fail
  refine (eqStringS_same ta ta' tc tc' ts _ (HST.out.below hb0) (HST'.out.below hb0) hl).mono ?_
  rintro e w1 ⟨hb1, rfl⟩
  have hB1 := bt hb0 hb1
  have k11 := cell_below hb1 k1
  have k12 := cell_below hb1 k2
  clear hb0 hb1 k1 k2
  go_wp2_with fail
  refine (eqRecordS_same ra ra' rc rc' rs _ (HRQ.out.below hB1) (HRQ'.out.below hB1) HQS.out).mono ?_
  rintro e w2 ⟨hb2, rfl⟩
  go_wp2
  go_ret
  exact ⟨bt hB1 hb2, rfl⟩
theorem specValidStore_any (n : Int) (ta ra : Option Addr) (tc rc : Nat) (ts : List ByteArray) (rs : List T3) (w : World) (h : StIn w ta ts ra rs) :
    Calls Tryz.prog 57 #[.agg #[.int .i64 n, .slice ta ts.length tc, .slice ra rs.length rc]] w fun e w' => Below w.heap.size w w' /\ ∃ b, e = .returned (.bool b) /\ (b = true ↔ WdOk n ts rs) := by
  by_cases hc : (1 <= n /\ n <= 8) /\ ts.length <= 5000 /\ rs.length <= 2000
  · obtain ⟨m, rfl⟩ := Int.eq_ofNat_of_zero_le (show 0 <= n by omega)
    refine (specValidStore_yes m ta ra tc rc ts rs w (by omega) (by omega) hc.2.1 hc.2.2 h).mono fun e w' ⟨h1, b, h2, h3⟩ => ⟨h1, b, h2, ?_⟩
    rw [h3]
    exact ⟨fun k => ⟨hc.1.1, hc.1.2, k⟩, fun k => k.2.2⟩
  · refine (specValidStore_no n ta ra tc rc ts rs w h.lt h.qs.sm.1 (by omega)).mono fun e w' ⟨h1, h2⟩ => ⟨h1, false, h2, iff_no (fun k => hc ⟨⟨k.1, k.2.1⟩, k.2.2.1.1, k.2.2.2.1⟩)⟩
theorem SoOk.xn {w : World} {ta ra : Option Addr} {ts : List ByteArray} {rs : List T3} (h : SoOk w ta ts ra rs) (i : Nat) : (nx ts i).size <= maxLen := getD_le h.xt i
end Go.Proofs.YtmeojnaoljgieaeGreatDoor
