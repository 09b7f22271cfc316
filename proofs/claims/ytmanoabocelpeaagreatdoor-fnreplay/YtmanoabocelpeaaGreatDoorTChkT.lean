import Derived.Test.YtmanoabocelpeaaGreatDoorTChkA
import Derived.Deep.RegionWith
namespace Go.Proofs.YtmanoabocelpeaaGreatDoor
open Go.RowKit
set_option linter.unusedVariables false
set_option maxHeartbeats 8000000
set_option maxRecDepth 100000
theorem cmpLess_any (s t : ByteArray) (w : World) : Calls Tryz.prog 95 #[.string s, .string t] w fun e w' => e = .returned (.bool (lessB s t)) /\ w = w' := by
 unfold lessB
 have e1 := str_eq (rfl : s = s)
 go_enter Tryz.func95, Tryz.ntmps95
 go_wp2
 go_ret
 exact ⟨rfl, rfl⟩
theorem lo_step {l : List ByteArray} {t : ByteArray} {m : Nat} (h : Asc l) (hm : m < l.length) (hv : lessB (nx l m) t = true) : ∀ j, j < m + 1 -> lessB (nx l j) t = true := by
 intro j hj
 rcases Nat.lt_or_ge j m with h1 | h1
 ·exact lessB_trans (h.pair h1 hm) hv
 ·obtain rfl : j = m := by omega
  exact hv
theorem hi_step {l : List ByteArray} {t : ByteArray} {m : Nat} (h : Asc l) (hv : lessB (nx l m) t = false) : ∀ j, m <= j -> j < l.length -> lessB (nx l j) t = false := by
 intro j hj hl
 rcases Nat.lt_or_ge m j with h1 | h1
 ·rw [Bool.eq_false_iff]
  intro h2
  have := lessB_trans (h.pair h1 hl) h2
  rw [hv] at this; cases this
 ·obtain rfl : j = m := by omega
  exact hv
theorem has_at {l : List ByteArray} {t : ByteArray} {i : Nat} (h : Asc l) (h1 : ∀ j, j < i -> lessB (nx l j) t = true) (h2 : ∀ j, i <= j -> j < l.length -> lessB (nx l j) t = false) (k : Has l t) : i < l.length /\ nx l i = t := by
 obtain ⟨j, hj, e⟩ := k
 rcases Nat.lt_trichotomy j i with hji | hji | hji
 ·have := h1 j hji
  rw [e, lessB_irrefl] at this; cases this
 ·subst hji; exact ⟨hj, e⟩
 ·have := h.pair hji hj
  rw [e, h2 i (Nat.le_refl _) (by omega)] at this; cases this
theorem binarySearch_any (a : Option Addr) (cap : Nat) (l : List ByteArray) (t : ByteArray) (w : World) (hc : Strs w a l) (hl : l.length <= 1048576) (hasc : Asc l) :
  Calls Tryz.prog 85 #[.slice a l.length cap, .string t] w fun e w' => w = w' /\ ∃ (r : Int) (b : Bool), e = .returned (.tuple #[.int .i64 r, .bool b]) /\ (b = true ↔ Has l t) := by
 have HASC : Hid (Asc l) := hasc
 clear hasc
 go_enter Tryz.func85, Tryz.ntmps85
 go_wp2
 go_loopw [7, 8] (fun i j wr => ∃ lo hi : Nat, i = .int .i64 lo /\ j = .int .i64 hi /\ lo <= hi /\ hi <= l.length /\ Hid (∀ j, j < lo -> lessB (nx l j) t = true) /\ Hid (∀ j, hi <= j -> j < l.length -> lessB (nx l j) t = false) /\ w = wr) (fun i j _ => (intOf j).toNat - (intOf i).toNat)
 case atStart => exact ⟨0, l.length, rfl, rfl, Nat.zero_le _, Nat.le_refl _, (fun j hj => by omega : ∀ j, j < 0 -> lessB (nx l j) t = true), (fun j h1 h2 => by omega : ∀ j, l.length <= j -> j < l.length -> lessB (nx l j) t = false), rfl⟩
 case round =>
  obtain ⟨lo, hi, rfl, rfl, h1, h2, HL, HH, rfl⟩ := hrel
  by_cases hlt : lo < hi
  ·obtain ⟨m, e1, hm1, hm2⟩ : ∃ m : Nat, ((lo : Int) + (hi : Int)) / 2 = (m : Int) /\ lo <= m /\ m < hi := ⟨(lo + hi) / 2, by omega, by omega, by omega⟩
   obtain ⟨b, off, rfl, c1⟩ := hc.nx m (by omega)
   obtain ⟨v, hv⟩ : ∃ v, lessB (nx l m) t = v := ⟨_, rfl⟩
   have HV : Hid (lessB (nx l m) t = v) := hv
   have HN : Hid (∀ W : World, Calls Tryz.prog 95 #[.string (nx l m), .string t] W fun e w' => e = .returned (.bool v) /\ W = w') := fun W => by rw [<- hv]; exact cmpLess_any _ _ W
   clear hc hv
   generalize nx l m = s at c1 HN
   have hmI : (m : Int) < (l.length : Int) := by omega
   cases v
   ·go_wp2_with (go_at_call 95; refine (HN.out _).mono ?_; rintro e w' ⟨rfl, rfl⟩)
    go_roundw
    case rel => exact ⟨lo, m, rfl, rfl, hm1, by omega, HL.out, hi_step HASC.out HV.out, trivial⟩
    case measure => simp [intOf]; omega
   ·go_wp2_with (go_at_call 95; refine (HN.out _).mono ?_; rintro e w' ⟨rfl, rfl⟩)
    go_roundw
    case rel => exact ⟨m + 1, hi, by go_num, rfl, by omega, by omega, lo_step HASC.out (by omega) HV.out, HH.out, trivial⟩
    case measure => simp [intOf]; omega
  ·obtain rfl : lo = hi := by omega
   by_cases hll : lo < l.length
   ·obtain ⟨b, off, rfl, c1⟩ := hc.nx lo hll
    have hlI : (lo : Int) < (l.length : Int) := by omega
    by_cases he : nx l lo = t
    ·have heq := str_eq he
     have HE : Hid (nx l lo = t) := he
     clear hc he
     generalize nx l lo = s at c1 heq
     go_wp2
     go_ret2
     exact ⟨rfl, _, true, rfl, iff_yes ⟨lo, hll, HE.out⟩⟩
    ·have heq := str_ne he
     have HE : Hid (nx l lo ≠ t) := he
     clear hc he
     have hss := str_eq (rfl : nx l lo = nx l lo)
     generalize nx l lo = s at c1 heq hss
     go_wp2
     go_ret2
     exact ⟨rfl, _, false, rfl, iff_no (fun h => HE.out (has_at HASC.out HL.out HH.out h).2)⟩
   ·have hlI : ¬ (lo : Int) < (l.length : Int) := by omega
    have HLL : Hid (¬ lo < l.length) := hll
    go_wp2
    go_ret2
    exact ⟨rfl, _, Or.inl ⟨rfl, fun h => HLL.out (has_at HASC.out HL.out HH.out h).1⟩⟩
theorem shareName_any (a a' : Option Addr) (cap cap' : Nat) (l m : List ByteArray) (w : World) (hc : Strs w a l) (hc' : Strs w a' m) (hl : l.length <= 1048576) (hl' : m.length <= 1048576) (hasc : Asc m) :
  Calls Tryz.prog 60 #[.slice a l.length cap, .slice a' m.length cap'] w fun e w' => w = w' /\ ∃ b : Bool, e = .returned (.bool b) /\ (b = true ↔ Share l m) := by
 have HB : Hid (∀ t : ByteArray, Calls Tryz.prog 85 #[.slice a' m.length cap', .string t] w fun e w' => w = w' /\ ∃ (r : Int) (b : Bool), e = .returned (.tuple #[.int .i64 r, .bool b]) /\ (b = true ↔ Has m t)) := fun t => binarySearch_any a' cap' m t w hc' hl' hasc
 clear hc' hasc
 go_enter Tryz.func60, Tryz.ntmps60
 go_wp2
 go_loopw [11] (fun i wr => ∃ k : Nat, k <= l.length /\ i = .int .i64 k /\ Hid (∀ j, j < k -> ¬ Has m (nx l j)) /\ w = wr) (fun i _ => l.length - (intOf i).toNat)
 case atStart => exact ⟨0, Nat.zero_le _, rfl, (fun j hj => by omega : ∀ j, j < 0 -> ¬ Has m (nx l j)), rfl⟩
 case round =>
  obtain ⟨k, hk, rfl, HA, rfl⟩ := hrel
  by_cases hlt : k < l.length
  ·obtain ⟨b, off, rfl, c1⟩ := hc.nx k hlt
   clear hc
   obtain ⟨s, es⟩ : ∃ s, nx l k = s := ⟨_, rfl⟩
   have ES : Hid (nx l k = s) := es
   rw [es] at c1
   clear es
   go_wp2_with fail
   refine (HB.out s).mono ?_
   rintro e w' ⟨rfl, r, b, rfl, hb⟩
   cases b
   ·have HNo : Hid (¬ Has m s) := fun h => by have := hb.mpr h; cases this
    clear hb
    go_wp2
    go_roundw
    case rel => exact ⟨k + 1, by omega, by go_num, ext_succ HA.out (by rw [ES.out]; exact HNo.out), trivial⟩
    case measure => simp [intOf]; omega
   ·have HYes : Hid (Has m s) := hb.mp rfl
    clear hb
    go_wp2
    go_ret
    exact ⟨rfl, true, rfl, iff_yes ⟨k, hlt, by rw [ES.out]; exact HYes.out⟩⟩
  ·go_wp2
   go_ret
   exact ⟨rfl, false, rfl, iff_no (fun ⟨j, hj, h⟩ => HA.out j (by omega) h)⟩
theorem validTexts_any (a : Option Addr) (cap : Nat) (is : List S2) (w : World) (hc : RowS w a is) (hl : is.length <= 1048576) (hs : ∀ i, (sx is i).text.size <= maxLen) :
  Calls Tryz.prog 61 #[.slice a is.length cap] w fun e w' => Below w.heap.size w w' /\ ∃ b : Bool, e = .returned (.bool b) /\ (b = true ↔ TextsOk is) := by
 go_enter Tryz.func61, Tryz.ntmps61
 go_wp2
 go_loopw [7] (fun i wr => ∃ k : Nat, k <= is.length /\ i = .int .i64 k /\ Hid (∀ j, j < k -> (sx is j).text.size <= 2000) /\ Below w.heap.size w wr) (fun i _ => is.length - (intOf i).toNat)
 case atStart => exact ⟨0, Nat.zero_le _, rfl, (fun j hj => by omega : ∀ j, j < 0 -> (sx is j).text.size <= 2000), Below.refl _ _⟩
 case round =>
  obtain ⟨k, hk, rfl, HA, hbel⟩ := hrel
  by_cases hlt : k < is.length
  ·obtain ⟨b, off, rfl, c1, c2⟩ := (hc.below hbel) k hlt
   have hsk := hs k
   unfold maxLen at hsk
   obtain ⟨i, ei⟩ : ∃ i, sx is k = i := ⟨_, rfl⟩
   have EI : Hid (sx is k = i) := ei
   rw [ei] at c1 c2 hsk
   clear hc hs ei
   have hkI : (k : Int) < (is.length : Int) := by omega
   by_cases ht : i.text.size <= 2000
   ·go_wp2
    go_roundw
    case rel => exact ⟨k + 1, by omega, by go_num, ext_succ HA.out (by rw [EI.out]; exact ht), hbel.alloc hbel.size _⟩
    case measure => simp [intOf]; omega
   ·go_wp2
    go_ret
    exact ⟨hbel.alloc hbel.size _, false, rfl, iff_no (fun h => by have := h k hlt; rw [EI.out] at this; omega)⟩
  ·go_wp2
   go_ret
   exact ⟨hbel, true, rfl, iff_yes (fun j hj => HA.out j (by omega))⟩
theorem validActions_any (a : Option Addr) (cap : Nat) (is : List T2) (w : World) (hT : Tab w) (hc : RowT w a is) (hl : is.length <= 1048576) (hk : ∀ i, i < is.length -> (tx is i).code.length <= 1048576) (hs : ∀ i j, (ix (tx is i).code j).text.size <= maxLen) :
  Calls Tryz.prog 62 #[.slice a is.length cap] w fun e w' => Below w.heap.size w w' /\ ∃ b : Bool, e = .returned (.bool b) /\ (b = true ↔ ActsOk is) := by
 have HK : Hid (∀ i, i < is.length -> (tx is i).code.length <= 1048576) := hk
 have HX : Hid (∀ i j, (ix (tx is i).code j).text.size <= maxLen) := hs
 clear hk hs
 go_enter Tryz.func62, Tryz.ntmps62
 go_wp2
 go_loopw [7] (fun i wr => ∃ k : Nat, k <= is.length /\ i = .int .i64 k /\ Hid (∀ j, j < k -> progOk (tx is j).code = true) /\ Below w.heap.size w wr) (fun i _ => is.length - (intOf i).toNat)
 case atStart => exact ⟨0, Nat.zero_le _, rfl, (fun j hj => by omega : ∀ j, j < 0 -> progOk (tx is j).code = true), Below.refl _ _⟩
 case round =>
  obtain ⟨k, hk, rfl, HA, hbel⟩ := hrel
  by_cases hlt : k < is.length
  ·obtain ⟨b, off, rfl, c1, x, p, c2, c3⟩ := (hc.below hbel) k hlt
   have hck := HK.out k hlt
   have hxk := HX.out k
   obtain ⟨i, ei⟩ : ∃ i, tx is k = i := ⟨_, rfl⟩
   have EI : Hid (tx is k = i) := ei
   rw [ei] at c1 c2 c3 hck hxk
   clear hc ei
   have hkI : (k : Int) < (is.length : Int) := by omega
   have hba : Below wr.heap.size wr (wr.alloc (.cells #[.string i.name, .slice x i.code.length p] 63)) := (Below.refl _ _).alloc (Nat.le_refl _) _
   have HN : Hid (Calls Tryz.prog 19 #[.agg #[.slice x i.code.length p]] (wr.alloc (.cells #[.string i.name, .slice x i.code.length p] 63)) fun e w' => Below (wr.alloc (.cells #[.string i.name, .slice x i.code.length p] 63)).heap.size (wr.alloc (.cells #[.string i.name, .slice x i.code.length p] 63)) w' /\ e = .returned (.bool (progOk i.code))) := implValid_any x p i.code _ ((hT.below hbel).below hba) (c3.below hba) hck hxk
   have HB : Hid (Below wr.heap.size wr (wr.alloc (.cells #[.string i.name, .slice x i.code.length p] 63))) := hba
   clear hba hxk c3 hT
   obtain ⟨v, hv⟩ : ∃ v, progOk i.code = v := ⟨_, rfl⟩
   rw [hv] at HN
   have HV : Hid (progOk i.code = v) := hv
   clear hv
   cases v
   ·go_wp2_with (go_at_call 19; refine HN.out.mono ?_; rintro e w1 ⟨hb1, rfl⟩)
    go_ret
    exact ⟨bt (bt hbel HB.out) hb1, false, rfl, iff_no (fun h => by have := h k hlt; rw [EI.out, HV.out] at this; cases this)⟩
   ·go_wp2_with (go_at_call 19; refine HN.out.mono ?_; rintro e w1 ⟨hb1, rfl⟩)
    go_roundw
    case rel => exact ⟨k + 1, by omega, by go_num, ext_succ HA.out (by rw [EI.out]; exact HV.out), bt (bt hbel HB.out) hb1⟩
    case measure => simp [intOf]; omega
  ·go_wp2
   go_ret
   exact ⟨hbel, true, rfl, iff_yes (fun j hj => HA.out j (by omega))⟩
theorem validNames_n (n : Nat) (a : Option Addr) (cap : Nat) (l : List ByteArray) (w : World) (hn : n = l.length) (hc : Strs w a l) (hl : n <= 1048576) (hs : ∀ i, (nx l i).size <= maxLen) :
  Calls Tryz.prog 58 #[.slice a n cap] w fun e w' => w = w' /\ ∃ b : Bool, e = .returned (.bool b) /\ (b = true ↔ AllN l) := by
 subst hn; exact validNames_any a cap l w hc hl hs
theorem ascending_n (n : Nat) (a : Option Addr) (cap : Nat) (l : List ByteArray) (w : World) (hn : n = l.length) (hc : Strs w a l) (hl : n <= 1048576) :
  Calls Tryz.prog 59 #[.slice a n cap] w fun e w' => Below w.heap.size w w' /\ ∃ b : Bool, e = .returned (.bool b) /\ (b = true ↔ Asc l) := by
 subst hn; exact ascending_any a cap l w hc hl
theorem shareName_n (n n' : Nat) (a a' : Option Addr) (cap cap' : Nat) (l m : List ByteArray) (w : World) (hn : n = l.length) (hn' : n' = m.length) (hc : Strs w a l) (hc' : Strs w a' m) (hl : n <= 1048576) (hl' : n' <= 1048576) (hasc : Asc m) :
  Calls Tryz.prog 60 #[.slice a n cap, .slice a' n' cap'] w fun e w' => w = w' /\ ∃ b : Bool, e = .returned (.bool b) /\ (b = true ↔ Share l m) := by
 subst hn; subst hn'; exact shareName_any a a' cap cap' l m w hc hc' hl hl' hasc
theorem iff_false {P : Prop} {b : Bool} (h : b = true ↔ P) (hb : b = false) : ¬ P := fun k => by rw [h.mpr k] at hb; cases hb
theorem implCheck_any (sa ta : Option Addr) (c1 c2 : Nat) (ss : List S2) (ts : List T2) (w : World) (hT : Tab w) (h : SpOk w sa ss ta ts) (hsm : SpSmall ss ts) :
  Calls Tryz.prog 30 #[.agg #[.slice sa ss.length c1, .slice ta ts.length c2]] w fun e w' => Below w.heap.size w w' /\ e = .returned (.int .i64 (chk ss ts)) := by
 have hb0 : Below w.heap.size w (w.alloc (.cells #[.slice sa ss.length c1, .slice ta ts.length c2] 26)) := (Below.refl _ _).alloc (Nat.le_refl _) _
 obtain ⟨rs, rt, ls, lt, ns, xs, nt, lc, xt⟩ := h
 obtain ⟨l1, l2, l3⟩ := hsm
 by_cases hbig : 200 < ss.length + ts.length
 ·have HC : Hid (chk ss ts = 1) := chk1 hbig
  clear rs rt ns xs nt lc xt l3
  go_enter Tryz.func30, Tryz.ntmps30
  go_wp2
  go_ret
  exact ⟨hb0, by rw [HC.out]; rfl⟩
 ·have HBIG : Hid (¬ 200 < ss.length + ts.length) := hbig
  have RS : Hid (RowS w sa ss) := rs
  have RT : Hid (RowT w ta ts) := rt
  have NS : Hid (∀ i, (nx (snames ss) i).size <= maxLen) := fun i => by rw [nx_snames]; exact ns i
  have NT : Hid (∀ i, (nx (tnames ts) i).size <= maxLen) := fun i => by rw [nx_tnames]; exact nt i
  have XS : Hid (∀ i, (sx ss i).text.size <= maxLen) := xs
  have XT : Hid (∀ i j, (ix (tx ts i).code j).text.size <= maxLen) := xt
  have L3 : Hid (∀ i, i < ts.length -> (tx ts i).code.length <= 1048576) := l3
  have HT : Hid (Tab w) := hT
  clear rs rt ns xs nt lc xt l3 hT
  have hb0d : Below w.heap.size w (w.alloc (.cells #[.slice sa ss.length c1, .slice ta ts.length c2] 26)).drew := hb0.drew
  have HB0 : Hid (Below w.heap.size w (w.alloc (.cells #[.slice sa ss.length c1, .slice ta ts.length c2] 26)).drew) := hb0d
  clear hb0 hb0d
  have HE1 := snames_length ss
  have HE2 := tnames_length ts
  have E1 : Hid (ss.length = (snames ss).length) := HE1.symm
  have E2 : Hid (ts.length = (tnames ts).length) := HE2.symm
  clear HE1 HE2
  go_enter Tryz.func30, Tryz.ntmps30
  go_wp2_with fail
  go_region_held3 (fun w' => w'.cell? ⟨w.heap.size, 0, none⟩ = some (.slice sa ss.length c1) /\ w'.cell? ⟨w.heap.size, 1, none⟩ = some (.slice ta ts.length c2))
   (first | assumption | (simp [go_sem]; done) | exact ⟨cell_below hbB hkA.1, cell_below hbB hkA.2⟩ | exact ⟨cell_below hbA (by simp [go_sem]), cell_below hbA (by simp [go_sem])⟩)
   (first
    | (go_at_call 57; refine (targetNames_any ta sa c2 ss.length c1 ts _ (RT.out.below (bt HB0.out hbA)) l2).mono ?_; rintro e wB ⟨hbB, a2, p2, rfl, hn2⟩; have hn1 := hnA.out.below hbB)
    | (go_at_call 56; refine (sourceNames_any sa ta c1 ts.length c2 ss _ (RS.out.below (bt HB0.out hbA)) l1).mono ?_; rintro e wB ⟨hbB, a1, p1, rfl, hn1⟩; have hn2 := hnA.out.below hbB)
    | (go_at_call 56; refine (sourceNames_any sa ta c1 ts.length c2 ss _ (RS.out.below HB0.out) l1).mono ?_; rintro e wA ⟨hbA, a1, p1, rfl, hnA0⟩; have hnA : Hid (Strs wA a1 (snames ss)) := hnA0; clear hnA0; have hkA : wA.cell? ⟨w.heap.size, 0, none⟩ = some (.slice sa ss.length c1) /\ wA.cell? ⟨w.heap.size, 1, none⟩ = some (.slice ta ts.length c2) := ⟨cell_below hbA (by simp [go_sem]), cell_below hbA (by simp [go_sem])⟩)
    | (go_at_call 57; refine (targetNames_any ta sa c2 ss.length c1 ts _ (RT.out.below HB0.out) l2).mono ?_; rintro e wA ⟨hbA, a2, p2, rfl, hnA0⟩; have hnA : Hid (Strs wA a2 (tnames ts)) := hnA0; clear hnA0; have hkA : wA.cell? ⟨w.heap.size, 0, none⟩ = some (.slice sa ss.length c1) /\ wA.cell? ⟨w.heap.size, 1, none⟩ = some (.slice ta ts.length c2) := ⟨cell_below hbA (by simp [go_sem]), cell_below hbA (by simp [go_sem])⟩))
  have hkB : wB.cell? ⟨w.heap.size, 0, none⟩ = some (.slice sa ss.length c1) /\ wB.cell? ⟨w.heap.size, 1, none⟩ = some (.slice ta ts.length c2) := by assumption
  obtain ⟨k0, k1⟩ := hkB
  have hBB : Below w.heap.size w wB := bt (bt HB0.out hbA) hbB
  have N1 : Hid (Strs wB a1 (snames ss)) := hn1
  have N2 : Hid (Strs wB a2 (tnames ts)) := hn2
  clear hbA hbB hkA hnA hn1 hn2
  go_wp2_with fail
  refine (validNames_n ss.length a1 p1 (snames ss) _ E1.out N1.out l1 NS.out).mono ?_
  rintro e w' ⟨rfl, b1, rfl, hb1⟩
  have HB1 : Hid (b1 = true ↔ AllN (snames ss)) := hb1
  clear hb1
  cases b1
  ·have HC : Hid (chk ss ts = 2) := chk2 HBIG.out (fun h => iff_false HB1.out rfl h.1)
   go_wp2_with fail
   go_ret
   exact ⟨hBB, by rw [HC.out]; rfl⟩
  ·have H1 : Hid (AllN (snames ss)) := HB1.out.mp rfl
   clear HB1
   go_wp2_with fail
   refine (validNames_n ts.length a2 p2 (tnames ts) _ E2.out N2.out l2 NT.out).mono ?_
   rintro e w' ⟨rfl, b2, rfl, hb2⟩
   have HB2 : Hid (b2 = true ↔ AllN (tnames ts)) := hb2
   clear hb2
   cases b2
   ·have HC : Hid (chk ss ts = 2) := chk2 HBIG.out (fun h => iff_false HB2.out rfl h.2)
    go_wp2_with fail
    go_ret
    exact ⟨hBB, by rw [HC.out]; rfl⟩
   ·have H2 : Hid (AllN (snames ss) /\ AllN (tnames ts)) := ⟨H1.out, HB2.out.mp rfl⟩
    clear H1 HB2
    go_wp2_with fail
    refine (ascending_n ss.length a1 p1 (snames ss) _ E1.out N1.out l1).mono ?_
    rintro e w3 ⟨hb3, b3, rfl, hb3'⟩
    have HB3 : Hid (b3 = true ↔ Asc (snames ss)) := hb3'
    have hB3 := bt hBB hb3
    have N13 : Hid (Strs w3 a1 (snames ss)) := N1.out.below hb3
    have N23 : Hid (Strs w3 a2 (tnames ts)) := N2.out.below hb3
    have k03 := cell_below hb3 k0
    have k13 := cell_below hb3 k1
    clear hb3' hb3 hBB N1 N2 k0 k1
    cases b3
    ·have HC : Hid (chk ss ts = 3) := chk3 HBIG.out H2.out (iff_false HB3.out rfl)
     go_wp2_with fail
     go_ret
     exact ⟨hB3, by rw [HC.out]; rfl⟩
    ·have H3 : Hid (Asc (snames ss)) := HB3.out.mp rfl
     clear HB3
     go_wp2_with fail
     refine (ascending_n ts.length a2 p2 (tnames ts) _ E2.out N23.out l2).mono ?_
     rintro e w4 ⟨hb4, b4, rfl, hb4'⟩
     have HB4 : Hid (b4 = true ↔ Asc (tnames ts)) := hb4'
     have hB4 := bt hB3 hb4
     have N14 : Hid (Strs w4 a1 (snames ss)) := N13.out.below hb4
     have N24 : Hid (Strs w4 a2 (tnames ts)) := N23.out.below hb4
     have k04 := cell_below hb4 k03
     have k14 := cell_below hb4 k13
     clear hb4' hb4 hB3 N13 N23 k03 k13
     cases b4
     ·have HC : Hid (chk ss ts = 4) := chk4 HBIG.out H2.out H3.out (iff_false HB4.out rfl)
      go_wp2_with fail
      go_ret
      exact ⟨hB4, by rw [HC.out]; rfl⟩
     ·have H4 : Hid (Asc (tnames ts)) := HB4.out.mp rfl
      clear HB4
      go_wp2_with fail
      refine (shareName_n ss.length ts.length a1 a2 p1 p2 (snames ss) (tnames ts) _ E1.out E2.out N14.out N24.out l1 l2 H4.out).mono ?_
      rintro e w' ⟨rfl, b5, rfl, hb5⟩
      have HB5 : Hid (b5 = true ↔ Share (snames ss) (tnames ts)) := hb5
      clear hb5
      cases b5
      ·have H5 : Hid (¬ Share (snames ss) (tnames ts)) := iff_false HB5.out rfl
       clear HB5
       go_wp2_with fail
       refine (validTexts_any sa c1 ss _ (RS.out.below hB4) l1 XS.out).mono ?_
       rintro e w6 ⟨hb6, b6, rfl, hb6'⟩
       have HB6 : Hid (b6 = true ↔ TextsOk ss) := hb6'
       have hB6 := bt hB4 hb6
       have k16 := cell_below hb6 k14
       clear hb6' hb6 hB4 k04 k14 N14 N24
       cases b6
       ·have HC : Hid (chk ss ts = 6) := chk6 HBIG.out H2.out H3.out H4.out H5.out (iff_false HB6.out rfl)
        go_wp2_with fail
        go_ret
        exact ⟨hB6, by rw [HC.out]; rfl⟩
       ·have H6 : Hid (TextsOk ss) := HB6.out.mp rfl
        clear HB6
        go_wp2_with fail
        refine (validActions_any ta c2 ts _ (HT.out.below hB6) (RT.out.below hB6) l2 L3.out XT.out).mono ?_
        rintro e w7 ⟨hb7, b7, rfl, hb7'⟩
        have HB7 : Hid (b7 = true ↔ ActsOk ts) := hb7'
        have hB7 := bt hB6 hb7
        clear hb7' hb7 hB6 k16
        cases b7
        ·have HC : Hid (chk ss ts = 7) := chk7 HBIG.out H2.out H3.out H4.out H5.out H6.out (iff_false HB7.out rfl)
         go_wp2_with fail
         go_ret
         exact ⟨hB7, by rw [HC.out]; rfl⟩
        ·have HC : Hid (chk ss ts = 0) := chk0 HBIG.out H2.out H3.out H4.out H5.out H6.out (HB7.out.mp rfl)
         go_wp2_with fail
         go_ret
         exact ⟨hB7, by rw [HC.out]; rfl⟩
      ·have HC : Hid (chk ss ts = 5) := chk5 HBIG.out H2.out H3.out H4.out (HB5.out.mp rfl)
       go_wp2_with fail
       go_ret
       exact ⟨hB4, by rw [HC.out]; rfl⟩
theorem l3Target_any (sa ta : Option Addr) (n1 c1 c2 : Nat) (ts : List T2) (s : ByteArray) (w : World) (hc : RowT w ta ts) (hl : ts.length <= 1048576) :
  Calls Tryz.prog 28 #[.agg #[.slice sa n1 c1, .slice ta ts.length c2], .string s] w fun e w' => Below w.heap.size w w' /\ ∃ r : Int, e = .returned (.int .i64 r) /\ ((0 <= r /\ Has (tnames ts) s) \/ (r < 0 /\ ¬ Has (tnames ts) s)) := by
 have hb0 : Below w.heap.size w (w.alloc (.cells #[.slice sa n1 c1, .slice ta ts.length c2] 26)) := (Below.refl _ _).alloc (Nat.le_refl _) _
 have k1 : (w.alloc (.cells #[.slice sa n1 c1, .slice ta ts.length c2] 26)).cell? ⟨w.heap.size, 1, none⟩ = some (.slice ta ts.length c2) := by simp [go_sem]
 have HC : Hid (RowT (w.alloc (.cells #[.slice sa n1 c1, .slice ta ts.length c2] 26)) ta ts) := hc.below hb0
 clear hc
 go_enter Tryz.func28, Tryz.ntmps28
 go_wp2
 go_loopw [5] (fun i wr => ∃ k : Nat, k <= ts.length /\ i = .int .i64 k /\ Hid (∀ j, j < k -> (tx ts j).name ≠ s) /\ (w.alloc (.cells #[.slice sa n1 c1, .slice ta ts.length c2] 26)) = wr) (fun i _ => ts.length - (intOf i).toNat)
 case atStart => exact ⟨0, Nat.zero_le _, rfl, (fun j hj => by omega : ∀ j, j < 0 -> (tx ts j).name ≠ s), rfl⟩
 case round =>
  obtain ⟨k, hk, rfl, HA, rfl⟩ := hrel
  by_cases hlt : k < ts.length
  ·obtain ⟨b, off, rfl, c1', x, p, c2', c3'⟩ := HC.out k hlt
   have hkI : (k : Int) < (ts.length : Int) := by omega
   obtain ⟨nm, en⟩ : ∃ nm, (tx ts k).name = nm := ⟨_, rfl⟩
   have EN : Hid ((tx ts k).name = nm) := en
   rw [en] at c1'
   clear en c2' c3'
   by_cases he : nm = s
   ·have heq := str_eq he
    have HE : Hid (nm = s) := he
    clear he
    go_wp2
    go_ret
    exact ⟨hb0, _, rfl, Or.inl ⟨by omega, k, by rw [tnames_length]; exact hlt, by rw [nx_tnames, EN.out]; exact HE.out⟩⟩
   ·have heq := str_ne he
    have HE : Hid (nm ≠ s) := he
    clear he
    go_wp2
    go_roundw
    case rel => exact ⟨k + 1, by omega, by go_num, ext_succ HA.out (by rw [EN.out]; exact HE.out), trivial⟩
    case measure => simp [intOf]; omega
  ·go_wp2
   go_ret
   exact ⟨hb0, _, rfl, Or.inr ⟨by omega, fun ⟨j, hj, e⟩ => by rw [tnames_length] at hj; rw [nx_tnames] at e; exact HA.out j (by omega) e⟩⟩
end Go.Proofs.YtmanoabocelpeaaGreatDoor
