import Derived.Test.YtmanoabocelpeaaGreatDoorTChkS
import Derived.Test.YtmanoabocelpeaaGreatDoorTNSmall
namespace Go.Proofs.YtmanoabocelpeaaGreatDoor
open Go.RowKit
set_option linter.unusedVariables false
set_option maxHeartbeats 8000000
set_option maxRecDepth 100000
theorem cmp_lt : ∀ (a b : List UInt8), Lib.compareBytes a b < 0 ↔ Op.bytesLess a b = true
 | [], [] => by simp [Lib.compareBytes, Op.bytesLess]
 | [], _ :: _ => by simp [Lib.compareBytes, Op.bytesLess]
 | _ :: _, [] => by simp [Lib.compareBytes, Op.bytesLess]
 | a :: ar, b :: bs => by
  have ih := cmp_lt ar bs
  by_cases h1 : a < b
  ·simp [Lib.compareBytes, Op.bytesLess, h1]
  ·by_cases h2 : b < a
   ·have hne : ¬ a = b := by intro e; subst e; exact absurd h2 (by simp)
    simp [Lib.compareBytes, Op.bytesLess, h1, h2, hne]
   ·have he : a = b := UInt8.le_antisymm (UInt8.not_lt.mp h2) (UInt8.not_lt.mp h1)
    subst he
    simp [Lib.compareBytes, Op.bytesLess, ih]
theorem cmp_zero : ∀ (a b : List UInt8), Lib.compareBytes a b = 0 ↔ a = b
 | [], [] => by simp [Lib.compareBytes]
 | [], _ :: _ => by simp [Lib.compareBytes]
 | _ :: _, [] => by simp [Lib.compareBytes]
 | a :: ar, b :: bs => by
  have ih := cmp_zero ar bs
  by_cases h1 : a < b
  ·have hne : ¬ a = b := by intro e; subst e; exact absurd h1 (by simp)
   simp [Lib.compareBytes, h1, hne]
  ·by_cases h2 : b < a
   ·have hne : ¬ a = b := by intro e; subst e; exact absurd h2 (by simp)
    simp [Lib.compareBytes, h1, h2, hne]
   ·have he : a = b := UInt8.le_antisymm (UInt8.not_lt.mp h2) (UInt8.not_lt.mp h1)
    subst he
    simp [Lib.compareBytes, ih]
def cmpB (a b : ByteArray) : Int := Lib.compareBytes a.data.toList b.data.toList
theorem cmpB_lt {a b : ByteArray} {v : Bool} (h : lessB a b = v) : decide (cmpB a b < 0) = v := by
 unfold lessB at h
 rw [ByteArray.toList_eq, ByteArray.toList_eq] at h
 unfold cmpB
 cases v
 ·rw [decide_eq_false_iff_not, cmp_lt, h]; simp
 ·rw [decide_eq_true_eq, cmp_lt]; exact h
theorem cmpB_zero (a b : ByteArray) : cmpB a b = 0 ↔ a = b := by
 unfold cmpB
 rw [cmp_zero]
 exact ⟨fun h => WideShapes.bytes_inj h, fun h => by rw [h]⟩
structure At (l : List ByteArray) (t : ByteArray) (r : Nat) (b : Bool) : Prop where
 le : r <= l.length
 lo : ∀ j, j < r -> lessB (nx l j) t = true
 hi : ∀ j, r <= j -> j < l.length -> lessB (nx l j) t = false
 has : b = true ↔ Has l t
theorem cmpSource_any (s u t : ByteArray) (w : World) :
  Calls Tryz.prog 106 #[.agg #[.string s, .string u], .string t] w fun e w' => Below w.heap.size w w' /\ e = .returned (.int .i64 (cmpB s t)) := by
 go_enter Tryz.func106, Tryz.ntmps106
 go_wp2_with fail
 refine (Tryz.strings_Compare _ t _).mono ?_
 rintro e w2 ⟨rfl, rfl⟩
 go_wp2
 go_ret
 exact ⟨(Below.refl _ _).alloc (Nat.le_refl _) _, rfl⟩
theorem searchSource_any (a : Option Addr) (cap : Nat) (ss : List S2) (t : ByteArray) (w : World) (hc : RowS w a ss) (hl : ss.length <= 1048576) (hasc : Asc (snames ss)) :
  Calls Tryz.prog 105 #[.slice a ss.length cap, .string t, .func (.func 106) #[] #[]] w fun e w' => Below w.heap.size w w' /\ ∃ (r : Nat) (b : Bool), e = .returned (.tuple #[.int .i64 r, .bool b]) /\ At (snames ss) t r b := by
 have HLL : Hid ((snames ss).length = ss.length) := snames_length ss
 have HNX : Hid (∀ i, nx (snames ss) i = (sx ss i).name) := nx_snames ss
 obtain ⟨l, el⟩ : ∃ l, snames ss = l := ⟨_, rfl⟩
 rw [el] at hasc HLL HNX ⊢
 have HASC : Hid (Asc l) := hasc
 have HC : Hid (RowS w a ss) := hc
 clear hasc el hc
 go_enter Tryz.func105, Tryz.ntmps105
 go_wp2
 go_loopw [9, 10] (fun i j wr => ∃ lo hi : Nat, i = .int .i64 lo /\ j = .int .i64 hi /\ lo <= hi /\ hi <= ss.length /\ Hid (∀ j, j < lo -> lessB (nx l j) t = true) /\ Hid (∀ j, hi <= j -> j < l.length -> lessB (nx l j) t = false) /\ Below w.heap.size w wr) (fun i j _ => (intOf j).toNat - (intOf i).toNat)
 case atStart => exact ⟨0, ss.length, rfl, rfl, Nat.zero_le _, Nat.le_refl _, (fun j hj => by omega : ∀ j, j < 0 -> lessB (nx l j) t = true), (fun j h1 h2 => by have := HLL.out; omega : ∀ j, ss.length <= j -> j < l.length -> lessB (nx l j) t = false), Below.refl _ _⟩
 case round =>
  obtain ⟨lo, hi, rfl, rfl, g1, g2, HL, HH, hbr⟩ := hrel
  by_cases hlt : lo < hi
  ·obtain ⟨m, e1, hm1, hm2⟩ : ∃ m : Nat, ((lo : Int) + (hi : Int)) / 2 = (m : Int) /\ lo <= m /\ m < hi := ⟨(lo + hi) / 2, by omega, by omega, by omega⟩
   obtain ⟨b, off, rfl, c1, c2⟩ := (HC.out.below hbr) m (by omega)
   obtain ⟨v, hv⟩ : ∃ v, lessB (nx l m) t = v := ⟨_, rfl⟩
   have HV : Hid (lessB (nx l m) t = v) := hv
   have dv : decide (cmpB (sx ss m).name t < 0) = v := by rw [<- HNX.out m]; exact cmpB_lt hv
   clear hv
   generalize sx ss m = s at c1 c2 dv
   obtain ⟨q, eq⟩ : ∃ q, cmpB s.name t = q := ⟨_, rfl⟩
   rw [eq] at dv
   have HN : Hid (∀ W : World, Calls Tryz.prog 106 #[.agg #[.string s.name, .string s.text], .string t] W fun e w' => Below W.heap.size W w' /\ e = .returned (.int .i64 q)) := fun W => by rw [<- eq]; exact cmpSource_any s.name s.text t W
   clear eq
   have hmI : (m : Int) < (ss.length : Int) := by omega
   cases v
   ·go_wp2_with fail
    refine (HN.out _).mono ?_
    rintro e w2 ⟨hb2, rfl⟩
    go_wp2_with fail
    go_roundw
    case rel => exact ⟨lo, m, rfl, rfl, hm1, by omega, HL.out, hi_step HASC.out HV.out, bt hbr hb2⟩
    case measure => simp [intOf]; omega
   ·go_wp2_with fail
    refine (HN.out _).mono ?_
    rintro e w2 ⟨hb2, rfl⟩
    go_wp2_with fail
    go_roundw
    case rel => exact ⟨m + 1, hi, by go_num, rfl, by omega, by omega, lo_step HASC.out (by have := HLL.out; omega) HV.out, HH.out, bt hbr hb2⟩
    case measure => simp [intOf]; omega
  ·obtain rfl : lo = hi := by omega
   have hle : lo <= l.length := by have := HLL.out; omega
   by_cases hll : lo < ss.length
   ·obtain ⟨b, off, rfl, c1, c2⟩ := (HC.out.below hbr) lo hll
    have hlI : (lo : Int) < (ss.length : Int) := by omega
    have HE0 : Hid (nx l lo = (sx ss lo).name) := HNX.out lo
    by_cases he : (sx ss lo).name = t
    ·have HE : Hid (Has l t) := ⟨lo, by have := HLL.out; omega, by rw [HE0.out]; exact he⟩
     have dz : (cmpB (sx ss lo).name t == 0) = true := by rw [beq_iff_eq, cmpB_zero]; exact he
     clear he HE0
     generalize sx ss lo = s at c1 c2 dz
     obtain ⟨q, eq⟩ : ∃ q, cmpB s.name t = q := ⟨_, rfl⟩
     rw [eq] at dz
     have HN : Hid (∀ W : World, Calls Tryz.prog 106 #[.agg #[.string s.name, .string s.text], .string t] W fun e w' => Below W.heap.size W w' /\ e = .returned (.int .i64 q)) := fun W => by rw [<- eq]; exact cmpSource_any s.name s.text t W
     clear eq
     go_wp2_with fail
     refine (HN.out _).mono ?_
     rintro e w2 ⟨hb2, rfl⟩
     go_wp2_with fail
     go_ret2
     exact ⟨bt hbr hb2, lo, true, rfl, hle, HL.out, HH.out, iff_yes HE.out⟩
    ·have HE : Hid (¬ Has l t) := fun h => he (by rw [<- HE0.out]; exact (has_at HASC.out HL.out HH.out h).2)
     have dz : (cmpB (sx ss lo).name t == 0) = false := by rw [beq_eq_false_iff_ne]; exact fun h => he ((cmpB_zero _ _).mp h)
     clear he HE0
     generalize sx ss lo = s at c1 c2 dz
     obtain ⟨q, eq⟩ : ∃ q, cmpB s.name t = q := ⟨_, rfl⟩
     rw [eq] at dz
     have HN : Hid (∀ W : World, Calls Tryz.prog 106 #[.agg #[.string s.name, .string s.text], .string t] W fun e w' => Below W.heap.size W w' /\ e = .returned (.int .i64 q)) := fun W => by rw [<- eq]; exact cmpSource_any s.name s.text t W
     clear eq
     go_wp2_with fail
     refine (HN.out _).mono ?_
     rintro e w2 ⟨hb2, rfl⟩
     go_wp2_with fail
     go_ret2
     exact ⟨bt hbr hb2, lo, false, rfl, hle, HL.out, HH.out, iff_no HE.out⟩
   ·have hlI : ¬ (lo : Int) < (ss.length : Int) := by omega
    have HE : Hid (¬ Has l t) := fun h => hll (by have := (has_at HASC.out HL.out HH.out h).1; have := HLL.out; omega)
    clear hll
    go_wp2_with fail
    go_ret2
    exact ⟨hbr, lo, Or.inl ⟨rfl, hle, HL.out, HH.out, iff_no HE.out⟩⟩
theorem findSource_any (sa ta : Option Addr) (n1 n2 c1 c2 : Nat) (ss : List S2) (t : ByteArray) (w : World) (hc : RowS w sa ss) (hl : ss.length <= 1048576) (hasc : Asc (snames ss)) (hn : n1 = ss.length) :
  Calls Tryz.prog 99 #[.agg #[.slice sa n1 c1, .slice ta n2 c2], .string t] w fun e w' => Below w.heap.size w w' /\ ∃ (r : Nat) (b : Bool), e = .returned (.tuple #[.int .i64 r, .bool b]) /\ At (snames ss) t r b := by
 subst hn
 have hb0 : Below w.heap.size w (w.alloc (.cells #[.slice sa ss.length c1, .slice ta n2 c2] 26)) := (Below.refl _ _).alloc (Nat.le_refl _) _
 go_enter Tryz.func99, Tryz.ntmps99
 go_wp2_with fail
 refine (searchSource_any sa c1 ss t _ (hc.below hb0) hl hasc).mono ?_
 rintro e w2 ⟨hb2, r, b, rfl, hr⟩
 have HR : Hid (At (snames ss) t r b) := hr
 have hB2 := bt hb0 hb2
 clear hr hb0 hb2
 go_wp2
 go_ret2
 exact ⟨hB2, r, b, rfl, HR.out⟩
theorem cmpTarget_any (s t : ByteArray) (u : Option Addr) (un uc : Nat) (w : World) :
  Calls Tryz.prog 109 #[.agg #[.string s, .slice u un uc], .string t] w fun e w' => Below w.heap.size w w' /\ e = .returned (.int .i64 (cmpB s t)) := by
 go_enter Tryz.func109, Tryz.ntmps109
 go_wp2_with fail
 refine (Tryz.strings_Compare _ t _).mono ?_
 rintro e w2 ⟨rfl, rfl⟩
 go_wp2
 go_ret
 exact ⟨(Below.refl _ _).alloc (Nat.le_refl _) _, rfl⟩
theorem searchTarget_any (a : Option Addr) (cap : Nat) (ss : List T2) (t : ByteArray) (w : World) (hc : RowT w a ss) (hl : ss.length <= 1048576) (hasc : Asc (tnames ss)) :
  Calls Tryz.prog 108 #[.slice a ss.length cap, .string t, .func (.func 109) #[] #[]] w fun e w' => Below w.heap.size w w' /\ ∃ (r : Nat) (b : Bool), e = .returned (.tuple #[.int .i64 r, .bool b]) /\ At (tnames ss) t r b := by
 have HLL : Hid ((tnames ss).length = ss.length) := tnames_length ss
 have HNX : Hid (∀ i, nx (tnames ss) i = (tx ss i).name) := nx_tnames ss
 obtain ⟨l, el⟩ : ∃ l, tnames ss = l := ⟨_, rfl⟩
 rw [el] at hasc HLL HNX ⊢
 have HASC : Hid (Asc l) := hasc
 have HC : Hid (RowT w a ss) := hc
 clear hasc el hc
 go_enter Tryz.func108, Tryz.ntmps108
 go_wp2
 go_loopw [9, 10] (fun i j wr => ∃ lo hi : Nat, i = .int .i64 lo /\ j = .int .i64 hi /\ lo <= hi /\ hi <= ss.length /\ Hid (∀ j, j < lo -> lessB (nx l j) t = true) /\ Hid (∀ j, hi <= j -> j < l.length -> lessB (nx l j) t = false) /\ Below w.heap.size w wr) (fun i j _ => (intOf j).toNat - (intOf i).toNat)
 case atStart => exact ⟨0, ss.length, rfl, rfl, Nat.zero_le _, Nat.le_refl _, (fun j hj => by omega : ∀ j, j < 0 -> lessB (nx l j) t = true), (fun j h1 h2 => by have := HLL.out; omega : ∀ j, ss.length <= j -> j < l.length -> lessB (nx l j) t = false), Below.refl _ _⟩
 case round =>
  obtain ⟨lo, hi, rfl, rfl, g1, g2, HL, HH, hbr⟩ := hrel
  by_cases hlt : lo < hi
  ·obtain ⟨m, e1, hm1, hm2⟩ : ∃ m : Nat, ((lo : Int) + (hi : Int)) / 2 = (m : Int) /\ lo <= m /\ m < hi := ⟨(lo + hi) / 2, by omega, by omega, by omega⟩
   obtain ⟨b, off, rfl, c1, y, p, c2, c3⟩ := (HC.out.below hbr) m (by omega)
   obtain ⟨v, hv⟩ : ∃ v, lessB (nx l m) t = v := ⟨_, rfl⟩
   have HV : Hid (lessB (nx l m) t = v) := hv
   have dv : decide (cmpB (tx ss m).name t < 0) = v := by rw [<- HNX.out m]; exact cmpB_lt hv
   clear hv
   generalize tx ss m = s at c1 c2 c3 dv
   obtain ⟨q, eq⟩ : ∃ q, cmpB s.name t = q := ⟨_, rfl⟩
   rw [eq] at dv
   have HN : Hid (∀ W : World, Calls Tryz.prog 109 #[.agg #[.string s.name, .slice y s.code.length p], .string t] W fun e w' => Below W.heap.size W w' /\ e = .returned (.int .i64 q)) := fun W => by rw [<- eq]; exact cmpTarget_any s.name t y s.code.length p W
   clear eq c3
   have hmI : (m : Int) < (ss.length : Int) := by omega
   cases v
   ·go_wp2_with fail
    refine (HN.out _).mono ?_
    rintro e w2 ⟨hb2, rfl⟩
    go_wp2_with fail
    go_roundw
    case rel => exact ⟨lo, m, rfl, rfl, hm1, by omega, HL.out, hi_step HASC.out HV.out, bt hbr hb2⟩
    case measure => simp [intOf]; omega
   ·go_wp2_with fail
    refine (HN.out _).mono ?_
    rintro e w2 ⟨hb2, rfl⟩
    go_wp2_with fail
    go_roundw
    case rel => exact ⟨m + 1, hi, by go_num, rfl, by omega, by omega, lo_step HASC.out (by have := HLL.out; omega) HV.out, HH.out, bt hbr hb2⟩
    case measure => simp [intOf]; omega
  ·obtain rfl : lo = hi := by omega
   have hle : lo <= l.length := by have := HLL.out; omega
   by_cases hll : lo < ss.length
   ·obtain ⟨b, off, rfl, c1, y, p, c2, c3⟩ := (HC.out.below hbr) lo hll
    have hlI : (lo : Int) < (ss.length : Int) := by omega
    have HE0 : Hid (nx l lo = (tx ss lo).name) := HNX.out lo
    by_cases he : (tx ss lo).name = t
    ·have HE : Hid (Has l t) := ⟨lo, by have := HLL.out; omega, by rw [HE0.out]; exact he⟩
     have dz : (cmpB (tx ss lo).name t == 0) = true := by rw [beq_iff_eq, cmpB_zero]; exact he
     clear he HE0
     generalize tx ss lo = s at c1 c2 c3 dz
     obtain ⟨q, eq⟩ : ∃ q, cmpB s.name t = q := ⟨_, rfl⟩
     rw [eq] at dz
     have HN : Hid (∀ W : World, Calls Tryz.prog 109 #[.agg #[.string s.name, .slice y s.code.length p], .string t] W fun e w' => Below W.heap.size W w' /\ e = .returned (.int .i64 q)) := fun W => by rw [<- eq]; exact cmpTarget_any s.name t y s.code.length p W
     clear eq c3
     go_wp2_with fail
     refine (HN.out _).mono ?_
     rintro e w2 ⟨hb2, rfl⟩
     go_wp2_with fail
     go_ret2
     exact ⟨bt hbr hb2, lo, true, rfl, hle, HL.out, HH.out, iff_yes HE.out⟩
    ·have HE : Hid (¬ Has l t) := fun h => he (by rw [<- HE0.out]; exact (has_at HASC.out HL.out HH.out h).2)
     have dz : (cmpB (tx ss lo).name t == 0) = false := by rw [beq_eq_false_iff_ne]; exact fun h => he ((cmpB_zero _ _).mp h)
     clear he HE0
     generalize tx ss lo = s at c1 c2 c3 dz
     obtain ⟨q, eq⟩ : ∃ q, cmpB s.name t = q := ⟨_, rfl⟩
     rw [eq] at dz
     have HN : Hid (∀ W : World, Calls Tryz.prog 109 #[.agg #[.string s.name, .slice y s.code.length p], .string t] W fun e w' => Below W.heap.size W w' /\ e = .returned (.int .i64 q)) := fun W => by rw [<- eq]; exact cmpTarget_any s.name t y s.code.length p W
     clear eq c3
     go_wp2_with fail
     refine (HN.out _).mono ?_
     rintro e w2 ⟨hb2, rfl⟩
     go_wp2_with fail
     go_ret2
     exact ⟨bt hbr hb2, lo, false, rfl, hle, HL.out, HH.out, iff_no HE.out⟩
   ·have hlI : ¬ (lo : Int) < (ss.length : Int) := by omega
    have HE : Hid (¬ Has l t) := fun h => hll (by have := (has_at HASC.out HL.out HH.out h).1; have := HLL.out; omega)
    clear hll
    go_wp2_with fail
    go_ret2
    exact ⟨hbr, lo, Or.inl ⟨rfl, hle, HL.out, HH.out, iff_no HE.out⟩⟩
theorem findTarget_any (sa ta : Option Addr) (n1 n2 c1 c2 : Nat) (ss : List T2) (t : ByteArray) (w : World) (hc : RowT w ta ss) (hl : ss.length <= 1048576) (hasc : Asc (tnames ss)) (hn : n2 = ss.length) :
  Calls Tryz.prog 100 #[.agg #[.slice sa n1 c1, .slice ta n2 c2], .string t] w fun e w' => Below w.heap.size w w' /\ ∃ (r : Nat) (b : Bool), e = .returned (.tuple #[.int .i64 r, .bool b]) /\ At (tnames ss) t r b := by
 subst hn
 have hb0 : Below w.heap.size w (w.alloc (.cells #[.slice sa n1 c1, .slice ta ss.length c2] 26)) := (Below.refl _ _).alloc (Nat.le_refl _) _
 go_enter Tryz.func100, Tryz.ntmps100
 go_wp2_with fail
 refine (searchTarget_any ta c2 ss t _ (hc.below hb0) hl hasc).mono ?_
 rintro e w2 ⟨hb2, r, b, rfl, hr⟩
 have HR : Hid (At (tnames ss) t r b) := hr
 have hB2 := bt hb0 hb2
 clear hr hb0 hb2
 go_wp2
 go_ret2
 exact ⟨hB2, r, b, rfl, HR.out⟩
theorem isThing_any (sa ta : Option Addr) (c1 c2 : Nat) (ss : List S2) (ts : List T2) (t : ByteArray) (w : World) (rs : RowS w sa ss) (rt : RowT w ta ts) (h1 : ss.length <= 1048576) (h2 : ts.length <= 1048576) (a1 : Asc (snames ss)) (a2 : Asc (tnames ts)) :
  Calls Tryz.prog 98 #[.agg #[.slice sa ss.length c1, .slice ta ts.length c2], .string t] w fun e w' => Below w.heap.size w w' /\ ∃ b : Bool, e = .returned (.bool b) /\ (b = true ↔ (Has (snames ss) t \/ Has (tnames ts) t)) := by
 have hb0 : Below w.heap.size w (w.alloc (.cells #[.slice sa ss.length c1, .slice ta ts.length c2] 26)) := (Below.refl _ _).alloc (Nat.le_refl _) _
 have k0 : (w.alloc (.cells #[.slice sa ss.length c1, .slice ta ts.length c2] 26)).cell? ⟨w.heap.size, 0, none⟩ = some (.slice sa ss.length c1) := by simp [go_sem]
 have k1 : (w.alloc (.cells #[.slice sa ss.length c1, .slice ta ts.length c2] 26)).cell? ⟨w.heap.size, 1, none⟩ = some (.slice ta ts.length c2) := by simp [go_sem]
 have HT : Hid (∀ W : World, Below w.heap.size w W -> Calls Tryz.prog 100 #[.agg #[.slice sa ss.length c1, .slice ta ts.length c2], .string t] W fun e w' => Below W.heap.size W w' /\ ∃ (r : Nat) (b : Bool), e = .returned (.tuple #[.int .i64 r, .bool b]) /\ At (tnames ts) t r b) := fun W hW => findTarget_any sa ta ss.length ts.length c1 c2 ts t W (rt.below hW) h2 a2 rfl
 clear rt a2
 go_enter Tryz.func98, Tryz.ntmps98
 go_wp2_with fail
 refine (findSource_any sa ta ss.length ts.length c1 c2 ss t _ (rs.below hb0) h1 a1 rfl).mono ?_
 rintro e w1 ⟨hb1, r1, b1, rfl, q1⟩
 have hB1 := bt hb0 hb1
 have x0 := cell_below hb1 k0
 have x1 := cell_below hb1 k1
 have HQ1 : Hid (b1 = true ↔ Has (snames ss) t) := q1.has
 clear hb0 hb1 k0 k1 q1 rs a1
 go_wp2_with fail
 refine (HT.out w1 hB1).mono ?_
 rintro e w2 ⟨hb2, r2, b2, rfl, q2⟩
 have hB2 := bt hB1 hb2
 have HQ2 : Hid (b2 = true ↔ Has (tnames ts) t) := q2.has
 clear hb2 q2 HT x0 x1 hB1
 have HZ : Hid ((b1 || b2) = true ↔ (Has (snames ss) t \/ Has (tnames ts) t)) := by
  show (b1 || b2) = true ↔ _
  rw [Bool.or_eq_true, HQ1.out, HQ2.out]
 clear HQ1 HQ2
 cases b1
 ·go_wp2
  go_ret
  exact ⟨hB2, b2, rfl, by simpa using HZ.out⟩
 ·go_wp2
  go_ret
  exact ⟨hB2, true, rfl, by simpa using HZ.out⟩
end Go.Proofs.YtmanoabocelpeaaGreatDoor
