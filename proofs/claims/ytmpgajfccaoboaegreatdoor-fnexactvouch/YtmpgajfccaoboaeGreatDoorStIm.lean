/-
  impl.validBlobs, validRecords, ValidStore.
-/
import Derived.Test.YtmpgajfccaoboaeGreatDoorStVal
import Derived.Test.YtmpgajfccaoboaeGreatDoorNMach
namespace Go.Proofs.YtmpgajfccaoboaeGreatDoor
open Go.RowKit
set_option linter.unusedVariables false

/-- Records as the valid-store functions are handed them. -/
structure QsIn (w : World) (a : Option Addr) (rs : List T3) : Prop where
  rq : RowQ w a rs
  ok : QsOk rs
  sm : QsSmall rs
theorem QsIn.below {w w' : World} {a : Option Addr} {rs : List T3} (h : QsIn w a rs) (hb : Below w.heap.size w w') : QsIn w' a rs := ⟨h.rq.below hb, h.ok, h.sm⟩

set_option maxHeartbeats 2000000 in
theorem validRecords_any (a : Option Addr) (cap : Nat) (rs : List T3) (n : Nat) (w : World) (hT : Tab w) (h8 : n ≤ 8) (h : QsIn w a rs) :
    Calls Tryz.prog 111 #[.slice a rs.length cap, .int .i64 n] w fun e w' => Below w.heap.size w w' ∧ ∃ b, e = .returned (.bool b) ∧ (b = true ↔ rs.length ≤ 2000 ∧ ∀ i, i < rs.length → RcOk n (qx rs i)) := by
  have hl := h.sm.1
  have HQ : Hid (QsIn w a rs) := h
  have HT : Hid (Tab w) := hT
  clear h hT
  by_cases h1 : 2000 < rs.length
  · have d1 : decide ((2000 : Int) < (rs.length : Int)) = true := by simp; omega
    go_enter Tryz.func111, Tryz.ntmps111
    go_wp2
    go_ret
    exact ⟨Below.refl _ _, false, rfl, iff_no (fun h => by omega)⟩
  · have d1 : decide ((2000 : Int) < (rs.length : Int)) = false := by simp; omega
    go_enter Tryz.func111, Tryz.ntmps111
    go_wp2
    go_loopw [12] (fun i wr => ∃ k : Nat, k ≤ rs.length ∧ i = .int .i64 k ∧ Hid (∀ i, i < k → RcOk n (qx rs i)) ∧ Below w.heap.size w wr) (fun i _ => rs.length - (intOf i).toNat)
    case atStart => exact ⟨0, Nat.zero_le _, rfl, (fun i hi => by omega : ∀ i, i < 0 → RcOk n (qx rs i)), Below.refl _ _⟩
    case round =>
      obtain ⟨k, hk, rfl, HK, hbr⟩ := hrel
      by_cases hlt : k < rs.length
      · have hq := HQ.out.below hbr
        obtain ⟨b, off, rfl, ca, cc, la, lc, c1, c2, c3, c4, c5⟩ := hq.rq k hlt
        have hin : RcIn wr ca (qx rs k).code la (qx rs k).looks := ⟨c4, c5, (hq.sm.2 k hlt).1, (hq.sm.2 k hlt).2, hq.ok.xc k, hq.ok.ng k, hq.ok.sg k⟩
        have hou := hq.ok.so k
        have HG1 : Hid (RcOk n (qx rs k) → ∀ i, i < k + 1 → RcOk n (qx rs i)) := fun hg => ext_succ HK.out hg
        have HG0 : Hid (¬ RcOk n (qx rs k) → ¬ (rs.length ≤ 2000 ∧ ∀ i, i < rs.length → RcOk n (qx rs i))) := fun hg h => hg (h.2 k hlt)
        clear hq c4 c5
        generalize qx rs k = x at *
        obtain ⟨xc, xl, xo⟩ := x
        simp only at *
        have HIN : Hid (RcIn wr ca xc la xl) := hin
        clear hin
        have hb0 : Below wr.heap.size wr (wr.alloc (.cells #[.slice ca xc.length cc, .slice la xl.length lc, .string xo] 63)) := (Below.refl _ _).alloc (Nat.le_refl _) _
        have hin2 : RcIn (wr.alloc (.cells #[.slice ca xc.length cc, .slice la xl.length lc, .string xo] 63)) ca xc la xl := ⟨HIN.out.rc.below hb0, HIN.out.rg.below hb0, HIN.out.lc, HIN.out.lg, HIN.out.xc, HIN.out.ng, HIN.out.sg⟩
        have HI2 : Hid (RcIn (wr.alloc (.cells #[.slice ca xc.length cc, .slice la xl.length lc, .string xo] 63)) ca xc la xl) := hin2
        clear hin2
        go_wp2_with fail
        refine (validRecord_any ca la cc lc xc xl xo n _ ((HT.out.below hbr).below hb0) h8 HI2.out hou).mono ?_
        rintro e w2 ⟨hb2, b, rfl, hb⟩
        have hB2 := bt hbr (bt hb0 hb2)
        rcases b_iff hb with ⟨hg, rfl⟩ | ⟨hg, rfl⟩
        · have HO : Hid (∀ i, i < k + 1 → RcOk n (qx rs i)) := HG1.out hg
          clear hb hg hb0 hb2
          go_wp2
          go_roundw
          case rel => exact ⟨k + 1, by omega, by go_num, HO.out, hB2⟩
          case measure => simp [intOf]; omega
        · have HO : Hid (¬ (rs.length ≤ 2000 ∧ ∀ i, i < rs.length → RcOk n (qx rs i))) := HG0.out hg
          clear hb hg hb0 hb2
          go_wp2
          go_ret
          exact ⟨hB2, false, rfl, iff_no HO.out⟩
      · go_wp2
        go_ret
        exact ⟨hbr, true, rfl, iff_yes ⟨by omega, fun i hi => HK.out i (by omega)⟩⟩

theorem str_take (l : List ByteArray) (k : Nat) (h : k < l.length) : (l.take k).map Value.string ++ [.string (nx l k)] = (l.take (k + 1)).map Value.string := by
  rw [List.take_succ_eq_append_getElem h, List.map_append]
  unfold nx
  rw [List.getD_eq_getElem?_getD, List.getElem?_eq_getElem h]
  rfl
theorem strs_of_own {w : World} {B n cap : Nat} {a : Option Addr} {ss : List ByteArray} (hn : n = ss.length) (h : w.ownsRow B 9 1 (.slice a n cap) n (ss.map .string)) : Strs w a ss := by
  subst hn
  intro i hi
  rcases h.2 with ⟨hv, h0⟩ | ⟨g, cap', cur, hv, _⟩
  · omega
  · simp only [Value.slice.injEq] at hv
    obtain ⟨rfl, _, _⟩ := hv
    refine ⟨g, 0, rfl, ?_⟩
    rw [Nat.zero_add, h.cellAt i (by omega), List.getElem?_map, List.getElem?_eq_getElem hi, List.getD_eq_getElem?_getD, List.getElem?_eq_getElem hi]
    rfl
theorem cell_one (w : World) (v : Value) (ty : TypeId) : ∀ j u, [v][j]? = some u → (w.alloc (.cells #[v] ty)).cell? ((⟨w.heap.size, 0, none⟩ : Addr).add j) = some u := by
  intro j u hu
  cases j with
  | zero => simp at hu; subst hu; simp [go_sem, Addr.add]
  | succ j => simp at hu

set_option maxRecDepth 100000 in
set_option maxHeartbeats 2000000 in
theorem sumsOf_any (a : Option Addr) (cap : Nat) (ts : List ByteArray) (n : Nat) (w : World) (h1 : 1 ≤ n) (h8 : n ≤ 8) (hc : Strs w a ts) (hl : ts.length ≤ 1048576) (hs : ∀ i, i < ts.length → (nx ts i).size ≤ 2002) :
    Calls Tryz.prog 156 #[.slice a ts.length cap, .int .i64 n] w fun e w' => Below w.heap.size w w' ∧ ∃ sa sc, e = .returned (.slice sa ts.length sc) ∧ w'.ownsRow w.heap.size 9 1 (.slice sa ts.length sc) ts.length ((ts.map (sumB n)).map .string) := by
  have HC : Hid (Strs w a ts) := hc
  have HS : Hid (∀ i, i < ts.length → (nx ts i).size ≤ 2002) := hs
  clear hc hs
  obtain ⟨i0, hi, hz0, hzz1, hzz2⟩ := info_parts Tryz.info9b
  obtain ⟨ss, ess⟩ : ∃ ss, ts.map (sumB n) = ss := ⟨_, rfl⟩
  have HSL : Hid (ss.length = ts.length) := by show ss.length = ts.length; rw [← ess, List.length_map]
  have HNX : Hid (∀ i, i < ts.length → nx ss i = sumB n (nx ts i)) := fun i h => by rw [← ess]; exact nx_sums n ts i h
  rw [ess]
  clear ess
  go_enter Tryz.func156, Tryz.ntmps156
  go_wp2
  go_loopw [5, 10] (fun v i wr => ∃ (k : Nat) (sa : Option Addr) (sc : Nat), k ≤ ts.length ∧ i = .int .i64 k ∧ v = .slice sa k sc ∧ Hid (wr.ownsRow w.heap.size 9 1 (.slice sa k sc) k ((ss.take k).map .string)) ∧ Below w.heap.size w wr) (fun _ i _ => ts.length - (intOf i).toNat)
  case atStart => exact ⟨0, none, 0, Nat.zero_le _, rfl, rfl, World.ownsRow_nil _ _ _ _, Below.refl _ _⟩
  case round =>
    obtain ⟨k, sa, sc, hk, rfl, rfl, HO, hbr⟩ := hrel
    by_cases hlt : k < ts.length
    · obtain ⟨b, off, rfl, c1⟩ := (HC.out.below hbr) k hlt
      replace c1 : wr.cell? ⟨b, off + k, none⟩ = some (.string (nx ts k)) := c1
      have hsk := HS.out k hlt
      have HX : Hid (nx ss k = sumB n (nx ts k)) := HNX.out k hlt
      generalize nx ts k = x at *
      have hx0 : x.size ≤ 1048576 := by omega
      go_wp2_with fail
      refine (implSum_yes x n _ hx0 h1 h8).mono ?_
      rintro e w2 ⟨rfl, hb2⟩
      obtain ⟨q, eq⟩ : ∃ q, (⟨(digs (hash x.data.toList) n).toArray⟩ : ByteArray) = q := ⟨_, rfl⟩
      rw [eq]
      have HQ : Hid (nx ss k = q) := by show nx ss k = q; rw [HX.out, ← eq]; rfl
      have hown2 := ownsRow_below HO.out hb2
      have hown3 := hown2.alloc (.cells #[.string q] 9)
      have hB2 := bt hbr hb2
      have HO3 : Hid ((w2.alloc (.cells #[.string q] 9)).ownsRow w.heap.size 9 1 (.slice sa k sc) k ((ss.take k).map .string)) := hown3
      have hlw : w.heap.size ≤ w2.heap.size := hB2.size
      clear eq hown2 hown3 hb2
      go_wp2_with (at_builtin; refine wpList_append_own _ rfl (.tmp 14) (.tmp 18) 30 rfl w.heap.size 9 i0 (.string ⟨#[]⟩) 1 16 Tryz.underlying30 hi hz0 hzz1 hzz2 rfl (by decide) _ _ _ rfl HO3.out ⟨w2.heap.size, 0, none⟩ 1 1 [.string q] rfl rfl (cell_one w2 (.string q) 9) (by intro u hu; simp at hu; subst hu; rfl) (by unfold maxLen; omega) (by omega) (by simp; omega) ?_; intro v' w3 hown' hgrow hnil; clear hnil; have hb3 : Below w.heap.size w w3 := (hB2.alloc hlw _).grown hgrow (by simp; omega) (fun j hj => (HO3.out.lt j hj).1); have hex : ∃ sa' sc', v' = Value.slice sa' (k + 1) sc' := (by rcases hown'.2 with ⟨_, h0⟩ | ⟨g, cp, cur, hv, _⟩; (focus (omega)); exact ⟨_, _, hv⟩); obtain ⟨sa', sc', rfl⟩ := hex; have HO' : Hid (w3.ownsRow w.heap.size 9 1 (.slice sa' (k + 1) sc') (k + 1) ((ss.take k).map .string ++ [.string q])) := hown'; clear hown' hgrow)
      go_roundw
      case rel => exact ⟨k + 1, sa', sc', by omega, by go_num, rfl, by show World.ownsRow _ _ _ _ _ _ _; rw [← str_take ss k (by have := HSL.out; omega), HQ.out]; exact HO'.out, hb3⟩
      case measure => simp [intOf]; omega
    · obtain rfl : k = ts.length := by omega
      have HOW : Hid (wr.ownsRow w.heap.size 9 1 (.slice sa ts.length sc) ts.length (ss.map .string)) := by have := HO.out; rw [List.take_of_length_le (by have := HSL.out; omega)] at this; exact this
      go_wp2_with fail
      go_ret
      exact ⟨hbr, sa, sc, rfl, HOW.out⟩

set_option maxRecDepth 100000 in
set_option maxHeartbeats 2000000 in
theorem validBlobs_any (a : Option Addr) (cap : Nat) (ts : List ByteArray) (n : Nat) (w : World) (h1 : 1 ≤ n) (h8 : n ≤ 8) (hc : Strs w a ts) (hl : ts.length ≤ 1048576) (hs : ∀ i, (nx ts i).size ≤ maxLen) :
    Calls Tryz.prog 110 #[.slice a ts.length cap, .int .i64 n] w fun e w' => Below w.heap.size w w' ∧ ∃ b, e = .returned (.bool b) ∧ (b = true ↔ TxOk n ts) := by
  have HC : Hid (Strs w a ts) := hc
  have HS : Hid (∀ i, (nx ts i).size ≤ maxLen) := hs
  clear hc hs
  by_cases h2 : 5000 < ts.length
  · have d1 : decide ((5000 : Int) < (ts.length : Int)) = true := by simp; omega
    go_enter Tryz.func110, Tryz.ntmps110
    go_wp2
    go_ret
    exact ⟨Below.refl _ _, false, rfl, iff_no (fun h => by have := h.1; omega)⟩
  · have d1 : decide ((5000 : Int) < (ts.length : Int)) = false := by simp; omega
    go_enter Tryz.func110, Tryz.ntmps110
    go_wp2
    go_loopw [12] (fun i wr => ∃ (k : Nat), k ≤ ts.length ∧ i = .int .i64 k ∧ Hid (∀ i, i < k → (nx ts i).size ≤ 2002) ∧ Below w.heap.size w wr) (fun i _ => ts.length - (intOf i).toNat)
    case atStart => exact ⟨0, Nat.zero_le _, rfl, (fun i hi => by omega : ∀ i, i < 0 → (nx ts i).size ≤ 2002), Below.refl _ _⟩
    case round =>
      obtain ⟨k, hk, rfl, HK, hbr⟩ := hrel
      by_cases hlt : k < ts.length
      · obtain ⟨b, off, rfl, c1⟩ := (HC.out.below hbr) k hlt
        replace c1 : wr.cell? ⟨b, off + k, none⟩ = some (.string (nx ts k)) := c1
        have hsk := HS.out k
        by_cases h3 : 2002 < (nx ts k).size
        · have HN : Hid (¬ TxOk n ts) := fun h => by have := h.2.1 k hlt; omega
          generalize nx ts k = x at *
          have d3 : decide ((2002 : Int) < (x.size : Int)) = true := by simp; omega
          unfold maxLen at hsk
          go_wp2_with fail
          go_ret
          exact ⟨hbr, false, rfl, iff_no HN.out⟩
        · have HK1 : Hid (∀ i, i < k + 1 → (nx ts i).size ≤ 2002) := ext_succ HK.out (by omega)
          generalize nx ts k = x at *
          have d3 : decide ((2002 : Int) < (x.size : Int)) = false := by simp; omega
          unfold maxLen at hsk
          go_wp2_with fail
          go_roundw
          case rel => exact ⟨k + 1, by omega, by go_num, HK1.out, hbr⟩
          case measure => simp [intOf]; omega
      · obtain rfl : k = ts.length := by omega
        have HNT : Hid (ts.length ≤ 5000) := by show ts.length ≤ 5000; omega
        go_wp2_with fail
        refine (sumsOf_any a cap ts n _ h1 h8 (HC.out.below hbr) hl HK.out).mono ?_
        rintro e w2 ⟨hb2, sa, sc, rfl, how⟩
        have HST : Hid (Strs w2 sa (ts.map (sumB n))) := strs_of_own (by rw [List.length_map]) how
        have hls : (ts.map (sumB n)).length ≤ 1048576 := by rw [List.length_map]; exact hl
        have HASC : Hid (∀ W : World, Strs W sa (ts.map (sumB n)) → Calls Tryz.prog 140 #[.slice sa ts.length sc] W fun e w' => Below W.heap.size W w' ∧ ∃ b, e = .returned (.bool b) ∧ (b = true ↔ Asc (ts.map (sumB n)))) := fun W hW => by
          have := ascending_any sa sc (ts.map (sumB n)) W hW hls
          rw [List.length_map] at this
          exact this
        clear how
        go_wp2_with fail
        refine (HASC.out _ HST.out).mono ?_
        rintro e w3 ⟨hb3, b, rfl, hb⟩
        have HB : Hid (b = true ↔ TxOk n ts) := by
          show b = true ↔ TxOk n ts
          rw [hb]
          exact ⟨fun h => ⟨HNT.out, HK.out, h⟩, fun h => h.2.2⟩
        clear hb
        go_wp2
        go_ret
        exact ⟨bt hbr (bt hb2 hb3), b, rfl, HB.out⟩


/-- A store as the valid-store functions are handed it. -/
structure StIn (w : World) (ta : Option Addr) (ts : List ByteArray) (ra : Option Addr) (rs : List T3) : Prop where
  st : Strs w ta ts
  lt : ts.length ≤ 1048576
  xt : ∀ i, (nx ts i).size ≤ maxLen
  qs : QsIn w ra rs
theorem StIn.below {w w' : World} {ta ra : Option Addr} {ts : List ByteArray} {rs : List T3} (h : StIn w ta ts ra rs) (hb : Below w.heap.size w w') : StIn w' ta ts ra rs := ⟨h.st.below hb, h.lt, h.xt, h.qs.below hb⟩
def WdOk (n : Int) (ts : List ByteArray) (rs : List T3) : Prop := 1 ≤ n ∧ n ≤ 8 ∧ StoOk n.toNat ts rs

set_option maxRecDepth 100000 in
set_option maxHeartbeats 2000000 in
theorem implValidStore_any (n : Int) (ta ra : Option Addr) (tc rc : Nat) (ts : List ByteArray) (rs : List T3) (w : World) (hT : Tab w) (h : StIn w ta ts ra rs) :
    Calls Tryz.prog 59 #[.agg #[.int .i64 n, .slice ta ts.length tc, .slice ra rs.length rc]] w fun e w' => Below w.heap.size w w' ∧ ∃ b, e = .returned (.bool b) ∧ (b = true ↔ WdOk n ts rs) := by
  have hb0 : Below w.heap.size w (w.alloc (.cells #[.int .i64 n, .slice ta ts.length tc, .slice ra rs.length rc] 56)) := (Below.refl _ _).alloc (Nat.le_refl _) _
  have k0 : (w.alloc (.cells #[.int .i64 n, .slice ta ts.length tc, .slice ra rs.length rc] 56)).cell? ⟨w.heap.size, 0, none⟩ = some (.int .i64 n) := by simp [go_sem]
  have k2 : (w.alloc (.cells #[.int .i64 n, .slice ta ts.length tc, .slice ra rs.length rc] 56)).cell? ⟨w.heap.size, 2, none⟩ = some (.slice ra rs.length rc) := by simp [go_sem]
  have HI : Hid (StIn w ta ts ra rs) := h
  have HT : Hid (Tab w) := hT
  clear h hT
  by_cases hn : 1 ≤ n ∧ n ≤ 8
  · obtain ⟨m, rfl⟩ := Int.eq_ofNat_of_zero_le (show 0 ≤ n by omega)
    have h1 : 1 ≤ m := by omega
    have h8 : m ≤ 8 := by omega
    have HN : Hid (1 ≤ (m : Int) ∧ (m : Int) ≤ 8) := hn
    clear hn
    go_enter Tryz.func59, Tryz.ntmps59
    go_wp2_with (first | (go_at_call 109; refine (validWidth_yes _ _ (by omega) (by omega)).mono ?_; rintro e w9 ⟨rfl, rfl⟩))
    refine (validBlobs_any ta tc ts m _ h1 h8 (HI.out.st.below hb0) HI.out.lt HI.out.xt).mono ?_
    rintro e w1 ⟨hb1, b, rfl, hb⟩
    have hB1 := bt hb0 hb1
    have k10 := cell_below hb1 k0
    have k12 := cell_below hb1 k2
    rcases b_iff hb with ⟨hg, rfl⟩ | ⟨hg, rfl⟩
    · have HG : Hid (TxOk m ts) := hg
      clear hb hg hb0 hb1 k0 k2
      go_wp2_with fail
      refine (validRecords_any ra rc rs m _ (HT.out.below hB1) h8 (HI.out.qs.below hB1)).mono ?_
      rintro e w2 ⟨hb2, b, rfl, hb⟩
      have HB : Hid (b = true ↔ WdOk m ts rs) := by
        show b = true ↔ WdOk m ts rs
        rw [hb]
        exact ⟨fun h => ⟨HN.out.1, HN.out.2, HG.out, h⟩, fun h => h.2.2.2⟩
      clear hb
      go_wp2
      go_ret
      exact ⟨bt hB1 hb2, b, rfl, HB.out⟩
    · have HG : Hid (¬ WdOk m ts rs) := fun h => hg h.2.2.1
      clear hb hg
      go_wp2
      go_ret
      exact ⟨hB1, false, rfl, iff_no HG.out⟩
  · have hn' : n < 1 ∨ 8 < n := by omega
    have HN : Hid (¬ WdOk n ts rs) := fun h => hn ⟨h.1, h.2.1⟩
    clear hn
    go_enter Tryz.func59, Tryz.ntmps59
    go_wp2_with (first | (go_at_call 109; refine (validWidth_no _ _ hn').mono ?_; rintro e w9 ⟨rfl, rfl⟩))
    go_ret
    exact ⟨hb0, false, rfl, iff_no HN.out⟩

open Go.RowKit
set_option linter.unusedVariables false

theorem asc_step {l : List ByteArray} {k : Nat} (h : ∀ j, 1 ≤ j → j < k → lessB (nx l (j - 1)) (nx l j) = true) (hk : k = 0 ∨ lessB (nx l (k - 1)) (nx l k) = true) : ∀ j, 1 ≤ j → j < k + 1 → lessB (nx l (j - 1)) (nx l j) = true := by
  intro j h1 h2
  rcases Nat.lt_or_ge j k with h3 | h3
  · exact h j h1 h3
  · obtain rfl : j = k := by omega
    rcases hk with hk | hk
    · omega
    · exact hk

set_option maxRecDepth 100000 in
set_option maxHeartbeats 2000000 in
theorem specValidStore_no (n : Int) (ta ra : Option Addr) (tc rc : Nat) (ts : List ByteArray) (rs : List T3) (w : World) (hl : ts.length ≤ 1048576) (hl2 : rs.length ≤ 1048576) (hn : ¬ (1 ≤ n ∧ n ≤ 8) ∨ 5000 < ts.length ∨ 2000 < rs.length) :
    Calls Tryz.prog 52 #[.agg #[.int .i64 n, .slice ta ts.length tc, .slice ra rs.length rc]] w fun e w' => Below w.heap.size w w' ∧ e = .returned (.bool false) := by
  have hb0 : Below w.heap.size w (w.alloc (.cells #[.int .i64 n, .slice ta ts.length tc, .slice ra rs.length rc] 56)) := (Below.refl _ _).alloc (Nat.le_refl _) _
  by_cases h1 : 1 ≤ n ∧ n ≤ 8
  · by_cases h2 : 5000 < ts.length
    · have d1 : decide ((5000 : Int) < (ts.length : Int)) = true := by simp; omega
      go_enter Tryz.func52, Tryz.ntmps52
      go_wp2_with (first | (go_at_call 100; refine (l1Width_yes _ _ (by omega) (by omega)).mono ?_; rintro e w9 ⟨rfl, rfl⟩))
      go_ret
      exact ⟨hb0, rfl⟩
    · have d1 : decide ((5000 : Int) < (ts.length : Int)) = false := by simp; omega
      have d2 : decide ((2000 : Int) < (rs.length : Int)) = true := by simp; omega
      go_enter Tryz.func52, Tryz.ntmps52
      go_wp2_with (first | (go_at_call 100; refine (l1Width_yes _ _ (by omega) (by omega)).mono ?_; rintro e w9 ⟨rfl, rfl⟩))
      go_ret
      exact ⟨hb0, rfl⟩
  · have hn' : n < 1 ∨ 8 < n := by omega
    go_enter Tryz.func52, Tryz.ntmps52
    go_wp2_with (first | (go_at_call 100; refine (l1Width_no _ _ hn').mono ?_; rintro e w9 ⟨rfl, rfl⟩))
    go_ret
    exact ⟨hb0, rfl⟩

set_option maxRecDepth 100000 in
set_option maxHeartbeats 4000000 in
theorem specValidStore_yes (n : Nat) (ta ra : Option Addr) (tc rc : Nat) (ts : List ByteArray) (rs : List T3) (w : World) (h1 : 1 ≤ n) (h8 : n ≤ 8) (hl5 : ts.length ≤ 5000) (hl2 : rs.length ≤ 2000) (h : StIn w ta ts ra rs) :
    Calls Tryz.prog 52 #[.agg #[.int .i64 n, .slice ta ts.length tc, .slice ra rs.length rc]] w fun e w' => Below w.heap.size w w' ∧ ∃ b, e = .returned (.bool b) ∧ (b = true ↔ StoOk n ts rs) := by
  have hb0 : Below w.heap.size w (w.alloc (.cells #[.int .i64 n, .slice ta ts.length tc, .slice ra rs.length rc] 56)) := (Below.refl _ _).alloc (Nat.le_refl _) _
  have x0 : (w.alloc (.cells #[.int .i64 n, .slice ta ts.length tc, .slice ra rs.length rc] 56)).cell? ⟨w.heap.size, 0, none⟩ = some (.int .i64 n) := by simp [go_sem]
  have x1 : (w.alloc (.cells #[.int .i64 n, .slice ta ts.length tc, .slice ra rs.length rc] 56)).cell? ⟨w.heap.size, 1, none⟩ = some (.slice ta ts.length tc) := by simp [go_sem]
  have x2 : (w.alloc (.cells #[.int .i64 n, .slice ta ts.length tc, .slice ra rs.length rc] 56)).cell? ⟨w.heap.size, 2, none⟩ = some (.slice ra rs.length rc) := by simp [go_sem]
  have HI : Hid (StIn w ta ts ra rs) := h
  obtain ⟨ss, ess⟩ : ∃ ss, ts.map (sumB n) = ss := ⟨_, rfl⟩
  have HSL : Hid (ss.length = ts.length) := by show ss.length = ts.length; rw [← ess, List.length_map]
  have HNX : Hid (∀ i, i < ts.length → nx ss i = sumB n (nx ts i)) := fun i h => by rw [← ess]; exact nx_sums n ts i h
  have HAS : Hid (Asc ss ↔ Asc (ts.map (sumB n))) := by show Asc ss ↔ _; rw [ess]
  have d1 : decide ((5000 : Int) < (ts.length : Int)) = false := by simp; omega
  have d2 : decide ((2000 : Int) < (rs.length : Int)) = false := by simp; omega
  clear h ess
  go_enter Tryz.func52, Tryz.ntmps52
  go_wp2_with (first | (go_at_call 100; refine (l1Width_yes _ _ (by omega) (by omega)).mono ?_; rintro e w9 ⟨rfl, rfl⟩))
  go_loopw [3, 4] (fun v i wr => ∃ (k : Nat) (bf : ByteArray), k ≤ ts.length ∧ i = .int .i64 k ∧ v = .string bf ∧ Hid (k = 0 ∨ bf = nx ss (k - 1)) ∧ Hid (∀ i, i < k → (nx ts i).size ≤ 2002) ∧ Hid (∀ j, 1 ≤ j → j < k → lessB (nx ss (j - 1)) (nx ss j) = true) ∧ wr.cell? ⟨w.heap.size, 0, none⟩ = some (.int .i64 n) ∧ wr.cell? ⟨w.heap.size, 1, none⟩ = some (.slice ta ts.length tc) ∧ wr.cell? ⟨w.heap.size, 2, none⟩ = some (.slice ra rs.length rc) ∧ Below w.heap.size w wr) (fun _ i _ => ts.length - (intOf i).toNat)
  case atStart => exact ⟨0, ⟨#[]⟩, Nat.zero_le _, rfl, rfl, Or.inl rfl, (fun i hi => by omega : ∀ i, i < 0 → (nx ts i).size ≤ 2002), (fun j h1 h2 => by omega : ∀ j, 1 ≤ j → j < 0 → lessB (nx ss (j - 1)) (nx ss j) = true), x0, x1, x2, hb0⟩
  case round =>
    obtain ⟨k, bf, hk, rfl, rfl, HBF, HK, HA, y0, y1, y2, hbr⟩ := hrel
    clear x0 x1 x2 hb0
    have hbA : Below wr.heap.size wr wr.drew := (Below.refl _ _).drew
    by_cases hlt : k < ts.length
    · obtain ⟨b, off, rfl, c1⟩ := (HI.out.st.below hbr) k hlt
      replace c1 : wr.cell? ⟨b, off + k, none⟩ = some (.string (nx ts k)) := c1
      have hsk := HI.out.xt k
      have HX : Hid (nx ss k = sumB n (nx ts k)) := HNX.out k hlt
      have hkI : (k : Int) < (ts.length : Int) := by omega
      have hk0 : (0 : Int) ≤ (k : Int) := by omega
      by_cases h3 : 2002 < (nx ts k).size
      · have HN : Hid (¬ StoOk n ts rs) := fun h => by have := h.1.2.1 k hlt; omega
        generalize nx ts k = x at *
        have d3 : decide ((2002 : Int) < (x.size : Int)) = true := by simp; omega
        unfold maxLen at hsk
        go_wp2_with fail
        go_ret
        exact ⟨hbr, false, rfl, iff_no HN.out⟩
      · have HK1 : Hid (∀ i, i < k + 1 → (nx ts i).size ≤ 2002) := ext_succ HK.out (by omega)
        generalize nx ts k = x at *
        have d3 : decide ((2002 : Int) < (x.size : Int)) = false := by simp; omega
        have hx0 : x.size ≤ 1048576 := by omega
        unfold maxLen at hsk
        obtain ⟨q, eq⟩ : ∃ q, sumB n x = q := ⟨_, rfl⟩
        have HSUM : Hid (∀ W : World, Calls Tryz.prog 101 #[.string x, .int .i64 n] W fun e w' => e = .returned (.string q) ∧ Below W.heap.size W w') := fun W => by rw [← eq]; exact specSum_yes x n W hx0 h1 h8
        have HQ : Hid (nx ss k = q) := by show nx ss k = q; rw [HX.out, eq]
        clear eq
        go_wp2_with fail
        go_region_held3 (fun w' => (w'.cell? ⟨w.heap.size, 0, none⟩ = some (.int .i64 n) ∧ w'.cell? ⟨w.heap.size, 1, none⟩ = some (.slice (some ⟨b, off, none⟩) ts.length tc) ∧ w'.cell? ⟨w.heap.size, 2, none⟩ = some (.slice ra rs.length rc)) ∧ w'.cell? ⟨b, off + k, none⟩ = some (.string x))
          (first | assumption | (simp [*]; done) | exact ⟨⟨cell_below hb2 (by simp [*]), cell_below hb2 (by simp [*]), cell_below hb2 (by simp [*])⟩, cell_below hb2 (by simp [*])⟩)
          (first | (go_at_call 101; refine (HSUM.out _).mono ?_; rintro e w2 ⟨rfl, hb2⟩))
        all_goals
          have z0 := cell_below hb2 (cell_below hbA y0)
          have z1 := cell_below hb2 (cell_below hbA y1)
          have z2 := cell_below hb2 (cell_below hbA y2)
          have hB2 := bt hbr (bt hbA hb2)
          clear y0 y1 y2 c1
          by_cases hk1 : k = 0
          · have dk : decide (0 < k) = false := by simp; omega
            have HA1 : Hid (∀ j, 1 ≤ j → j < k + 1 → lessB (nx ss (j - 1)) (nx ss j) = true) := asc_step HA.out (Or.inl hk1)
            clear hk1
            go_wp2_with fail
            go_roundw
            case rel => exact ⟨k + 1, q, by omega, by go_num, rfl, Or.inr (by rw [Nat.add_sub_cancel]; exact HQ.out.symm), HK1.out, HA1.out, z0, z1, z2, hB2⟩
            case measure => simp [intOf]; omega
          · have dk : decide (0 < k) = true := by simp; omega
            have HBE : Hid (nx ss (k - 1) = bf) := by rcases HBF.out with h | h; exact absurd h hk1; exact h.symm
            obtain ⟨v, hv⟩ : ∃ v, lessB bf q = v := ⟨_, rfl⟩
            have HV : Hid (lessB (nx ss (k - 1)) (nx ss k) = v) := by show lessB (nx ss (k - 1)) (nx ss k) = v; rw [HBE.out, HQ.out]; exact hv
            unfold lessB at hv
            have HK1' : Hid (k ≠ 0) := hk1
            clear hk1
            cases v
            · have HN : Hid (¬ StoOk n ts rs) := fun h => by
                have h3 := (HAS.out.mpr h.1.2.2) k (by have := HK1'.out; omega) (by have := HSL.out; omega)
                rw [HV.out] at h3
                cases h3
              go_wp2_with fail
              go_ret
              exact ⟨hB2, false, rfl, iff_no HN.out⟩
            · have HA1 : Hid (∀ j, 1 ≤ j → j < k + 1 → lessB (nx ss (j - 1)) (nx ss j) = true) := asc_step HA.out (Or.inr HV.out)
              go_wp2_with fail
              go_roundw
              case rel => exact ⟨k + 1, q, by omega, by go_num, rfl, Or.inr (by rw [Nat.add_sub_cancel]; exact HQ.out.symm), HK1.out, HA1.out, z0, z1, z2, hB2⟩
              case measure => simp [intOf]; omega
    · have HTX : Hid (TxOk n ts) := ⟨hl5, fun i hi => HK.out i (by omega), HAS.out.mp (fun j hj1 hj2 => HA.out j hj1 (by have := HSL.out; omega))⟩
      clear HK HA HBF
      go_wp2_with fail
      go_loopw [6] (fun i wq => ∃ (m : Nat), m ≤ rs.length ∧ i = .int .i64 m ∧ Hid (∀ i, i < m → RcOk n (qx rs i)) ∧ wq.cell? ⟨w.heap.size, 0, none⟩ = some (.int .i64 n) ∧ wq.cell? ⟨w.heap.size, 2, none⟩ = some (.slice ra rs.length rc) ∧ Below w.heap.size w wq) (fun i _ => rs.length - (intOf i).toNat)
      case atStart => exact ⟨0, Nat.zero_le _, rfl, (fun i hi => by omega : ∀ i, i < 0 → RcOk n (qx rs i)), y0, y2, hbr⟩
      case round =>
        clear y0 y1 y2 hbr hbA
        obtain ⟨m, hm, rfl, HK, y0, y2, hbr⟩ := hrel
        by_cases hlt2 : m < rs.length
        · have hq := HI.out.qs.below hbr
          obtain ⟨b, off, rfl, ca, cc, la, lc, c1, c2, c3, c4, c5⟩ := hq.rq m hlt2
          have hin : RcIn _ ca (qx rs m).code la (qx rs m).looks := ⟨c4, c5, (hq.sm.2 m hlt2).1, (hq.sm.2 m hlt2).2, hq.ok.xc m, hq.ok.ng m, hq.ok.sg m⟩
          have hou := hq.ok.so m
          have HG1 : Hid (RcOk n (qx rs m) → ∀ i, i < m + 1 → RcOk n (qx rs i)) := fun hg => ext_succ HK.out hg
          have HG0 : Hid (¬ RcOk n (qx rs m) → ¬ StoOk n ts rs) := fun hg h => hg (h.2.2 m hlt2)
          clear hq c4 c5
          generalize qx rs m = x at *
          obtain ⟨xc, xl, xo⟩ := x
          simp only at *
          have hkI : (m : Int) < (rs.length : Int) := by omega
          have hk0 : (0 : Int) ≤ (m : Int) := by omega
          have HRC : Hid (∀ W : World, Below wr.heap.size wr W → Calls Tryz.prog 53 #[.agg #[.slice ca xc.length cc, .slice la xl.length lc, .string xo], .int .i64 n] W fun e w' => Below W.heap.size W w' ∧ ∃ b, e = .returned (.bool b) ∧ (b = true ↔ RcOk n ⟨xc, xl, xo⟩)) := fun W hW => l4RecordOk_any ca la cc lc xc xl xo n W h8 ⟨hin.rc.below hW, hin.rg.below hW, hin.lc, hin.lg, hin.xc, hin.ng, hin.sg⟩ hou
          clear hin
          by_cases hx : RcOk n ⟨xc, xl, xo⟩
          · have HO : Hid (∀ i, i < m + 1 → RcOk n (qx rs i)) := HG1.out hx
            have HRX : Hid (∀ W : World, Below wr.heap.size wr W → Calls Tryz.prog 53 #[.agg #[.slice ca xc.length cc, .slice la xl.length lc, .string xo], .int .i64 n] W fun e w' => Below W.heap.size W w' ∧ e = .returned (.bool true)) := fun W hW => (HRC.out W hW).mono (fun e w' ⟨h1, b, h2, h3⟩ => ⟨h1, by rw [h2]; rcases b_iff h3 with ⟨hg, rfl⟩ | ⟨hg, rfl⟩ <;> first | rfl | exact absurd hx hg | exact absurd hg hx⟩)
            clear HRC
            have hbA : Below wr.heap.size wr wr.drew := (Below.refl _ _).drew
            go_wp2_with fail
            go_region_held3 (fun w' => (w'.cell? ⟨w.heap.size, 0, none⟩ = some (.int .i64 n) ∧ w'.cell? ⟨w.heap.size, 2, none⟩ = some (.slice (some ⟨b, off, none⟩) rs.length rc)) ∧ (w'.cell? ⟨b, off + m * 3, none⟩ = some (.slice ca xc.length cc) ∧ w'.cell? ⟨b, off + m * 3 + 1, none⟩ = some (.slice la xl.length lc) ∧ w'.cell? ⟨b, off + m * 3 + 2, none⟩ = some (.string xo)))
              (first | assumption | (simp [*]; done) | exact ⟨⟨cell_below hb2 (by simp [*]), cell_below hb2 (by simp [*])⟩, cell_below hb2 (by simp [*]), cell_below hb2 (by simp [*]), cell_below hb2 (by simp [*])⟩)
              (first | (go_at_call 53; refine (HRX.out _ hbA).mono ?_; rintro e w2 ⟨hb2, rfl⟩))
            all_goals
              have z0 := cell_below hb2 (cell_below hbA y0)
              have z2 := cell_below hb2 (cell_below hbA y2)
              have hB2 := bt hbr (bt hbA hb2)
              clear y0 y2 c1 c2 c3
              go_wp2_with fail
              go_roundw
              case rel => exact ⟨m + 1, by omega, by go_num, HO.out, z0, z2, hB2⟩
              case measure => simp [intOf]; omega
          · have HO : Hid (¬ StoOk n ts rs) := HG0.out hx
            have HRX : Hid (∀ W : World, Below wr.heap.size wr W → Calls Tryz.prog 53 #[.agg #[.slice ca xc.length cc, .slice la xl.length lc, .string xo], .int .i64 n] W fun e w' => Below W.heap.size W w' ∧ e = .returned (.bool false)) := fun W hW => (HRC.out W hW).mono (fun e w' ⟨h1, b, h2, h3⟩ => ⟨h1, by rw [h2]; rcases b_iff h3 with ⟨hg, rfl⟩ | ⟨hg, rfl⟩ <;> first | rfl | exact absurd hx hg | exact absurd hg hx⟩)
            clear HRC
            have hbA : Below wr.heap.size wr wr.drew := (Below.refl _ _).drew
            go_wp2_with fail
            go_region_held3 (fun w' => (w'.cell? ⟨w.heap.size, 0, none⟩ = some (.int .i64 n) ∧ w'.cell? ⟨w.heap.size, 2, none⟩ = some (.slice (some ⟨b, off, none⟩) rs.length rc)) ∧ (w'.cell? ⟨b, off + m * 3, none⟩ = some (.slice ca xc.length cc) ∧ w'.cell? ⟨b, off + m * 3 + 1, none⟩ = some (.slice la xl.length lc) ∧ w'.cell? ⟨b, off + m * 3 + 2, none⟩ = some (.string xo)))
              (first | assumption | (simp [*]; done) | exact ⟨⟨cell_below hb2 (by simp [*]), cell_below hb2 (by simp [*])⟩, cell_below hb2 (by simp [*]), cell_below hb2 (by simp [*]), cell_below hb2 (by simp [*])⟩)
              (first | (go_at_call 53; refine (HRX.out _ hbA).mono ?_; rintro e w2 ⟨hb2, rfl⟩))
            all_goals
              have z0 := cell_below hb2 (cell_below hbA y0)
              have z2 := cell_below hb2 (cell_below hbA y2)
              have hB2 := bt hbr (bt hbA hb2)
              clear y0 y2 c1 c2 c3
              go_wp2_with fail
              go_ret
              exact ⟨hB2, false, rfl, iff_no HO.out⟩
        · have HO : Hid (StoOk n ts rs) := ⟨HTX.out, hl2, fun i hi => HK.out i (by omega)⟩
          go_wp2_with fail
          go_ret
          exact ⟨hbr, true, rfl, iff_yes HO.out⟩

open Go.RowKit
set_option linter.unusedVariables false

/-- The hypotheses on a store that its reading gives. -/
structure SoOk (w : World) (ta : Option Addr) (ts : List ByteArray) (ra : Option Addr) (rs : List T3) : Prop where
  st : Strs w ta ts
  lt : ts.length ≤ maxLen
  xt : ∀ s ∈ ts, s.size ≤ maxLen
  rq : RowQ w ra rs
  ok : QsOk rs
theorem SoOk.below {w w' : World} {ta ra : Option Addr} {ts : List ByteArray} {rs : List T3} (h : SoOk w ta ts ra rs) (hb : Below w.heap.size w w') : SoOk w' ta ts ra rs := ⟨h.st.below hb, h.lt, h.xt, h.rq.below hb, h.ok⟩

set_option maxHeartbeats 1000000 in
theorem szStore_any (n : Int) (ta ra : Option Addr) (tc rc : Nat) (ts : List ByteArray) (rs : List T3) (w : World) (h : SoOk w ta ts ra rs) :
    Calls Tryz.prog 15 #[.agg #[.int .i64 n, .slice ta ts.length tc, .slice ra rs.length rc], .int .i64 1048576] w fun e w' => Below w.heap.size w w' ∧ ∃ r : Int, e = .returned (.int .i64 r) ∧ (r < 0 ∨ (0 ≤ r ∧ ts.length ≤ 1048576 ∧ QsSmall rs)) := by
  have hb0 : Below w.heap.size w (w.alloc (.cells #[.int .i64 n, .slice ta ts.length tc, .slice ra rs.length rc] 44)) := (Below.refl _ _).alloc (Nat.le_refl _) _
  have k2 : (w.alloc (.cells #[.int .i64 n, .slice ta ts.length tc, .slice ra rs.length rc] 44)).cell? ⟨w.heap.size, 2, none⟩ = some (.slice ra rs.length rc) := by simp [go_sem]
  have HO : Hid (SoOk w ta ts ra rs) := h
  clear h
  go_enter Tryz.func15, Tryz.ntmps15
  go_wp2_with fail
  refine (szStringS_any ta tc ts _ (HO.out.st.below hb0) HO.out.lt HO.out.xt 1048576 (by omega) (by omega)).mono ?_
  rintro e w1 ⟨rfl, r, rfl, hr⟩
  rcases hr with hr | ⟨h1, hr0, hr1⟩
  · go_wp2
    go_ret
    exact ⟨hb0, -1, rfl, Or.inl (by omega)⟩
  · have hlt : ts.length ≤ 1048576 := by omega
    go_wp2_with fail
    refine (szRecordS_any ra rc rs r _ hr0 hr1 (HO.out.rq.below hb0) HO.out.ok).mono ?_
    rintro e w2 ⟨hb2, r2, rfl, hr2⟩
    have hB2 := bt hb0 hb2
    clear hb0 hb2 k2
    rcases hr2 with hr2 | ⟨hr2, hq⟩
    · go_wp2
      go_ret
      exact ⟨hB2, -1, rfl, Or.inl (by omega)⟩
    · have HQ : Hid (QsSmall rs) := hq
      clear hq
      go_wp2
      go_ret
      exact ⟨hB2, r2, rfl, Or.inr ⟨by omega, hlt, HQ.out⟩⟩

set_option maxHeartbeats 2000000 in
theorem toStore_any (n : Int) (ta ra : Option Addr) (tc rc : Nat) (ts : List ByteArray) (rs : List T3) (w : World) (st : Strs w ta ts) (rq : RowQ w ra rs) (hl : ts.length ≤ 1048576) (hq : QsSmall rs) :
    Calls Tryz.prog 18 #[.agg #[.int .i64 n, .slice ta ts.length tc, .slice ra rs.length rc]] w fun e w' => Below w.heap.size w w' ∧ ∃ g1 g2 : Nat, e = .returned (.agg #[.int .i64 n, .slice (some ⟨g1, 0, none⟩) ts.length ts.length, .slice (some ⟨g2, 0, none⟩) rs.length rs.length]) ∧ Strs w' (some ⟨g1, 0, none⟩) ts ∧ RowQ w' (some ⟨g2, 0, none⟩) rs := by
  have HST : Hid (Strs w ta ts) := st
  have HRQ : Hid (RowQ w ra rs) := rq
  have HQS : Hid (QsSmall rs) := hq
  clear st rq hq
  go_enter Tryz.func18, Tryz.ntmps18
  go_wp2_with fail
  have hb0 : Below w.heap.size w (((w.alloc (.cells #[.int .i64 n, .slice ta ts.length tc, .slice ra rs.length rc] 44)).alloc (.cells #[.int .i64 0, .slice none 0 0, .slice none 0 0] 56)).alloc (.cells #[.int .i64 n, .slice none 0 0, .slice none 0 0] 56)) := (((Below.refl _ _).alloc (Nat.le_refl _) _).alloc (by simp) _).alloc (by simp; omega) _
  refine (toStringS_any ta tc ts _ (HST.out.below hb0) hl).mono ?_
  rintro e w1 ⟨hb1, g, rfl, hg, hr⟩
  simp at hg
  have hb : Below w.heap.size w w1 := hb0.trans (hb1.mono hb0.size)
  have hz := hb1.size
  simp at hz
  have c02 : w1.cell? ⟨w.heap.size, 2, none⟩ = some (.slice ra rs.length rc) := cell_below hb1 (by simp [go_sem])
  have c10 : w1.cell? ⟨w.heap.size + 1, 0, none⟩ = some (.int .i64 0) := cell_below hb1 (by simp [go_sem])
  have c11 : w1.cell? ⟨w.heap.size + 1, 1, none⟩ = some (.slice none 0 0) := cell_below hb1 (by simp [go_sem])
  have c12 : w1.cell? ⟨w.heap.size + 1, 2, none⟩ = some (.slice none 0 0) := cell_below hb1 (by simp [go_sem])
  have c20 : w1.cell? ⟨w.heap.size + 1 + 1, 0, none⟩ = some (.int .i64 n) := cell_below hb1 (by simp [go_sem])
  have c21 : w1.cell? ⟨w.heap.size + 1 + 1, 1, none⟩ = some (.slice none 0 0) := cell_below hb1 (by simp [go_sem])
  have c22 : w1.cell? ⟨w.heap.size + 1 + 1, 2, none⟩ = some (.slice none 0 0) := cell_below hb1 (by simp [go_sem])
  have f1 : ∀ j, w1.frozen? ⟨w.heap.size + 1, j, none⟩ = false := fun j => by rw [hb1.frozen (p := ⟨w.heap.size + 1, j, none⟩) (by simp)]; simp [go_sem]
  have f2 : ∀ j, w1.frozen? ⟨w.heap.size + 1 + 1, j, none⟩ = false := fun j => by rw [hb1.frozen (p := ⟨w.heap.size + 1 + 1, j, none⟩) (by simp)]; simp [go_sem]
  clear hb0 hb1
  go_wp2_with fail
  have hbs : Below w.heap.size w (w1.setCell ⟨w.heap.size + 1 + 1, 1, none⟩ (.slice (some ⟨g, 0, none⟩) ts.length ts.length)) := hb.setCell (p := ⟨w.heap.size + 1 + 1, 1, none⟩) (by simp; omega) _
  refine (toRecordS_any ra rc rs _ (HRQ.out.below hbs) HQS.out).mono ?_
  rintro e w2 ⟨hb2, g2, rfl, hr2⟩
  have hb3 : Below w.heap.size w w2 := hbs.trans (hb2.mono hbs.size)
  have hrs := (hr.setCell (b := w.heap.size + 1 + 1) (j := 1) (by omega) (.slice (some ⟨g, 0, none⟩) ts.length ts.length)).below hb2
  have hz2 := hb2.size
  simp at hz2
  simp at hr2
  have d10 : w2.cell? ⟨w.heap.size + 1, 0, none⟩ = some (.int .i64 0) := cell_below hb2 (by simp [go_sem, c10])
  have d11 : w2.cell? ⟨w.heap.size + 1, 1, none⟩ = some (.slice none 0 0) := cell_below hb2 (by simp [go_sem, c11])
  have d12 : w2.cell? ⟨w.heap.size + 1, 2, none⟩ = some (.slice none 0 0) := cell_below hb2 (by simp [go_sem, c12])
  have d20 : w2.cell? ⟨w.heap.size + 1 + 1, 0, none⟩ = some (.int .i64 n) := cell_below hb2 (by simp [go_sem, c20])
  have d21 : w2.cell? ⟨w.heap.size + 1 + 1, 1, none⟩ = some (.slice (some ⟨g, 0, none⟩) ts.length ts.length) := cell_below hb2 (by simp [go_sem, c21])
  have d22 : w2.cell? ⟨w.heap.size + 1 + 1, 2, none⟩ = some (.slice none 0 0) := cell_below hb2 (by simp [go_sem, c22])
  have e1 : ∀ j, w2.frozen? ⟨w.heap.size + 1, j, none⟩ = false := fun j => by rw [hb2.frozen (p := ⟨w.heap.size + 1, j, none⟩) (by simp; omega)]; simp [go_sem, f1]
  have e2 : ∀ j, w2.frozen? ⟨w.heap.size + 1 + 1, j, none⟩ = false := fun j => by rw [hb2.frozen (p := ⟨w.heap.size + 1 + 1, j, none⟩) (by simp; omega)]; simp [go_sem, f2]
  clear hb2 hbs hb c02 c10 c11 c12 c20 c21 c22 f1 f2 hr
  go_wp2
  refine bodyPost_ret (v := .agg #[.int .i64 n, .slice (some ⟨g, 0, none⟩) ts.length ts.length, .slice (some ⟨g2, 0, none⟩) rs.length rs.length]) (by simp [results, Tryz.results18, go_sem, d10, d11, d12]) rfl ⟨?_, g, g2, rfl, ?_, ?_⟩
  · exact (((hb3.setCell (p := ⟨w.heap.size + 1 + 1, 2, none⟩) (by simp; omega) _).setCell (p := ⟨w.heap.size + 1, 0, none⟩) (by simp) _).setCell (p := ⟨w.heap.size + 1, 1, none⟩) (by simp) _).setCell (p := ⟨w.heap.size + 1, 2, none⟩) (by simp) _
  · exact (((hrs.setCell (by omega) _).setCell (by omega) _).setCell (by omega) _).setCell (by omega) _
  · exact ((((hr2.setCell (by omega) _).setCell (by omega) _).setCell (by omega) _).setCell (by omega) _).row

set_option maxHeartbeats 1000000 in
theorem eqStore_same (n : Int) (ta ra ta' ra' : Option Addr) (tc rc tc' rc' : Nat) (ts : List ByteArray) (rs : List T3) (w : World) (st : Strs w ta ts) (st' : Strs w ta' ts) (rq : RowQ w ra rs) (rq' : RowQ w ra' rs) (hl : ts.length ≤ 1048576) (hq : QsSmall rs) :
    Calls Tryz.prog 21 #[.agg #[.int .i64 n, .slice ta ts.length tc, .slice ra rs.length rc], .agg #[.int .i64 n, .slice ta' ts.length tc', .slice ra' rs.length rc']] w fun e w' => Below w.heap.size w w' ∧ e = .returned (.bool true) := by
  have HST : Hid (Strs w ta ts) := st
  have HRQ : Hid (RowQ w ra rs) := rq
  have HST' : Hid (Strs w ta' ts) := st'
  have HRQ' : Hid (RowQ w ra' rs) := rq'
  have HQS : Hid (QsSmall rs) := hq
  clear st rq st' rq' hq
  have hb0 : Below w.heap.size w ((w.alloc (.cells #[.int .i64 n, .slice ta ts.length tc, .slice ra rs.length rc] 56)).alloc (.cells #[.int .i64 n, .slice ta' ts.length tc', .slice ra' rs.length rc'] 56)) := ((Below.refl _ _).alloc (Nat.le_refl _) _).alloc (by simp) _
  have k1 : ((w.alloc (.cells #[.int .i64 n, .slice ta ts.length tc, .slice ra rs.length rc] 56)).alloc (.cells #[.int .i64 n, .slice ta' ts.length tc', .slice ra' rs.length rc'] 56)).cell? ⟨w.heap.size, 2, none⟩ = some (.slice ra rs.length rc) := by simp [go_sem]
  have k2 : ((w.alloc (.cells #[.int .i64 n, .slice ta ts.length tc, .slice ra rs.length rc] 56)).alloc (.cells #[.int .i64 n, .slice ta' ts.length tc', .slice ra' rs.length rc'] 56)).cell? ⟨w.heap.size + 1, 2, none⟩ = some (.slice ra' rs.length rc') := by simp [go_sem]
  go_enter Tryz.func21, Tryz.ntmps21
  go_wp2_with fail
  refine (eqStringS_same ta ta' tc tc' ts _ (HST.out.below hb0) (HST'.out.below hb0) hl).mono ?_
  rintro e w1 ⟨hb1, rfl⟩
  have hB1 := bt hb0 hb1
  have k11 := cell_below hb1 k1
  have k12 := cell_below hb1 k2
  clear hb0 hb1 k1 k2
  go_wp2_with fail
  refine (eqRecordS_same ra ra' rc rc' rs _ (HRQ.out.below hB1) (HRQ'.out.below hB1) HQS.out).mono ?_
  rintro e w2 ⟨hb2, rfl⟩
  go_wp2
  go_ret
  exact ⟨bt hB1 hb2, rfl⟩

theorem specValidStore_any (n : Int) (ta ra : Option Addr) (tc rc : Nat) (ts : List ByteArray) (rs : List T3) (w : World) (h : StIn w ta ts ra rs) :
    Calls Tryz.prog 52 #[.agg #[.int .i64 n, .slice ta ts.length tc, .slice ra rs.length rc]] w fun e w' => Below w.heap.size w w' ∧ ∃ b, e = .returned (.bool b) ∧ (b = true ↔ WdOk n ts rs) := by
  by_cases hc : (1 ≤ n ∧ n ≤ 8) ∧ ts.length ≤ 5000 ∧ rs.length ≤ 2000
  · obtain ⟨m, rfl⟩ := Int.eq_ofNat_of_zero_le (show 0 ≤ n by omega)
    refine (specValidStore_yes m ta ra tc rc ts rs w (by omega) (by omega) hc.2.1 hc.2.2 h).mono fun e w' ⟨h1, b, h2, h3⟩ => ⟨h1, b, h2, ?_⟩
    rw [h3]
    exact ⟨fun k => ⟨hc.1.1, hc.1.2, k⟩, fun k => k.2.2⟩
  · refine (specValidStore_no n ta ra tc rc ts rs w h.lt h.qs.sm.1 (by omega)).mono fun e w' ⟨h1, h2⟩ => ⟨h1, false, h2, iff_no (fun k => hc ⟨⟨k.1, k.2.1⟩, k.2.2.1.1, k.2.2.2.1⟩)⟩

theorem SoOk.xn {w : World} {ta ra : Option Addr} {ts : List ByteArray} {rs : List T3} (h : SoOk w ta ts ra rs) (i : Nat) : (nx ts i).size ≤ maxLen := getD_le h.xt i

end Go.Proofs.YtmpgajfccaoboaeGreatDoor
