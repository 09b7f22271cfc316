/-
  impl.validBlobs, validRecords, ValidStore.
-/
import Derived.Test.YtmpgajfccaoboacDoorStVaR
namespace Go.Proofs.YtmpgajfccaoboacDoor
open Go.RowKit
set_option linter.unusedVariables false

/-- Records as the valid-store functions are handed them. -/
structure QsIn (w : World) (a : Option Addr) (rs : List T3) : Prop where
  rq : RowQ w a rs
  ok : QsOk rs
  sm : QsSmall rs
theorem QsIn.below {w w' : World} {a : Option Addr} {rs : List T3} (h : QsIn w a rs) (hb : Below w.heap.size w w') : QsIn w' a rs := ⟨h.rq.below hb, h.ok, h.sm⟩

set_option maxHeartbeats 2000000 in
theorem validRecords_any (a : Option Addr) (cap : Nat) (rs : List T3) (n : Nat) (w : World) (hT : Tab w) (h8 : n ≤ 8) (h : QsIn w a rs) :
    Calls Tryd.prog 53 #[.slice a rs.length cap, .int .i64 n] w fun e w' => Below w.heap.size w w' ∧ ∃ b, e = .returned (.bool b) ∧ (b = true ↔ rs.length ≤ 2000 ∧ ∀ i, i < rs.length → RcOk n (qx rs i)) := by
  have hl := h.sm.1
  have HQ : Hid (QsIn w a rs) := h
  have HT : Hid (Tab w) := hT
  clear h hT
  by_cases h1 : 2000 < rs.length
  · have d1 : decide ((2000 : Int) < (rs.length : Int)) = true := by simp; omega
    go_enter Tryd.func53, Tryd.ntmps53
    go_wp2
    go_ret
    exact ⟨Below.refl _ _, false, rfl, iff_no (fun h => by omega)⟩
  · have d1 : decide ((2000 : Int) < (rs.length : Int)) = false := by simp; omega
    go_enter Tryd.func53, Tryd.ntmps53
    go_wp2
    go_loopw [12] (fun i wr => ∃ k : Nat, k ≤ rs.length ∧ i = .int .i64 k ∧ Hid (∀ i, i < k → RcOk n (qx rs i)) ∧ Below w.heap.size w wr) (fun i _ => rs.length - (intOf i).toNat)
    case atStart => exact ⟨0, Nat.zero_le _, rfl, (fun i hi => by omega : ∀ i, i < 0 → RcOk n (qx rs i)), Below.refl _ _⟩
    case round =>
      obtain ⟨k, hk, rfl, HK, hbr⟩ := hrel
      by_cases hlt : k < rs.length
      · have hq := HQ.out.below hbr
        obtain ⟨b, off, rfl, ca, cc, la, lc, c1, c2, c3, c4, c5⟩ := hq.rq k hlt
        have hin : RcIn wr ca (qx rs k).code la (qx rs k).looks := ⟨c4, c5, (hq.sm.2 k hlt).1, (hq.sm.2 k hlt).2, hq.ok.xc k, hq.ok.ng k, hq.ok.sg k⟩
        have hou := hq.ok.so k
        have HG1 : Hid (RcOk n (qx rs k) → ∀ i, i < k + 1 → RcOk n (qx rs i)) := fun hg => ext_succ HK.out hg
        have HG0 : Hid (¬ RcOk n (qx rs k) → ¬ (rs.length ≤ 2000 ∧ ∀ i, i < rs.length → RcOk n (qx rs i))) := fun hg h => hg (h.2 k hlt)
        clear hq c4 c5
        generalize qx rs k = x at *
        obtain ⟨xc, xl, xo⟩ := x
        simp only at *
        have HIN : Hid (RcIn wr ca xc la xl) := hin
        clear hin
        have hb0 : Below wr.heap.size wr (wr.alloc (.cells #[.slice ca xc.length cc, .slice la xl.length lc, .string xo] 73)) := (Below.refl _ _).alloc (Nat.le_refl _) _
        have hin2 : RcIn (wr.alloc (.cells #[.slice ca xc.length cc, .slice la xl.length lc, .string xo] 73)) ca xc la xl := ⟨HIN.out.rc.below hb0, HIN.out.rg.below hb0, HIN.out.lc, HIN.out.lg, HIN.out.xc, HIN.out.ng, HIN.out.sg⟩
        have HI2 : Hid (RcIn (wr.alloc (.cells #[.slice ca xc.length cc, .slice la xl.length lc, .string xo] 73)) ca xc la xl) := hin2
        clear hin2
        go_wp2_with fail
        refine (validRecord_any ca la cc lc xc xl xo n _ ((HT.out.below hbr).below hb0) h8 HI2.out hou).mono ?_
        rintro e w2 ⟨hb2, b, rfl, hb⟩
        have hB2 := bt hbr (bt hb0 hb2)
        rcases b_iff hb with ⟨hg, rfl⟩ | ⟨hg, rfl⟩
        · have HO : Hid (∀ i, i < k + 1 → RcOk n (qx rs i)) := HG1.out hg
          clear hb hg hb0 hb2
          go_wp2
          go_roundw
          case rel => exact ⟨k + 1, by omega, by go_num, HO.out, hB2⟩
          case measure => simp [intOf]; omega
        · have HO : Hid (¬ (rs.length ≤ 2000 ∧ ∀ i, i < rs.length → RcOk n (qx rs i))) := HG0.out hg
          clear hb hg hb0 hb2
          go_wp2
          go_ret
          exact ⟨hB2, false, rfl, iff_no HO.out⟩
      · go_wp2
        go_ret
        exact ⟨hbr, true, rfl, iff_yes ⟨by omega, fun i hi => HK.out i (by omega)⟩⟩

theorem str_take (l : List ByteArray) (k : Nat) (h : k < l.length) : (l.take k).map Value.string ++ [.string (nx l k)] = (l.take (k + 1)).map Value.string := by
  rw [List.take_succ_eq_append_getElem h, List.map_append]
  unfold nx
  rw [List.getD_eq_getElem?_getD, List.getElem?_eq_getElem h]
  rfl
theorem strs_of_own {w : World} {B n cap : Nat} {a : Option Addr} {ss : List ByteArray} (hn : n = ss.length) (h : w.ownsRow B 9 1 (.slice a n cap) n (ss.map .string)) : Strs w a ss := by
  subst hn
  intro i hi
  rcases h.2 with ⟨hv, h0⟩ | ⟨g, cap', cur, hv, _⟩
  · omega
  · simp only [Value.slice.injEq] at hv
    obtain ⟨rfl, _, _⟩ := hv
    refine ⟨g, 0, rfl, ?_⟩
    rw [Nat.zero_add, h.cellAt i (by omega), List.getElem?_map, List.getElem?_eq_getElem hi, List.getD_eq_getElem?_getD, List.getElem?_eq_getElem hi]
    rfl
theorem Tryd.info9b : (Tryd.prog.info? 9).map (fun i => (i.zero, i.size, i.bytes)) = some (some (.string ⟨#[]⟩), 1, 16) := by kernel_rfl
theorem cell_one (w : World) (v : Value) (ty : TypeId) : ∀ j u, [v][j]? = some u → (w.alloc (.cells #[v] ty)).cell? ((⟨w.heap.size, 0, none⟩ : Addr).add j) = some u := by
  intro j u hu
  cases j with
  | zero => simp at hu; subst hu; simp [go_sem, Addr.add]
  | succ j => simp at hu

set_option maxRecDepth 100000 in
set_option maxHeartbeats 2000000 in
theorem sumsOf_any (a : Option Addr) (cap : Nat) (ts : List ByteArray) (n : Nat) (w : World) (h1 : 1 ≤ n) (h8 : n ≤ 8) (hc : Strs w a ts) (hl : ts.length ≤ 1048576) (hs : ∀ i, i < ts.length → (nx ts i).size ≤ 2002) :
    Calls Tryd.prog 106 #[.slice a ts.length cap, .int .i64 n] w fun e w' => Below w.heap.size w w' ∧ ∃ sa sc, e = .returned (.slice sa ts.length sc) ∧ w'.ownsRow w.heap.size 9 1 (.slice sa ts.length sc) ts.length ((ts.map (sumB n)).map .string) := by
  have HC : Hid (Strs w a ts) := hc
  have HS : Hid (∀ i, i < ts.length → (nx ts i).size ≤ 2002) := hs
  clear hc hs
  obtain ⟨i0, hi, hz0, hzz1, hzz2⟩ := info_parts Tryd.info9b
  obtain ⟨ss, ess⟩ : ∃ ss, ts.map (sumB n) = ss := ⟨_, rfl⟩
  have HSL : Hid (ss.length = ts.length) := by show ss.length = ts.length; rw [← ess, List.length_map]
  have HNX : Hid (∀ i, i < ts.length → nx ss i = sumB n (nx ts i)) := fun i h => by rw [← ess]; exact nx_sums n ts i h
  rw [ess]
  clear ess
  go_enter Tryd.func106, Tryd.ntmps106
  go_wp2
  go_loopw [5, 10] (fun v i wr => ∃ (k : Nat) (sa : Option Addr) (sc : Nat), k ≤ ts.length ∧ i = .int .i64 k ∧ v = .slice sa k sc ∧ Hid (wr.ownsRow w.heap.size 9 1 (.slice sa k sc) k ((ss.take k).map .string)) ∧ Below w.heap.size w wr) (fun _ i _ => ts.length - (intOf i).toNat)
  case atStart => exact ⟨0, none, 0, Nat.zero_le _, rfl, rfl, World.ownsRow_nil _ _ _ _, Below.refl _ _⟩
  case round =>
    obtain ⟨k, sa, sc, hk, rfl, rfl, HO, hbr⟩ := hrel
    by_cases hlt : k < ts.length
    · obtain ⟨b, off, rfl, c1⟩ := (HC.out.below hbr) k hlt
      replace c1 : wr.cell? ⟨b, off + k, none⟩ = some (.string (nx ts k)) := c1
      have hsk := HS.out k hlt
      have HX : Hid (nx ss k = sumB n (nx ts k)) := HNX.out k hlt
      generalize nx ts k = x at *
      have hx0 : x.size ≤ 1048576 := by omega
      go_wp2_with fail
      refine (implSum_yes x n _ hx0 h1 h8).mono ?_
      rintro e w2 ⟨rfl, hb2⟩
      obtain ⟨q, eq⟩ : ∃ q, (⟨(digs (hash x.data.toList) n).toArray⟩ : ByteArray) = q := ⟨_, rfl⟩
      rw [eq]
      have HQ : Hid (nx ss k = q) := by show nx ss k = q; rw [HX.out, ← eq]; rfl
      have hown2 := ownsRow_below HO.out hb2
      have hown3 := hown2.alloc (.cells #[.string q] 9)
      have hB2 := bt hbr hb2
      have HO3 : Hid ((w2.alloc (.cells #[.string q] 9)).ownsRow w.heap.size 9 1 (.slice sa k sc) k ((ss.take k).map .string)) := hown3
      have hlw : w.heap.size ≤ w2.heap.size := hB2.size
      clear eq hown2 hown3 hb2
      go_wp2_with (at_builtin; refine wpList_append_own _ rfl (.tmp 14) (.tmp 18) 22 rfl w.heap.size 9 i0 (.string ⟨#[]⟩) 1 16 Tryd.underlying22 hi hz0 hzz1 hzz2 rfl (by decide) _ _ _ rfl HO3.out ⟨w2.heap.size, 0, none⟩ 1 1 [.string q] rfl rfl (cell_one w2 (.string q) 9) (by intro u hu; simp at hu; subst hu; rfl) (by unfold maxLen; omega) (by omega) (by simp; omega) ?_; intro v' w3 hown' hgrow hnil; clear hnil; have hb3 : Below w.heap.size w w3 := (hB2.alloc hlw _).grown hgrow (by simp; omega) (fun j hj => (HO3.out.lt j hj).1); have hex : ∃ sa' sc', v' = Value.slice sa' (k + 1) sc' := (by rcases hown'.2 with ⟨_, h0⟩ | ⟨g, cp, cur, hv, _⟩; (focus (omega)); exact ⟨_, _, hv⟩); obtain ⟨sa', sc', rfl⟩ := hex; have HO' : Hid (w3.ownsRow w.heap.size 9 1 (.slice sa' (k + 1) sc') (k + 1) ((ss.take k).map .string ++ [.string q])) := hown'; clear hown' hgrow)
      go_roundw
      case rel => exact ⟨k + 1, sa', sc', by omega, by go_num, rfl, by show World.ownsRow _ _ _ _ _ _ _; rw [← str_take ss k (by have := HSL.out; omega), HQ.out]; exact HO'.out, hb3⟩
      case measure => simp [intOf]; omega
    · obtain rfl : k = ts.length := by omega
      have HOW : Hid (wr.ownsRow w.heap.size 9 1 (.slice sa ts.length sc) ts.length (ss.map .string)) := by have := HO.out; rw [List.take_of_length_le (by have := HSL.out; omega)] at this; exact this
      go_wp2_with fail
      go_ret
      exact ⟨hbr, sa, sc, rfl, HOW.out⟩

set_option maxRecDepth 100000 in
set_option maxHeartbeats 2000000 in
theorem validBlobs_any (a : Option Addr) (cap : Nat) (ts : List ByteArray) (n : Nat) (w : World) (h1 : 1 ≤ n) (h8 : n ≤ 8) (hc : Strs w a ts) (hl : ts.length ≤ 1048576) (hs : ∀ i, (nx ts i).size ≤ maxLen) :
    Calls Tryd.prog 52 #[.slice a ts.length cap, .int .i64 n] w fun e w' => Below w.heap.size w w' ∧ ∃ b, e = .returned (.bool b) ∧ (b = true ↔ TxOk n ts) := by
  have HC : Hid (Strs w a ts) := hc
  have HS : Hid (∀ i, (nx ts i).size ≤ maxLen) := hs
  clear hc hs
  by_cases h2 : 5000 < ts.length
  · have d1 : decide ((5000 : Int) < (ts.length : Int)) = true := by simp; omega
    go_enter Tryd.func52, Tryd.ntmps52
    go_wp2
    go_ret
    exact ⟨Below.refl _ _, false, rfl, iff_no (fun h => by have := h.1; omega)⟩
  · have d1 : decide ((5000 : Int) < (ts.length : Int)) = false := by simp; omega
    go_enter Tryd.func52, Tryd.ntmps52
    go_wp2
    go_loopw [12] (fun i wr => ∃ (k : Nat), k ≤ ts.length ∧ i = .int .i64 k ∧ Hid (∀ i, i < k → (nx ts i).size ≤ 2002) ∧ Below w.heap.size w wr) (fun i _ => ts.length - (intOf i).toNat)
    case atStart => exact ⟨0, Nat.zero_le _, rfl, (fun i hi => by omega : ∀ i, i < 0 → (nx ts i).size ≤ 2002), Below.refl _ _⟩
    case round =>
      obtain ⟨k, hk, rfl, HK, hbr⟩ := hrel
      by_cases hlt : k < ts.length
      · obtain ⟨b, off, rfl, c1⟩ := (HC.out.below hbr) k hlt
        replace c1 : wr.cell? ⟨b, off + k, none⟩ = some (.string (nx ts k)) := c1
        have hsk := HS.out k
        by_cases h3 : 2002 < (nx ts k).size
        · have HN : Hid (¬ TxOk n ts) := fun h => by have := h.2.1 k hlt; omega
          generalize nx ts k = x at *
          have d3 : decide ((2002 : Int) < (x.size : Int)) = true := by simp; omega
          unfold maxLen at hsk
          go_wp2_with fail
          go_ret
          exact ⟨hbr, false, rfl, iff_no HN.out⟩
        · have HK1 : Hid (∀ i, i < k + 1 → (nx ts i).size ≤ 2002) := ext_succ HK.out (by omega)
          generalize nx ts k = x at *
          have d3 : decide ((2002 : Int) < (x.size : Int)) = false := by simp; omega
          unfold maxLen at hsk
          go_wp2_with fail
          go_roundw
          case rel => exact ⟨k + 1, by omega, by go_num, HK1.out, hbr⟩
          case measure => simp [intOf]; omega
      · obtain rfl : k = ts.length := by omega
        have HNT : Hid (ts.length ≤ 5000) := by show ts.length ≤ 5000; omega
        go_wp2_with fail
        refine (sumsOf_any a cap ts n _ h1 h8 (HC.out.below hbr) hl HK.out).mono ?_
        rintro e w2 ⟨hb2, sa, sc, rfl, how⟩
        have HST : Hid (Strs w2 sa (ts.map (sumB n))) := strs_of_own (by rw [List.length_map]) how
        have hls : (ts.map (sumB n)).length ≤ 1048576 := by rw [List.length_map]; exact hl
        have HASC : Hid (∀ W : World, Strs W sa (ts.map (sumB n)) → Calls Tryd.prog 105 #[.slice sa ts.length sc] W fun e w' => Below W.heap.size W w' ∧ ∃ b, e = .returned (.bool b) ∧ (b = true ↔ Asc (ts.map (sumB n)))) := fun W hW => by
          have := ascending_any sa sc (ts.map (sumB n)) W hW hls
          rw [List.length_map] at this
          exact this
        clear how
        go_wp2_with fail
        refine (HASC.out _ HST.out).mono ?_
        rintro e w3 ⟨hb3, b, rfl, hb⟩
        have HB : Hid (b = true ↔ TxOk n ts) := by
          show b = true ↔ TxOk n ts
          rw [hb]
          exact ⟨fun h => ⟨HNT.out, HK.out, h⟩, fun h => h.2.2⟩
        clear hb
        go_wp2
        go_ret
        exact ⟨bt hbr (bt hb2 hb3), b, rfl, HB.out⟩


/-- A store as the valid-store functions are handed it. -/
structure StIn (w : World) (ta : Option Addr) (ts : List ByteArray) (ra : Option Addr) (rs : List T3) : Prop where
  st : Strs w ta ts
  lt : ts.length ≤ 1048576
  xt : ∀ i, (nx ts i).size ≤ maxLen
  qs : QsIn w ra rs
theorem StIn.below {w w' : World} {ta ra : Option Addr} {ts : List ByteArray} {rs : List T3} (h : StIn w ta ts ra rs) (hb : Below w.heap.size w w') : StIn w' ta ts ra rs := ⟨h.st.below hb, h.lt, h.xt, h.qs.below hb⟩
def WdOk (n : Int) (ts : List ByteArray) (rs : List T3) : Prop := 1 ≤ n ∧ n ≤ 8 ∧ StoOk n.toNat ts rs

set_option maxRecDepth 100000 in
set_option maxHeartbeats 2000000 in
theorem implValidStore_any (n : Int) (ta ra : Option Addr) (tc rc : Nat) (ts : List ByteArray) (rs : List T3) (w : World) (hT : Tab w) (h : StIn w ta ts ra rs) :
    Calls Tryd.prog 12 #[.agg #[.int .i64 n, .slice ta ts.length tc, .slice ra rs.length rc]] w fun e w' => Below w.heap.size w w' ∧ ∃ b, e = .returned (.bool b) ∧ (b = true ↔ WdOk n ts rs) := by
  have hb0 : Below w.heap.size w (w.alloc (.cells #[.int .i64 n, .slice ta ts.length tc, .slice ra rs.length rc] 30)) := (Below.refl _ _).alloc (Nat.le_refl _) _
  have k0 : (w.alloc (.cells #[.int .i64 n, .slice ta ts.length tc, .slice ra rs.length rc] 30)).cell? ⟨w.heap.size, 0, none⟩ = some (.int .i64 n) := by simp [go_sem]
  have k2 : (w.alloc (.cells #[.int .i64 n, .slice ta ts.length tc, .slice ra rs.length rc] 30)).cell? ⟨w.heap.size, 2, none⟩ = some (.slice ra rs.length rc) := by simp [go_sem]
  have HI : Hid (StIn w ta ts ra rs) := h
  have HT : Hid (Tab w) := hT
  clear h hT
  by_cases hn : 1 ≤ n ∧ n ≤ 8
  · obtain ⟨m, rfl⟩ := Int.eq_ofNat_of_zero_le (show 0 ≤ n by omega)
    have h1 : 1 ≤ m := by omega
    have h8 : m ≤ 8 := by omega
    have HN : Hid (1 ≤ (m : Int) ∧ (m : Int) ≤ 8) := hn
    clear hn
    go_enter Tryd.func12, Tryd.ntmps12
    go_wp2_with (first | (go_at_call 51; refine (validWidth_yes _ _ (by omega) (by omega)).mono ?_; rintro e w9 ⟨rfl, rfl⟩))
    refine (validBlobs_any ta tc ts m _ h1 h8 (HI.out.st.below hb0) HI.out.lt HI.out.xt).mono ?_
    rintro e w1 ⟨hb1, b, rfl, hb⟩
    have hB1 := bt hb0 hb1
    have k10 := cell_below hb1 k0
    have k12 := cell_below hb1 k2
    rcases b_iff hb with ⟨hg, rfl⟩ | ⟨hg, rfl⟩
    · have HG : Hid (TxOk m ts) := hg
      clear hb hg hb0 hb1 k0 k2
      go_wp2_with fail
      refine (validRecords_any ra rc rs m _ (HT.out.below hB1) h8 (HI.out.qs.below hB1)).mono ?_
      rintro e w2 ⟨hb2, b, rfl, hb⟩
      have HB : Hid (b = true ↔ WdOk m ts rs) := by
        show b = true ↔ WdOk m ts rs
        rw [hb]
        exact ⟨fun h => ⟨HN.out.1, HN.out.2, HG.out, h⟩, fun h => h.2.2.2⟩
      clear hb
      go_wp2
      go_ret
      exact ⟨bt hB1 hb2, b, rfl, HB.out⟩
    · have HG : Hid (¬ WdOk m ts rs) := fun h => hg h.2.2.1
      clear hb hg
      go_wp2
      go_ret
      exact ⟨hB1, false, rfl, iff_no HG.out⟩
  · have hn' : n < 1 ∨ 8 < n := by omega
    have HN : Hid (¬ WdOk n ts rs) := fun h => hn ⟨h.1, h.2.1⟩
    clear hn
    go_enter Tryd.func12, Tryd.ntmps12
    go_wp2_with (first | (go_at_call 51; refine (validWidth_no _ _ hn').mono ?_; rintro e w9 ⟨rfl, rfl⟩))
    go_ret
    exact ⟨hb0, false, rfl, iff_no HN.out⟩

end Go.Proofs.YtmpgajfccaoboacDoor
