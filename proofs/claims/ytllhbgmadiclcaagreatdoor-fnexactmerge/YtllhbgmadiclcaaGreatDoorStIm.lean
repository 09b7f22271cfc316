import Derived.Test.YtllhbgmadiclcaaGreatDoorStVaR
namespace Go.Proofs.YtllhbgmadiclcaaGreatDoor
open Go.RowKit
set_option linter.unusedVariables false

/-- Records as the valid-store functions are handed them. -/
structure QsIn (w : World) (a : Option Addr) (rs : List T3) : Prop where
  rq : RowQ w a rs
  ok : QsOk rs
  sm : QsSmall rs
theorem QsIn.below {w w' : World} {a : Option Addr} {rs : List T3} (h : QsIn w a rs) (hb : Below w.heap.size w w') : QsIn w' a rs := ⟨h.rq.below hb, h.ok, h.sm⟩

set_option maxHeartbeats 2000000 in
theorem validRecords_any (a : Option Addr) (cap : Nat) (rs : List T3) (n : Nat) (w : World) (hT : Tab w) (h8 : n ≤ 8) (h : QsIn w a rs) :
    Calls Tryz.prog 65 #[.slice a rs.length cap, .int .i64 n] w fun e w' => Below w.heap.size w w' ∧ ∃ b, e = .returned (.bool b) ∧ (b = true ↔ rs.length ≤ 2000 ∧ ∀ i, i < rs.length → RcOk n (qx rs i)) := by
  have hl := h.sm.1
  have HQ : Hid (QsIn w a rs) := h
  have HT : Hid (Tab w) := hT
  clear h hT
  by_cases h1 : 2000 < rs.length
  · have d1 : decide ((2000 : Int) < (rs.length : Int)) = true := by simp; omega
    go_enter Tryz.func65, Tryz.ntmps65
    go_wp2
    go_ret
    exact ⟨Below.refl _ _, false, rfl, iff_no (fun h => by omega)⟩
  · have d1 : decide ((2000 : Int) < (rs.length : Int)) = false := by simp; omega
    go_enter Tryz.func65, Tryz.ntmps65
    go_wp2
    go_loopw [12] (fun i wr => ∃ k : Nat, k ≤ rs.length ∧ i = .int .i64 k ∧ Hid (∀ i, i < k → RcOk n (qx rs i)) ∧ Below w.heap.size w wr) (fun i _ => rs.length - (intOf i).toNat)
    case atStart => exact ⟨0, Nat.zero_le _, rfl, (fun i hi => by omega : ∀ i, i < 0 → RcOk n (qx rs i)), Below.refl _ _⟩
    case round =>
      obtain ⟨k, hk, rfl, HK, hbr⟩ := hrel
      by_cases hlt : k < rs.length
      · have hq := HQ.out.below hbr
        obtain ⟨b, off, rfl, ca, cc, la, lc, c1, c2, c3, c4, c5⟩ := hq.rq k hlt
        have hin : RcIn wr ca (qx rs k).code la (qx rs k).looks := ⟨c4, c5, (hq.sm.2 k hlt).1, (hq.sm.2 k hlt).2, hq.ok.xc k, hq.ok.ng k, hq.ok.sg k⟩
        have hou := hq.ok.so k
        have HG1 : Hid (RcOk n (qx rs k) → ∀ i, i < k + 1 → RcOk n (qx rs i)) := fun hg => ext_succ HK.out hg
        have HG0 : Hid (¬ RcOk n (qx rs k) → ¬ (rs.length ≤ 2000 ∧ ∀ i, i < rs.length → RcOk n (qx rs i))) := fun hg h => hg (h.2 k hlt)
        clear hq c4 c5
        generalize qx rs k = x at *
        obtain ⟨xc, xl, xo⟩ := x
        simp only at *
        have HIN : Hid (RcIn wr ca xc la xl) := hin
        clear hin
        have hb0 : Below wr.heap.size wr (wr.alloc (.cells #[.slice ca xc.length cc, .slice la xl.length lc, .string xo] 50)) := (Below.refl _ _).alloc (Nat.le_refl _) _
        have hin2 : RcIn (wr.alloc (.cells #[.slice ca xc.length cc, .slice la xl.length lc, .string xo] 50)) ca xc la xl := ⟨HIN.out.rc.below hb0, HIN.out.rg.below hb0, HIN.out.lc, HIN.out.lg, HIN.out.xc, HIN.out.ng, HIN.out.sg⟩
        have HI2 : Hid (RcIn (wr.alloc (.cells #[.slice ca xc.length cc, .slice la xl.length lc, .string xo] 50)) ca xc la xl) := hin2
        clear hin2
        go_wp2_with fail
        refine (validRecord_any ca la cc lc xc xl xo n _ ((HT.out.below hbr).below hb0) h8 HI2.out hou).mono ?_
        rintro e w2 ⟨hb2, b, rfl, hb⟩
        have hB2 := bt hbr (bt hb0 hb2)
        rcases b_iff hb with ⟨hg, rfl⟩ | ⟨hg, rfl⟩
        · have HO : Hid (∀ i, i < k + 1 → RcOk n (qx rs i)) := HG1.out hg
          clear hb hg hb0 hb2
          go_wp2
          go_roundw
          case rel => exact ⟨k + 1, by omega, by go_num, HO.out, hB2⟩
          case measure => simp [intOf]; omega
        · have HO : Hid (¬ (rs.length ≤ 2000 ∧ ∀ i, i < rs.length → RcOk n (qx rs i))) := HG0.out hg
          clear hb hg hb0 hb2
          go_wp2
          go_ret
          exact ⟨hB2, false, rfl, iff_no HO.out⟩
      · go_wp2
        go_ret
        exact ⟨hbr, true, rfl, iff_yes ⟨by omega, fun i hi => HK.out i (by omega)⟩⟩

theorem str_take (l : List ByteArray) (k : Nat) (h : k < l.length) : (l.take k).map Value.string ++ [.string (nx l k)] = (l.take (k + 1)).map Value.string := by
  rw [List.take_succ_eq_append_getElem h, List.map_append]
  unfold nx
  rw [List.getD_eq_getElem?_getD, List.getElem?_eq_getElem h]
  rfl
theorem strs_of_own {w : World} {B n cap : Nat} {a : Option Addr} {ss : List ByteArray} (hn : n = ss.length) (h : w.ownsRow B 9 1 (.slice a n cap) n (ss.map .string)) : Strs w a ss := by
  subst hn
  intro i hi
  rcases h.2 with ⟨hv, h0⟩ | ⟨g, cap', cur, hv, _⟩
  · omega
  · simp only [Value.slice.injEq] at hv
    obtain ⟨rfl, _, _⟩ := hv
    refine ⟨g, 0, rfl, ?_⟩
    rw [Nat.zero_add, h.cellAt i (by omega), List.getElem?_map, List.getElem?_eq_getElem hi, List.getD_eq_getElem?_getD, List.getElem?_eq_getElem hi]
    rfl
theorem Tryz.info9b : (Tryz.prog.info? 9).map (fun i => (i.zero, i.size, i.bytes)) = some (some (.string ⟨#[]⟩), 1, 16) := by kernel_rfl
theorem cell_one (w : World) (v : Value) (ty : TypeId) : ∀ j u, [v][j]? = some u → (w.alloc (.cells #[v] ty)).cell? ((⟨w.heap.size, 0, none⟩ : Addr).add j) = some u := by
  intro j u hu
  cases j with
  | zero => simp at hu; subst hu; simp [go_sem, Addr.add]
  | succ j => simp at hu

set_option maxRecDepth 100000 in
set_option maxHeartbeats 2000000 in
theorem sumsOf_any (a : Option Addr) (cap : Nat) (ts : List ByteArray) (n : Nat) (w : World) (h1 : 1 ≤ n) (h8 : n ≤ 8) (hc : Strs w a ts) (hl : ts.length ≤ 1048576) (hs : ∀ i, i < ts.length → (nx ts i).size ≤ 2002) :
    Calls Tryz.prog 66 #[.slice a ts.length cap, .int .i64 n] w fun e w' => Below w.heap.size w w' ∧ ∃ g : Nat, e = .returned (.slice (some ⟨g, 0, none⟩) ts.length ts.length) ∧ w.heap.size ≤ g ∧ w'.ownsRow w.heap.size 9 1 (.slice (some ⟨g, 0, none⟩) ts.length ts.length) ts.length ((ts.map (sumB n)).map .string) := by
  have HC : Hid (Strs w a ts) := hc
  have HS : Hid (∀ i, i < ts.length → (nx ts i).size ≤ 2002) := hs
  clear hc hs
  obtain ⟨i0, hi, hz0, hz1, hz2⟩ := info_parts Tryz.info9
  obtain ⟨ss, ess⟩ : ∃ ss, ts.map (sumB n) = ss := ⟨_, rfl⟩
  have HSL : Hid (ss.length = ts.length) := by show ss.length = ts.length; rw [← ess, List.length_map]
  have HNX : Hid (∀ i, i < ts.length → nx ss i = sumB n (nx ts i)) := fun i h => by rw [← ess]; exact nx_sums n ts i h
  rw [ess]
  clear ess
  go_enter Tryz.func66, Tryz.ntmps66
  go_wp2_with (first | (at_make; refine wpList_make_full _ rfl (.tmp 9) (.tmp 9) 22 rfl w.heap.size 9 i0 (.string ByteArray.empty) 1 Tryz.underlying22 hi hz0 hz1 .i64 .i64 _ _ ts.length rfl rfl rfl rfl (by rw [hz2]; omega) (by unfold maxLen; omega) (Nat.le_refl _) ?_; intro w1 hown hgrow))
  rw [made_strings] at hown
  have hbel1 : Below w.heap.size w w1 := (Below.refl _ _).grown hgrow (Nat.le_refl _) (by simp)
  clear hgrow
  go_loopw [13] (fun i wr => ∃ k : Nat, k ≤ ts.length ∧ i = .int .i64 k ∧ Hid (wr.ownsRow w.heap.size 9 1 (.slice (some ⟨w.heap.size, 0, none⟩) ts.length ts.length) ts.length (filled ss k ss.length)) ∧ Below w.heap.size w wr) (fun i _ => ts.length - (intOf i).toNat)
  case atStart => exact ⟨0, Nat.zero_le _, rfl, by show World.ownsRow _ _ _ _ _ _ _; rw [HSL.out]; simpa [filled] using hown, hbel1⟩
  case round =>
    obtain ⟨k, hk, rfl, HO, hbr⟩ := hrel
    by_cases hlt : k < ts.length
    · obtain ⟨b, off, rfl, c1⟩ := (HC.out.below hbr) k hlt
      replace c1 : wr.cell? ⟨b, off + k, none⟩ = some (.string (nx ts k)) := c1
      have hsk := HS.out k hlt
      have HX : Hid (nx ss k = sumB n (nx ts k)) := HNX.out k hlt
      generalize nx ts k = x at *
      have hx0 : x.size ≤ 1048576 := by omega
      go_wp2_with fail
      refine (implSum_yes x n _ hx0 h1 h8).mono ?_
      rintro e w2 ⟨rfl, hb2⟩
      obtain ⟨q, eq⟩ : ∃ q, (⟨(digs (hash x.data.toList) n).toArray⟩ : ByteArray) = q := ⟨_, rfl⟩
      rw [eq]
      have HQ : Hid (ss.getD k ByteArray.empty = q) := by show ss.getD k ByteArray.empty = q; have := HX.out; unfold nx at this; rw [this, ← eq]; rfl
      have hown := ownsRow_below HO.out hb2
      have hB2 := bt hbr hb2
      have hks : k < ss.length := by have := HSL.out; omega
      have hst := hown.stored k (.string (ss.getD k ByteArray.empty))
      rw [filled_set ss k hks, HQ.out] at hst
      have hfr := hown.frozenAt k
      have hce : w2.cell? ⟨w.heap.size, k, none⟩ = some ((filled ss k ss.length)[k]'(by rw [filled_length ss k (by omega)]; exact hks)) := by
        rw [hown.cellAt k (by omega)]; exact List.getElem?_eq_getElem _
      generalize (filled ss k ss.length)[k]'(by rw [filled_length ss k (by omega)]; exact hks) = old at hce
      have hbel2 : Below w.heap.size w (w2.setCell ⟨w.heap.size, k, none⟩ (.string q)) := hB2.setCell (Nat.le_refl _) _
      have HST : Hid ((w2.setCell ⟨w.heap.size, k, none⟩ (.string q)).ownsRow w.heap.size 9 1 (.slice (some ⟨w.heap.size, 0, none⟩) ts.length ts.length) ts.length (filled ss (k + 1) ss.length)) := hst.1
      clear hown hbr hb2 hst c1 eq
      go_wp2
      go_roundw
      case rel => exact ⟨k + 1, by omega, by go_num, HST.out, hbel2⟩
      case measure => simp [intOf]; omega
    · obtain rfl : k = ts.length := by omega
      have HOW : Hid (wr.ownsRow w.heap.size 9 1 (.slice (some ⟨w.heap.size, 0, none⟩) ts.length ts.length) ts.length (ss.map .string)) := by
        have := HO.out
        have e : filled ss ts.length ss.length = ss.map .string := by rw [← HSL.out]; simp [filled]
        rw [e] at this
        exact this
      go_wp2_with fail
      go_ret
      exact ⟨hbr, _, rfl, Nat.le_refl _, HOW.out⟩

set_option maxRecDepth 100000 in
set_option maxHeartbeats 2000000 in
theorem validBlobs_any (a : Option Addr) (cap : Nat) (ts : List ByteArray) (w : World) (hc : Strs w a ts) (hl : ts.length ≤ 1048576) (hs : ∀ i, (nx ts i).size ≤ maxLen) :
    Calls Tryz.prog 64 #[.slice a ts.length cap] w fun e w' => Below w.heap.size w w' ∧ ∃ b, e = .returned (.bool b) ∧ (b = true ↔ ts.length ≤ 5000 ∧ ∀ i, i < ts.length → (nx ts i).size ≤ 2002) := by
  have HC : Hid (Strs w a ts) := hc
  have HS : Hid (∀ i, (nx ts i).size ≤ maxLen) := hs
  clear hc hs
  by_cases h2 : 5000 < ts.length
  · have d1 : decide ((5000 : Int) < (ts.length : Int)) = true := by simp; omega
    go_enter Tryz.func64, Tryz.ntmps64
    go_wp2
    go_ret
    exact ⟨Below.refl _ _, false, rfl, iff_no (fun h => by have := h.1; omega)⟩
  · have d1 : decide ((5000 : Int) < (ts.length : Int)) = false := by simp; omega
    go_enter Tryz.func64, Tryz.ntmps64
    go_wp2
    go_loopw [10] (fun i wr => ∃ (k : Nat), k ≤ ts.length ∧ i = .int .i64 k ∧ Hid (∀ i, i < k → (nx ts i).size ≤ 2002) ∧ Below w.heap.size w wr) (fun i _ => ts.length - (intOf i).toNat)
    case atStart => exact ⟨0, Nat.zero_le _, rfl, (fun i hi => by omega : ∀ i, i < 0 → (nx ts i).size ≤ 2002), Below.refl _ _⟩
    case round =>
      obtain ⟨k, hk, rfl, HK, hbr⟩ := hrel
      by_cases hlt : k < ts.length
      · obtain ⟨b, off, rfl, c1⟩ := (HC.out.below hbr) k hlt
        replace c1 : wr.cell? ⟨b, off + k, none⟩ = some (.string (nx ts k)) := c1
        have hsk := HS.out k
        by_cases h3 : 2002 < (nx ts k).size
        · have HN : Hid (¬ (ts.length ≤ 5000 ∧ ∀ i, i < ts.length → (nx ts i).size ≤ 2002)) := fun h => by have := h.2 k hlt; omega
          generalize nx ts k = x at *
          have d3 : decide ((2002 : Int) < (x.size : Int)) = true := by simp; omega
          unfold maxLen at hsk
          go_wp2_with fail
          go_ret
          exact ⟨hbr, false, rfl, iff_no HN.out⟩
        · have HK1 : Hid (∀ i, i < k + 1 → (nx ts i).size ≤ 2002) := ext_succ HK.out (by omega)
          generalize nx ts k = x at *
          have d3 : decide ((2002 : Int) < (x.size : Int)) = false := by simp; omega
          unfold maxLen at hsk
          go_wp2_with fail
          go_roundw
          case rel => exact ⟨k + 1, by omega, by go_num, HK1.out, hbr⟩
          case measure => simp [intOf]; omega
      · have HNT : Hid (ts.length ≤ 5000 ∧ ∀ i, i < ts.length → (nx ts i).size ≤ 2002) := ⟨by omega, fun i hi => HK.out i (by omega)⟩
        go_wp2_with fail
        go_ret
        exact ⟨hbr, true, rfl, iff_yes HNT.out⟩


/-- A store as the valid-store functions are handed it. -/
structure StIn (w : World) (ta : Option Addr) (ts : List ByteArray) (ra : Option Addr) (rs : List T3) : Prop where
  st : Strs w ta ts
  lt : ts.length ≤ 1048576
  xt : ∀ i, (nx ts i).size ≤ maxLen
  qs : QsIn w ra rs
theorem StIn.below {w w' : World} {ta ra : Option Addr} {ts : List ByteArray} {rs : List T3} (h : StIn w ta ts ra rs) (hb : Below w.heap.size w w') : StIn w' ta ts ra rs := ⟨h.st.below hb, h.lt, h.xt, h.qs.below hb⟩
def WdOk (n : Int) (ts : List ByteArray) (rs : List T3) : Prop := 1 ≤ n ∧ n ≤ 8 ∧ StoOk n.toNat ts rs

theorem own_low {w : World} {base base' e size n : Nat} {v : Value} {xs : List Value} (h : w.ownsRow base e size v n xs) (hb : base' ≤ base) : w.ownsRow base' e size v n xs := by
  refine ⟨h.1, ?_⟩
  rcases h.2 with h2 | ⟨g, cap, cur, hv, hg, r⟩
  · exact Or.inl h2
  · exact Or.inr ⟨g, cap, cur, hv, Nat.le_trans hb hg, r⟩
theorem heap_at_new (w : World) (o : Obj) : (w.alloc o).heap[w.heap.size]? = some o := by unfold World.alloc; simp
theorem alB (w : World) (o : Obj) : Below w.heap.size w (w.alloc o) := (Below.refl _ _).alloc (Nat.le_refl _) _
/-- A shelf: the store's three cells, the row of its sums. -/
def ShelfAt (w : World) (g : Nat) (n : Int) (ta ra : Option Addr) (tl tc rl rc : Nat) (sv : Value) : Prop := w.heap[g]? = some (.cells #[.int .i64 n, .slice ta tl tc, .slice ra rl rc, sv] 73 (0, 0))

set_option maxRecDepth 100000 in
set_option maxHeartbeats 4000000 in
theorem shelfWith_any (n : Int) (ta ra : Option Addr) (tc rc : Nat) (ts : List ByteArray) (rs : List T3) (w : World) (hT : Tab w) (h : StIn w ta ts ra rs) :
    Calls Tryz.prog 41 #[.agg #[.int .i64 n, .slice ta ts.length tc, .slice ra rs.length rc]] w fun e w' => Below w.heap.size w w' ∧ ((¬ WdOk n ts rs ∧ ∃ v, e = .returned (.tuple #[v, .bool false])) ∨ (WdOk n ts rs ∧ ∃ g sg, e = .returned (.tuple #[.pointer (some ⟨g, 0, none⟩), .bool true]) ∧ ShelfAt w' g n ta ra ts.length tc rs.length rc (.slice (some ⟨sg, 0, none⟩) ts.length ts.length) ∧ Strs w' (some ⟨sg, 0, none⟩) (ts.map (sumB n.toNat)) ∧ w.heap.size ≤ g ∧ w'.ownsRow w.heap.size 9 1 (.slice (some ⟨sg, 0, none⟩) ts.length ts.length) ts.length ((ts.map (sumB n.toNat)).map .string))) := by
  have hb0 : Below w.heap.size w (w.alloc (.cells #[.int .i64 n, .slice ta ts.length tc, .slice ra rs.length rc] 29)) := (Below.refl _ _).alloc (Nat.le_refl _) _
  have k0 : (w.alloc (.cells #[.int .i64 n, .slice ta ts.length tc, .slice ra rs.length rc] 29)).cell? ⟨w.heap.size, 0, none⟩ = some (.int .i64 n) := by simp [go_sem]
  have k1 : (w.alloc (.cells #[.int .i64 n, .slice ta ts.length tc, .slice ra rs.length rc] 29)).cell? ⟨w.heap.size, 1, none⟩ = some (.slice ta ts.length tc) := by simp [go_sem]
  have k2 : (w.alloc (.cells #[.int .i64 n, .slice ta ts.length tc, .slice ra rs.length rc] 29)).cell? ⟨w.heap.size, 2, none⟩ = some (.slice ra rs.length rc) := by simp [go_sem]
  have HI : Hid (StIn w ta ts ra rs) := h
  have HT : Hid (Tab w) := hT
  clear h hT
  by_cases hn : 1 ≤ n ∧ n ≤ 8
  · obtain ⟨m, rfl⟩ := Int.eq_ofNat_of_zero_le (show 0 ≤ n by omega)
    have h1 : 1 ≤ m := by omega
    have h8 : m ≤ 8 := by omega
    have HN : Hid (1 ≤ (m : Int) ∧ (m : Int) ≤ 8) := hn
    clear hn
    go_enter Tryz.func41, Tryz.ntmps41
    go_wp2_with (first | (go_at_call 63; refine (validWidth_yes _ _ (by omega) (by omega)).mono ?_; rintro e w9 ⟨rfl, rfl⟩))
    refine (validBlobs_any ta tc ts _ (HI.out.st.below hb0) HI.out.lt HI.out.xt).mono ?_
    rintro e w1 ⟨hb1, b, rfl, hb⟩
    have hB1 := bt hb0 hb1
    have k10 := cell_below hb1 k0
    have k11 := cell_below hb1 k1
    have k12 := cell_below hb1 k2
    rcases b_iff hb with ⟨hg, rfl⟩ | ⟨hg, rfl⟩
    · have HG : Hid (ts.length ≤ 5000 ∧ ∀ i, i < ts.length → (nx ts i).size ≤ 2002) := hg
      clear hb hg hb0 hb1 k0 k1 k2
      go_wp2_with fail
      refine (validRecords_any ra rc rs m _ (HT.out.below hB1) h8 (HI.out.qs.below hB1)).mono ?_
      rintro e w2 ⟨hb2, b, rfl, hb⟩
      have hB2 := bt hB1 hb2
      have k20 := cell_below hb2 k10
      have k21 := cell_below hb2 k11
      have k22 := cell_below hb2 k12
      rcases b_iff hb with ⟨hg, rfl⟩ | ⟨hg, rfl⟩
      · have HR : Hid (rs.length ≤ 2000 ∧ ∀ i, i < rs.length → RcOk m (qx rs i)) := hg
        have HSU : Hid (∀ W : World, Below w.heap.size w W → Calls Tryz.prog 66 #[.slice ta ts.length tc, .int .i64 m] W fun e w' => Below W.heap.size W w' ∧ ∃ g : Nat, e = .returned (.slice (some ⟨g, 0, none⟩) ts.length ts.length) ∧ W.heap.size ≤ g ∧ w'.ownsRow W.heap.size 9 1 (.slice (some ⟨g, 0, none⟩) ts.length ts.length) ts.length ((ts.map (sumB m)).map .string)) := fun W hW => sumsOf_any ta tc ts m W h1 h8 (HI.out.st.below hW) HI.out.lt HG.out.2
        clear hb hg hb2 hB1 k10 k11 k12
        go_wp2_with fail
        have hbd2 : Below w2.heap.size w2 w2.drew := (Below.refl _ _).drew
        go_region_held3 (fun w' => w'.cell? ⟨w.heap.size, 0, none⟩ = some (.int .i64 m) ∧ w'.cell? ⟨w.heap.size, 1, none⟩ = some (.slice ta ts.length tc) ∧ w'.cell? ⟨w.heap.size, 2, none⟩ = some (.slice ra rs.length rc))
          (first | exact ⟨k20, k21, k22⟩ | (with_reducible exact ⟨s0, s1, s2⟩) | exact ⟨cell_below (alB _ _) s0, cell_below (alB _ _) s1, cell_below (alB _ _) s2⟩)
          (first | (go_at_call 66; refine (HSU.out _ hB2.drew).mono ?_; rintro e w3 ⟨hb3, sg, rfl, hsg, how⟩; have s0 := cell_below (bt hbd2 hb3) k20; have s1 := cell_below (bt hbd2 hb3) k21; have s2 := cell_below (bt hbd2 hb3) k22))
        go_wp2_with fail
        obtain ⟨w4, e4⟩ : ∃ x, w3.alloc (.cells #[.int .i64 m, .slice ta ts.length tc, .slice ra rs.length rc, .slice (some ⟨sg, 0, none⟩) ts.length ts.length] 73) = x := ⟨_, rfl⟩
        have hb4 : Below w3.heap.size w3 w4 := by rw [← e4]; exact alB _ _
        have HSH : Hid (ShelfAt w4 w3.heap.size m ta ra ts.length tc rs.length rc (.slice (some ⟨sg, 0, none⟩) ts.length ts.length)) := by show ShelfAt _ _ _ _ _ _ _ _ _ _; rw [← e4]; unfold ShelfAt; exact heap_at_new _ _
        have HST : Hid (Strs w4 (some ⟨sg, 0, none⟩) (ts.map (sumB m))) := (strs_of_own (by rw [List.length_map]) how).below hb4
        have hB4 : Below w.heap.size w w4 := bt (bt (bt hB2 hbd2) hb3) hb4
        have HASC : Hid (∀ W : World, Strs W (some ⟨sg, 0, none⟩) (ts.map (sumB m)) → Calls Tryz.prog 67 #[.slice (some ⟨sg, 0, none⟩) ts.length ts.length] W fun e w' => Below W.heap.size W w' ∧ ∃ b, e = .returned (.bool b) ∧ (b = true ↔ Asc (ts.map (sumB m)))) := fun W hW => by
          have := ascending_any (some ⟨sg, 0, none⟩) ts.length (ts.map (sumB m)) W hW (by rw [List.length_map]; exact HI.out.lt)
          rw [List.length_map] at this
          exact this
        have HOW4 : Hid (w4.ownsRow w.heap.size 9 1 (.slice (some ⟨sg, 0, none⟩) ts.length ts.length) ts.length ((ts.map (sumB m)).map .string)) := ownsRow_below (own_low how (bt hB2 hbd2).size) hb4
        have HG3 : Hid (w.heap.size ≤ w3.heap.size) := (bt (bt hB2 hbd2) hb3).size
        rw [e4]
        clear e4 hb4 how hb3 hbd2 hsg
        refine (HASC.out _ HST.out).mono ?_
        rintro e w5 ⟨hb5, b, rfl, hb⟩
        have hB5 := bt hB4 hb5
        have HSH5 : Hid (ShelfAt w5 w3.heap.size m ta ra ts.length tc rs.length rc (.slice (some ⟨sg, 0, none⟩) ts.length ts.length)) := by
          have h4 := HSH.out
          unfold ShelfAt at h4
          show _ = _
          rw [hb5.block _ (by rcases Nat.lt_or_ge w3.heap.size w4.heap.size with h' | h'; (focus exact h'); rw [Array.getElem?_eq_none h'] at h4; cases h4)]
          exact h4
        rcases b_iff hb with ⟨hg, rfl⟩ | ⟨hg, rfl⟩
        · have HW : Hid (WdOk m ts rs) := ⟨HN.out.1, HN.out.2, ⟨HG.out.1, HG.out.2, hg⟩, HR.out⟩
          clear hb hg
          go_wp2_with fail
          exact bodyPost_ret (results_tmp2 rfl _ _ _) rfl ⟨hB5, Or.inr ⟨HW.out, _, sg, rfl, HSH5.out, HST.out.below hb5, HG3.out, ownsRow_below HOW4.out hb5⟩⟩
        · have HN2 : Hid (¬ WdOk m ts rs) := fun h => hg h.2.2.1.2.2
          clear hb hg
          go_wp2_with fail
          exact bodyPost_ret (results_tmp2 rfl _ _ _) rfl ⟨hB5, Or.inl ⟨HN2.out, _, rfl⟩⟩
      · have HN2 : Hid (¬ WdOk m ts rs) := fun h => hg h.2.2.2
        clear hb hg
        go_wp2_with fail
        exact bodyPost_ret (results_tmp2 rfl _ _ _) rfl ⟨hB2, Or.inl ⟨HN2.out, _, rfl⟩⟩
    · have HN2 : Hid (¬ WdOk m ts rs) := fun h => hg ⟨h.2.2.1.1, h.2.2.1.2.1⟩
      clear hb hg
      go_wp2_with fail
      exact bodyPost_ret (results_tmp2 rfl _ _ _) rfl ⟨hB1, Or.inl ⟨HN2.out, _, rfl⟩⟩
  · have hn' : n < 1 ∨ 8 < n := by omega
    have HN : Hid (¬ WdOk n ts rs) := fun h => hn ⟨h.1, h.2.1⟩
    clear hn
    go_enter Tryz.func41, Tryz.ntmps41
    go_wp2_with (first | (go_at_call 63; refine (validWidth_no _ _ hn').mono ?_; rintro e w9 ⟨rfl, rfl⟩))
    exact bodyPost_ret (results_tmp2 rfl _ _ _) rfl ⟨hb0, Or.inl ⟨HN.out, _, rfl⟩⟩

end Go.Proofs.YtllhbgmadiclcaaGreatDoor
