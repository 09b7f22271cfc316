import Derived.Test.YtllhbgmadiclcaaGreatDoorMgH
import Derived.Test.YtllhbgmadiclcaaGreatDoorStLaw
namespace Go.Proofs.YtllhbgmadiclcaaGreatDoor
open Go.RowKit
set_option linter.unusedVariables false

theorem own_cap {w : World} {B e sz m n c : Nat} {a : Option Addr} {xs : List Value} (h : w.ownsRow B e sz (.slice a n c) m xs) : m ≤ c ∧ c ≤ 9223372036854775807 := by
  rcases h.2 with ⟨h1, h2⟩ | ⟨g, cap, cur, h1, _, _, h2, h3, _⟩
  · cases h1; omega
  · cases h1; unfold maxLen at h3; omega
theorem ix_get {is : List I3} {i : Nat} (hi : i < is.length) : ix is i = is[i] := by
  unfold ix
  rw [List.getD_eq_getElem?_getD, List.getElem?_eq_getElem hi]; rfl
theorem gx_get {is : List G3} {i : Nat} (hi : i < is.length) : gx is i = is[i] := by
  unfold gx
  rw [List.getD_eq_getElem?_getD, List.getElem?_eq_getElem hi]; rfl
theorem RowT.of3 {w : World} {a : Option Addr} {is : List I3} (h : Row3 w a is) : RowT w a (cI is) := fun i x hx => by
  rw [cI, List.getElem?_map] at hx
  obtain ⟨q, hq, rfl⟩ := Option.map_eq_some_iff.1 hx
  obtain ⟨hi, rfl⟩ := List.getElem?_eq_some_iff.1 hq
  have h1 := h i hi
  rw [ix_get hi] at h1
  exact h1
theorem RowT.ofG {w : World} {a : Option Addr} {is : List G3} (h : RowG w a is) : RowT w a (cG is) := fun i x hx => by
  rw [cG, List.getElem?_map] at hx
  obtain ⟨q, hq, rfl⟩ := Option.map_eq_some_iff.1 hx
  obtain ⟨hi, rfl⟩ := List.getElem?_eq_some_iff.1 hq
  have h1 := h i hi
  rw [gx_get hi] at h1
  exact h1
theorem okI_of {is : List I3} (h : progOk is = true) : ∀ x ∈ cI is, okI x ∧ x ≠ zI := fun x hx => by
  obtain ⟨q, hq, rfl⟩ := List.mem_map.1 hx
  obtain ⟨i, hi, rfl⟩ := List.mem_iff_getElem.1 hq
  have h1 := h
  unfold progOk at h1
  simp only [Bool.and_eq_true, decide_eq_true_eq] at h1
  have h2 := h1.2 i hi
  rw [ix_get hi] at h2
  unfold insOk at h2
  simp only [Bool.and_eq_true, decide_eq_true_eq] at h2
  obtain ⟨⟨⟨⟨a1, a2⟩, a3⟩, a4⟩, a5⟩ := h2
  have hT : mostT (kindOf is[i].op) ≤ 2000 := by unfold mostT; split <;> omega
  have hN : mostN (kindOf is[i].op) ≤ 2000 := by unfold mostN; split; omega; split <;> omega
  refine ⟨⟨_, _, _, rfl, ?_, ?_, ?_⟩, fun e => ?_⟩
  · simp only [Lit.wf, IntKind.min, IntKind.max, IntKind.signed, IntKind.bits, Bool.and_eq_true, decide_eq_true_eq, if_true]; omega
  · unfold maxLen; omega
  · simp only [Lit.wf, IntKind.min, IntKind.max, IntKind.signed, IntKind.bits, Bool.and_eq_true, decide_eq_true_eq, if_true]; omega
  · unfold zI at e
    simp only [Prod.mk.injEq, Value.int.injEq, true_and] at e
    omega
theorem okG_of {n : Nat} {gs : List G3} (hn : n ≤ 8) (h : ∀ i, i < gs.length → GlOk n (gx gs i)) : ∀ x ∈ cG gs, okG x ∧ x ≠ zG := fun x hx => by
  obtain ⟨q, hq, rfl⟩ := List.mem_map.1 hx
  obtain ⟨i, hi, rfl⟩ := List.mem_iff_getElem.1 hq
  have h1 := h i hi
  rw [gx_get hi] at h1
  obtain ⟨⟨a1, a2, _⟩, a3⟩ := h1
  refine ⟨⟨_, _, _, rfl, by unfold maxLen; omega, by unfold maxLen; omega⟩, fun e => ?_⟩
  unfold zG at e
  simp only [Prod.mk.injEq, Value.string.injEq] at e
  rw [e.1] at a1
  simp [ByteArray.size] at a1
theorem OwnQ.rowL {w : World} {lo hi n : Nat} {v : Value} {rs : List T3} (h : OwnQ w lo hi v rs) (hn : n ≤ 8) (hok : ∀ i, i < rs.length → RcOk n (qx rs i)) : ∃ a cap, v = .slice a rs.length cap ∧ RowL w a rs := by
  obtain ⟨xs, cv, lv, h⟩ := h
  rcases own_casesM h.row.own with ⟨rfl, h0⟩ | ⟨g, cap, rfl⟩
  · exact ⟨none, 0, by rw [h0], fun i hi => by omega⟩
  · refine ⟨_, cap, rfl, fun i hi => ?_⟩
    obtain ⟨h1, h2, h3⟩ := h.fil i hi
    obtain ⟨ys, k1, k2⟩ := h.code i hi
    obtain ⟨zs, j1, j2⟩ := h.look i hi
    obtain ⟨a', cap', e, r⟩ := row3_RowO k1 k2
    obtain ⟨a2, cap2, e2, r2⟩ := rowG_RowO j1 j2
    obtain ⟨g3, c3, e3⟩ := h.som i hi
    have e3' := e3
    rw [e2] at e3'
    cases e3'
    obtain ⟨p1, p2, p3, p4⟩ := hok i hi
    obtain ⟨l1, l2⟩ := prog_lenP p1
    have k3 := k1.own
    rw [e] at k3
    have j3 := j1.own
    rw [e2] at j3
    obtain ⟨u1, u2⟩ := own_cap k3
    obtain ⟨u3, u4⟩ := own_cap j3
    refine ⟨g, 0, rfl, a', cap', some ⟨g3, 0, none⟩, cap2, ?_, ?_, ?_, ⟨by simp [cI]; omega, by simpa [cI] using u1, u2, RowT.of3 r, okI_of p1⟩, ⟨by simp [cG]; omega, by simpa [cG] using u3, u4, RowT.ofG r2, okG_of hn p4⟩, by omega, by omega, by rw [p2]; unfold maxLen; omega, ⟨g3, 0, rfl⟩, l1, r, r2⟩
    · rw [Nat.zero_add, h.row.own.cellAt _ (by omega), h1, e]
    · rw [Nat.zero_add, h.row.own.cellAt _ (by omega), h2, e2]
    · rw [Nat.zero_add, h.row.own.cellAt _ (by omega), h3]
end Go.Proofs.YtllhbgmadiclcaaGreatDoor
namespace Go.Proofs.YtllhbgmadiclcaaGreatDoor
open Go.RowKit
set_option linter.unusedVariables false

set_option maxHeartbeats 1000000 in
theorem szRecordS_left (a : Option Addr) (cap : Nat) (is : List T3) (lft : Int) (w : World) (hf0 : 0 ≤ lft) (hf1 : lft ≤ 1048576) (hc : RowQ w a is) (hk : QsOk is) :
    Calls Tryz.prog 14 #[.slice a is.length cap, .int .i64 lft] w fun e w' => Below w.heap.size w w' ∧ ∃ r : Int, e = .returned (.int .i64 r) ∧ (r < 0 ∨ (0 ≤ r ∧ r ≤ lft ∧ QsSmall is)) := by
  have hl' := hk.lr
  unfold maxLen at hl'
  have HK0 : Hid (QsOk is) := hk
  clear hk
  by_cases h0 : (is.length : Int) ≤ lft
  · go_enter Tryz.func14, Tryz.ntmps14
    go_wp2
    go_loopw [1, 5] (fun l i wr => ∃ k : Nat, ∃ q : Int, k ≤ is.length ∧ i = .int .i64 k ∧ l = .int .i64 q ∧ 0 ≤ q ∧ q ≤ lft ∧ Below w.heap.size w wr ∧ Hid (∀ i, i < k → (qx is i).code.length ≤ 1048576 ∧ (qx is i).looks.length ≤ 1048576)) (fun _ i _ => is.length - (intOf i).toNat)
    case atStart => exact ⟨0, _, Nat.zero_le _, rfl, rfl, by omega, by omega, Below.refl _ _, (fun i hi => by omega : ∀ i, i < 0 → (qx is i).code.length ≤ 1048576 ∧ (qx is i).looks.length ≤ 1048576)⟩
    case round =>
      obtain ⟨k, q, hk, rfl, rfl, hq0, hq1, hbr, HK⟩ := hrel
      by_cases hlt : k < is.length
      · obtain ⟨b, off, rfl, ca, cc, la, lc, c1, c2, c3, c4, c5⟩ := (hc.below hbr) k hlt
        have hok : RecOk wr ca (qx is k).code la (qx is k).looks (qx is k).out := ⟨c4, c5, HK0.out.lc k, HK0.out.lg k, HK0.out.xc k, HK0.out.ng k, HK0.out.sg k, HK0.out.so k⟩
        clear hc c4 c5
        obtain ⟨i, ei⟩ : ∃ i, qx is k = i := ⟨_, rfl⟩
        rw [ei] at c1 c2 c3 hok
        have EI : Hid (qx is k = i) := ei
        clear ei
        go_wp2_with fail
        refine (szRecord_left ca la cc lc i.code i.looks i.out q (by omega) (by omega) _ hok).mono ?_
        rintro e w1 ⟨hb1, r, rfl, hr⟩
        rcases hr with hr | hr
        · go_wp2
          go_ret
          exact ⟨hbr.trans (hb1.mono hbr.size), -1, rfl, Or.inl (by omega)⟩
        · have hr0 : 0 ≤ r := by omega
          have hr1 : r ≤ q := by omega
          go_wp2
          go_roundw
          case rel => exact ⟨k + 1, _, by omega, by go_num, rfl, by omega, by omega, hbr.trans (hb1.mono hbr.size), ext_succ HK.out (by rw [EI.out]; omega)⟩
          case measure => simp [intOf]; omega
      · go_wp2
        go_ret
        exact ⟨hbr, _, rfl, by refine Or.inr ⟨by omega, by omega, by omega, fun i hi => HK.out i (by omega)⟩⟩
  · go_enter Tryz.func14, Tryz.ntmps14
    go_wp2
    go_ret
    exact ⟨Below.refl _ _, -1, rfl, Or.inl (by omega)⟩

set_option maxHeartbeats 1000000 in
theorem szStore_left (n : Int) (ta ra : Option Addr) (tc rc : Nat) (ts : List ByteArray) (rs : List T3) (L : Int) (hL0 : 0 ≤ L) (hL1 : L ≤ 1048576) (w : World) (h : SoOk w ta ts ra rs) :
    Calls Tryz.prog 4 #[.agg #[.int .i64 n, .slice ta ts.length tc, .slice ra rs.length rc], .int .i64 L] w fun e w' => Below w.heap.size w w' ∧ ∃ r : Int, e = .returned (.int .i64 r) ∧ (r < 0 ∨ (0 ≤ r ∧ r ≤ 1048576 ∧ ts.length ≤ 1048576 ∧ QsSmall rs)) := by
  have hb0 : Below w.heap.size w (w.alloc (.cells #[.int .i64 n, .slice ta ts.length tc, .slice ra rs.length rc] 25)) := (Below.refl _ _).alloc (Nat.le_refl _) _
  have k2 : (w.alloc (.cells #[.int .i64 n, .slice ta ts.length tc, .slice ra rs.length rc] 25)).cell? ⟨w.heap.size, 2, none⟩ = some (.slice ra rs.length rc) := by simp [go_sem]
  have HO : Hid (SoOk w ta ts ra rs) := h
  clear h
  go_enter Tryz.func4, Tryz.ntmps4
  go_wp2_with fail
  refine (szStringS_any ta tc ts _ (HO.out.st.below hb0) HO.out.lt HO.out.xt L (by omega) (by omega)).mono ?_
  rintro e w1 ⟨rfl, r, rfl, hr⟩
  rcases hr with hr | ⟨h1, hr0, hr1⟩
  · go_wp2
    go_ret
    exact ⟨hb0, -1, rfl, Or.inl (by omega)⟩
  · have hlt : ts.length ≤ 1048576 := by omega
    go_wp2_with fail
    refine (szRecordS_left ra rc rs r _ hr0 (by omega) (HO.out.rq.below hb0) HO.out.ok).mono ?_
    rintro e w2 ⟨hb2, r2, rfl, hr2⟩
    have hB2 := bt hb0 hb2
    clear hb0 hb2 k2
    rcases hr2 with hr2 | ⟨hr2, hr3, hq⟩
    · go_wp2
      go_ret
      exact ⟨hB2, -1, rfl, Or.inl (by omega)⟩
    · have HQ : Hid (QsSmall rs) := hq
      clear hq
      go_wp2
      go_ret
      exact ⟨hB2, r2, rfl, Or.inr ⟨by omega, by omega, hlt, HQ.out⟩⟩
end Go.Proofs.YtllhbgmadiclcaaGreatDoor
