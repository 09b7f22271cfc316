/-
  laws.markSourceS, heldSourceS, markTargetS, heldTargetS.
-/
import Derived.Test.YtmeojnaoljgieacDoorSpO
namespace Go.Proofs.YtmeojnaoljgieacDoor
open Go.RowKit
set_option linter.unusedVariables false

/-- The first n sources of the row bear the marks from K on. -/
def MkS (K n : Nat) (ys : List Value) : Prop := ∀ i, i < n → ys[i * 2]? = some (.string (mt (K + 2 * i))) ∧ ys[i * 2 + 1]? = some (.string (mt (K + 2 * i + 1)))
theorem mkS_set {K k : Nat} {ys : List Value} (h : MkS K k ys) (hx : k * 2 + 1 < ys.length) :
    MkS K (k + 1) ((ys.set (k * 2) (.string (mt (K + 2 * k)))).set (k * 2 + 1) (.string (mt (K + 2 * k + 1)))) := by
  intro i hi
  rcases Nat.lt_or_ge i k with hl | hl
  · obtain ⟨h1, h2⟩ := h i hl
    rw [set2_old _ _ (by omega), set2_old _ _ (by omega)]
    exact ⟨h1, h2⟩
  · obtain rfl : i = k := by omega
    exact ⟨set2_0 _ _ hx, set2_1 _ _ hx⟩

set_option maxRecDepth 100000 in
set_option maxHeartbeats 2000000 in
theorem markSourceS_any (B g n cap K : Nat) (xs : List Value) (w : World) (hown : w.ownsRow B 104 2 (.slice (some ⟨g, 0, none⟩) n cap) n xs) (hB : B ≤ w.heap.size) (hn : n ≤ 1048576) (h1 : 1 ≤ K) (h2 : K ≤ 900000000000000) :
    Calls Tryd.prog 66 #[.slice (some ⟨g, 0, none⟩) n cap, .int .i64 K] w fun e w' => e = .returned (.int .i64 ((K + 2 * n : Nat) : Int)) ∧ Below B w w' ∧ KeepB g w w' ∧ ∃ ys, w'.ownsRow B 104 2 (.slice (some ⟨g, 0, none⟩) n cap) n ys ∧ MkS K n ys := by
  have hBg : B ≤ g := (hown.lt g rfl).1
  go_enter Tryd.func66, Tryd.ntmps66
  go_wp2
  go_loopw [1, 5] (fun k i wr => ∃ (m : Nat) (ys : List Value), m ≤ n ∧ i = .int .i64 m ∧ k = .int .i64 ((K + 2 * m : Nat) : Int) ∧ Hid (wr.ownsRow B 104 2 (.slice (some ⟨g, 0, none⟩) n cap) n ys) ∧ Hid (MkS K m ys) ∧ Hid (KeepB g w wr) ∧ w.heap.size ≤ wr.heap.size ∧ Below B w wr) (fun _ i _ => n - (intOf i).toNat)
  case atStart => exact ⟨0, xs, Nat.zero_le _, rfl, rfl, hown, (fun i hi => by omega : MkS K 0 xs), (fun b _ _ => rfl : KeepB g w w), Nat.le_refl _, Below.refl _ _⟩
  case round =>
    obtain ⟨m, ys, hm, rfl, rfl, HO, HM, HK, hsz, hbr⟩ := hrel
    clear hown
    by_cases hlt : m < n
    · have hlx : m * 2 + 1 < ys.length := by rw [HO.out.1]; omega
      have HM2 : Hid (MkS K (m + 1) ((ys.set (m * 2) (.string (mt (K + 2 * m)))).set (m * 2 + 1) (.string (mt (K + 2 * m + 1))))) := mkS_set HM.out hlx
      have hKb : K + 2 * m + 1 < 1000000000000000 := by omega
      have HT : Hid (∀ W : World, Calls Tryd.prog 96 #[.int .i64 ((K + 2 * m : Nat) : Int)] W fun e w' => Below W.heap.size W w' ∧ e = .returned (.string (mt (K + 2 * m)))) := fun W => markText_any (K + 2 * m) W (by omega) (by omega)
      have HU : Hid (∀ W : World, Calls Tryd.prog 96 #[.int .i64 ((K + 2 * m : Nat) + 1 : Int)] W fun e w' => Below W.heap.size W w' ∧ e = .returned (.string (mt (K + 2 * m + 1)))) := fun W => by
        have h := markText_any (K + 2 * m + 1) W (by omega) hKb
        rw [show ((K + 2 * m + 1 : Nat) : Int) = ((K + 2 * m : Nat) : Int) + 1 by omega] at h
        exact h
      generalize mt (K + 2 * m) = t at *
      generalize mt (K + 2 * m + 1) = u at *
      obtain ⟨c, ec⟩ : ∃ c, K + 2 * m = c := ⟨_, rfl⟩
      rw [ec] at HT HU hKb ⊢
      have HE : Hid (K + 2 * m = c) := ec
      clear ec
      have hmI : (m : Int) < (n : Int) := by omega
      go_wp2_with fail
      refine (HT.out _).mono ?_
      rintro e w2 ⟨hb2, rfl⟩
      have hown2 := ownsRow_below HO.out hb2
      have hbw : Below B w w2 := hbr.trans (hb2.mono (by omega))
      have hfr2 := hown2.frozenAt
      obtain ⟨o1, d1⟩ := cell_of_length2 hown2 (j := m * 2) (by omega)
      have HO2 : Hid (w2.ownsRow B 104 2 (.slice (some ⟨g, 0, none⟩) n cap) n ys) := hown2
      have HK2 : Hid (KeepB g w w2) := HK.out.below hsz hb2
      have hs2 : w.heap.size ≤ w2.heap.size := by have := hb2.size; omega
      clear hown2 hb2 hbr HO
      go_wp2_with fail
      refine (HU.out _).mono ?_
      rintro e w3 ⟨hb3, rfl⟩
      have hown3 := ownsRow_below (HO2.out.stored (m * 2) (.string t)).1 hb3
      have hbw3 : Below B w w3 := (hbw.setCell (p := ⟨g, m * 2, none⟩) hBg _).trans (hb3.mono (by simp; omega))
      have HK3 : Hid (KeepB g w w3) := (HK2.out.set (m * 2) _).below (by simpa using hs2) hb3
      have hs3 : w.heap.size ≤ w3.heap.size := by have := hb3.size; simp at this; omega
      have hfr3 := hown3.frozenAt
      obtain ⟨o3, d3⟩ := cell_of_length2 hown3 (j := m * 2 + 1) (by omega)
      have HO3 : Hid (w3.ownsRow B 104 2 (.slice (some ⟨g, 0, none⟩) n cap) n (ys.set (m * 2) (.string t))) := hown3
      clear hown3 hb3 d1 hbw hfr2 HO2
      go_wp2
      go_roundw
      case rel => exact ⟨m + 1, _, by omega, by go_num, congrArg (Value.int .i64) (by have := HE.out; omega), (HO3.out.stored _ _).1, HM2.out, HK3.out.set _ _, by simpa using hs3, hbw3.setCell (p := ⟨g, m * 2 + 1, none⟩) hBg _⟩
      case measure => simp [intOf]; omega
    · have em : m = n := by omega
      subst em
      go_wp2
      go_ret
      exact ⟨rfl, hbr, HK.out, ys, HO.out, HM.out⟩

set_option maxHeartbeats 400000 in
theorem markSourceS_nil (K : Nat) (w : World) (h2 : K ≤ 900000000000000) :
    Calls Tryd.prog 66 #[.slice none 0 0, .int .i64 K] w fun e w' => e = .returned (.int .i64 (K : Int)) ∧ w = w' := by
  go_enter Tryd.func66, Tryd.ntmps66
  go_wp2
  go_loopw [1, 5] (fun k i wr => i = .int .i64 0 ∧ k = .int .i64 (K : Int) ∧ w = wr) (fun _ i _ => 0)
  case atStart => exact ⟨rfl, rfl, rfl⟩
  case round =>
    obtain ⟨rfl, rfl, rfl⟩ := hrel
    go_wp2
    go_ret
    exact ⟨rfl, rfl⟩
theorem markSourceS_own (lo hi n K : Nat) (v : Value) (xs : List Value) (w : World) (hr : RowO w lo hi 104 2 v n xs) (hB : lo ≤ w.heap.size) (hn : n ≤ 1048576) (h1 : 1 ≤ K) (h2 : K ≤ 900000000000000) :
    Calls Tryd.prog 66 #[v, .int .i64 K] w fun e w' => e = .returned (.int .i64 ((K + 2 * n : Nat) : Int)) ∧ Below lo w w' ∧ KeepO v.ownBlock w w' ∧ ∃ ys, RowO w' lo hi 104 2 v n ys ∧ MkS K n ys := by
  rcases own_cases hr.own with ⟨rfl, rfl⟩ | ⟨g, cap, rfl⟩
  · refine (markSourceS_nil K w h2).mono ?_
    rintro e w' ⟨rfl, rfl⟩
    exact ⟨rfl, Below.refl _ _, fun _ _ _ => rfl, xs, hr, fun i hi => by omega⟩
  · refine (markSourceS_any lo g n cap K xs w hr.own hB hn h1 h2).mono ?_
    rintro e w' ⟨he, hb, hk, ys, ho, hm⟩
    exact ⟨he, hb, fun b hl hne => hk b hl (fun e => hne (by subst e; rfl)), ys, ⟨ho, hr.top⟩, hm⟩

/-- The marks are read back. -/
def RdS (K n : Nat) (w : World) (g : Nat) : Prop := ∀ i, i < n → w.cell? ⟨g, i * 2, none⟩ = some (.string (mt (K + 2 * i))) ∧ w.cell? ⟨g, i * 2 + 1, none⟩ = some (.string (mt (K + 2 * i + 1)))
theorem MkS.read {w : World} {B g n cap K : Nat} {ys : List Value} (h : w.ownsRow B 104 2 (.slice (some ⟨g, 0, none⟩) n cap) n ys) (hm : MkS K n ys) : RdS K n w g := by
  intro i hi
  obtain ⟨h1, h2⟩ := hm i hi
  exact ⟨by rw [h.cellAt _ (by omega)]; exact h1, by rw [h.cellAt _ (by omega)]; exact h2⟩
theorem RdS.below {w w' : World} {g n K : Nat} (h : RdS K n w g) (hb : Below w.heap.size w w') : RdS K n w' g := fun i hi =>
  ⟨cell_below hb (h i hi).1, cell_below hb (h i hi).2⟩

set_option maxRecDepth 100000 in
set_option maxHeartbeats 4000000 in
theorem heldSourceS_any (g n cap K : Nat) (w : World) (hr : RdS K n w g) (hn : n ≤ 1048576) (h1 : 1 ≤ K) (h2 : K ≤ 900000000000000) :
    Calls Tryd.prog 68 #[.slice (some ⟨g, 0, none⟩) n cap, .int .i64 K] w fun e w' => e = .returned (.int .i64 ((K + 2 * n : Nat) : Int)) ∧ Below w.heap.size w w' := by
  have HR : Hid (RdS K n w g) := hr
  clear hr
  go_enter Tryd.func68, Tryd.ntmps68
  go_wp2
  go_loopw [1, 5] (fun k i wr => ∃ (m : Nat), m ≤ n ∧ i = .int .i64 m ∧ k = .int .i64 ((K + 2 * m : Nat) : Int) ∧ Below w.heap.size w wr) (fun _ i _ => n - (intOf i).toNat)
  case atStart => exact ⟨0, Nat.zero_le _, rfl, rfl, Below.refl _ _⟩
  case round =>
    obtain ⟨m, hm, rfl, rfl, hbr⟩ := hrel
    by_cases hlt : m < n
    · obtain ⟨c1, c2⟩ := (HR.out.below hbr) m hlt
      have hKb : K + 2 * m + 1 < 1000000000000000 := by omega
      have HT : Hid (∀ W : World, Calls Tryd.prog 96 #[.int .i64 ((K + 2 * m : Nat) : Int)] W fun e w' => Below W.heap.size W w' ∧ e = .returned (.string (mt (K + 2 * m)))) := fun W => markText_any (K + 2 * m) W (by omega) (by omega)
      have HU : Hid (∀ W : World, Calls Tryd.prog 96 #[.int .i64 ((K + 2 * m : Nat) + 1 : Int)] W fun e w' => Below W.heap.size W w' ∧ e = .returned (.string (mt (K + 2 * m + 1)))) := fun W => by
        have h := markText_any (K + 2 * m + 1) W (by omega) hKb
        rw [show ((K + 2 * m + 1 : Nat) : Int) = ((K + 2 * m : Nat) : Int) + 1 by omega] at h
        exact h
      generalize mt (K + 2 * m) = t at *
      generalize mt (K + 2 * m + 1) = u at *
      obtain ⟨c, ec⟩ : ∃ c, K + 2 * m = c := ⟨_, rfl⟩
      rw [ec] at HT HU hKb ⊢
      have HE : Hid (K + 2 * m = c) := ec
      clear ec
      have et := str_eq (rfl : t = t)
      have eu := str_eq (rfl : u = u)
      have hmI : (m : Int) < (n : Int) := by omega
      have hm0 : (0 : Int) ≤ (m : Int) := by omega
      have hbA : Below wr.heap.size wr wr.drew := (Below.refl _ _).drew
      go_wp2_with fail
      go_region_held3 (fun w' => w'.cell? ⟨g, m * 2, none⟩ = some (.string t) ∧ w'.cell? ⟨g, m * 2 + 1, none⟩ = some (.string u))
        (first | assumption | (simp [*]; done) | exact ⟨cell_below hb2 (by simp [*]), cell_below hb2 (by simp [*])⟩)
        (first | (go_at_call 96; refine (HT.out _).mono ?_; rintro e w2 ⟨hb2, rfl⟩))
      all_goals
        have d3 := cell_below hb2 (cell_below hbA c2)
        have hB2 := bt hbr (bt hbA hb2)
        clear c1 c2 hb2 hbA
        have hbC : Below w2.heap.size w2 w2.drew := (Below.refl _ _).drew
        go_wp2_with fail
        go_region_held3 (fun w' => w'.cell? ⟨g, m * 2 + 1, none⟩ = some (.string u))
          (first | assumption | (simp [*]; done) | exact cell_below hb3 (by simp [*]))
          (first | (go_at_call 96; refine (HU.out _).mono ?_; rintro e w3 ⟨hb3, rfl⟩))
        all_goals
          have hB3 := bt hB2 (bt hbC hb3)
          clear d3 hb3 hbC
          go_wp2
          go_roundw
          case rel => exact ⟨m + 1, by omega, by go_num, congrArg (Value.int .i64) (by have := HE.out; omega), hB3⟩
          case measure => simp [intOf]; omega
    · have em : m = n := by omega
      subst em
      go_wp2
      go_ret
      exact ⟨rfl, hbr⟩

set_option maxHeartbeats 400000 in
theorem heldSourceS_nil (K : Nat) (w : World) (h2 : K ≤ 900000000000000) :
    Calls Tryd.prog 68 #[.slice none 0 0, .int .i64 K] w fun e w' => e = .returned (.int .i64 (K : Int)) ∧ w = w' := by
  go_enter Tryd.func68, Tryd.ntmps68
  go_wp2
  go_loopw [1, 5] (fun k i wr => i = .int .i64 0 ∧ k = .int .i64 (K : Int) ∧ w = wr) (fun _ i _ => 0)
  case atStart => exact ⟨rfl, rfl, rfl⟩
  case round =>
    obtain ⟨rfl, rfl, rfl⟩ := hrel
    go_wp2
    go_ret
    exact ⟨rfl, rfl⟩
theorem heldSourceS_own (lo hi n K : Nat) (v : Value) (ys : List Value) (w : World) (hr : RowO w lo hi 104 2 v n ys) (hm : MkS K n ys) (hn : n ≤ 1048576) (h1 : 1 ≤ K) (h2 : K ≤ 900000000000000) :
    Calls Tryd.prog 68 #[v, .int .i64 K] w fun e w' => e = .returned (.int .i64 ((K + 2 * n : Nat) : Int)) ∧ Below w.heap.size w w' := by
  rcases own_cases hr.own with ⟨rfl, rfl⟩ | ⟨g, cap, rfl⟩
  · refine (heldSourceS_nil K w h2).mono ?_
    rintro e w' ⟨rfl, rfl⟩
    exact ⟨rfl, Below.refl _ _⟩
  · exact heldSourceS_any g n cap K w (MkS.read hr.own hm) hn h1 h2

/-! ### targets -/
/-- The mark of target i's name. -/
def kT (cl : Nat → Nat) (K : Nat) : Nat → Nat
  | 0 => K
  | i + 1 => kT cl K i + 1 + 3 * cl i
theorem kT_le (cl : Nat → Nat) (K : Nat) : ∀ i n, i ≤ n → kT cl K i ≤ kT cl K n := by
  intro i n h
  induction n with
  | zero => obtain rfl : i = 0 := by omega
            exact Nat.le_refl _
  | succ n ih =>
    rcases Nat.lt_or_ge i (n + 1) with h1 | h1
    · have := ih (by omega)
      simp only [kT]; omega
    · obtain rfl : i = n + 1 := by omega
      exact Nat.le_refl _
theorem kT_bound (cl : Nat → Nat) (K : Nat) : ∀ n, (∀ i, i < n → cl i ≤ 1048576) → kT cl K n ≤ K + n * 3145729 := by
  intro n
  induction n with
  | zero => intro _; simp [kT]
  | succ n ih =>
    intro h
    have := ih (fun i hi => h i (by omega))
    have := h n (by omega)
    simp only [kT]
    rw [Nat.succ_mul]; omega
structure RowsT (w : World) (lo hi : Nat) (v : Value) (n : Nat) (cl : Nat → Nat) (xs : List Value) (cv : Nat → Value) : Prop where
  row : RowO w lo hi 120 2 v n xs
  sec : ∀ i, i < n → xs[i * 2 + 1]? = some (cv i)
  code : ∀ i, i < n → ∃ ys, RowO w lo hi 171 3 (cv i) (cl i) ys
  apart : ∀ i j, i < n → j < n → i ≠ j → ∀ b, (cv i).ownBlock = some b → (cv j).ownBlock ≠ some b
theorem OwnT1.rows {w : World} {lo hi : Nat} {v : Value} {ts : List T2} {xs : List Value} {cv : Nat → Value} (h : OwnT1 w lo hi v ts xs cv) : RowsT w lo hi v ts.length (fun i => (tx ts i).code.length) xs cv :=
  ⟨h.row, fun i hi => (h.fil i hi).2, fun i hi => by obtain ⟨ys, h1, _⟩ := h.code i hi; exact ⟨ys, h1⟩, fun i j hi hj hne b e1 e2 => by
    rcases Nat.lt_or_gt_of_ne hne with h1 | h1
    · exact h.apart i j h1 hj b e1 e2
    · exact h.apart j i h1 hi b e2 e1⟩
theorem RowsT.below {w w' : World} {lo hi n : Nat} {v : Value} {cl : Nat → Nat} {xs : List Value} {cv : Nat → Value} (h : RowsT w lo hi v n cl xs cv) (hb : Below w.heap.size w w') : RowsT w' lo hi v n cl xs cv :=
  ⟨h.row.below hb, h.sec, fun i hi => by obtain ⟨ys, h1⟩ := h.code i hi; exact ⟨ys, h1.below hb⟩, h.apart⟩
theorem RowsT.keep {w w' : World} {lo hi lo' hi' n : Nat} {v : Value} {cl : Nat → Nat} {xs : List Value} {cv : Nat → Value} (h : RowsT w lo hi v n cl xs cv) (hk : KeepR lo' hi' w w') (hd : hi ≤ lo' ∨ hi' ≤ lo) : RowsT w' lo hi v n cl xs cv :=
  ⟨h.row.keep hk hd, h.sec, fun i hi => by obtain ⟨ys, h1⟩ := h.code i hi; exact ⟨ys, h1.keep hk hd⟩, h.apart⟩
theorem RowsT.keepO {w w' : World} {lo hi n : Nat} {v u : Value} {e sz m B : Nat} {zs : List Value} {cl : Nat → Nat} {xs : List Value} {cv : Nat → Value} (h : RowsT w lo hi v n cl xs cv) (ho : w.ownsRow B e sz u m zs) (hk : KeepO u.ownBlock w w') (h1 : 120 ≠ e) (h2 : 171 ≠ e) : RowsT w' lo hi v n cl xs cv :=
  ⟨h.row.same fun b eb => hk b (h.row.own.lt b eb).2 (fun e' => neT h.row.own ho h1 b eb e'.symm), h.sec, fun i hi => by
    obtain ⟨ys, k1⟩ := h.code i hi
    exact ⟨ys, k1.same fun b eb => hk b (k1.own.lt b eb).2 (fun e' => neT k1.own ho h2 b eb e'.symm)⟩, h.apart⟩
theorem RowsT.store {w : World} {lo hi n g cap : Nat} {cl : Nat → Nat} {xs : List Value} {cv : Nat → Value} (h : RowsT w lo hi (.slice (some ⟨g, 0, none⟩) n cap) n cl xs cv) (m : Nat) (u : Value) : RowsT (w.setCell ⟨g, m * 2, none⟩ u) lo hi (.slice (some ⟨g, 0, none⟩) n cap) n cl (xs.set (m * 2) u) cv :=
  ⟨⟨(h.row.own.stored (m * 2) u).1, h.row.top⟩, fun i hi => by rw [List.getElem?_set, if_neg (by omega)]; exact h.sec i hi, fun i hi => by
    obtain ⟨ys, k1⟩ := h.code i hi
    exact ⟨ys, k1.same fun b eb => Below.heap_setCell w ⟨g, m * 2, none⟩ u b (by show b ≠ g; intro e; subst e; exact neT h.row.own k1.own (by decide) b rfl eb)⟩, h.apart⟩
theorem RowsT.mark {w w' : World} {lo hi n m : Nat} {v : Value} {cl : Nat → Nat} {xs zs : List Value} {cv : Nat → Value} (h : RowsT w lo hi v n cl xs cv) (hm : m < n) (hk : KeepO (cv m).ownBlock w w') (hn : RowO w' lo hi 171 3 (cv m) (cl m) zs) : RowsT w' lo hi v n cl xs cv := by
  obtain ⟨y0, k0⟩ := h.code m hm
  refine ⟨h.row.same fun b eb => hk b (h.row.own.lt b eb).2 (fun e' => neT h.row.own k0.own (by decide) b eb e'.symm), h.sec, fun i hi => ?_, h.apart⟩
  by_cases hi' : i = m
  · subst hi'; exact ⟨zs, hn⟩
  · obtain ⟨ys, k1⟩ := h.code i hi
    exact ⟨ys, k1.same fun b eb => hk b (k1.own.lt b eb).2 (fun e' => h.apart i m hi hm hi' b eb e'.symm)⟩
/-- The first m targets bear the marks. -/
def MkTm (w : World) (lo hi K : Nat) (cl : Nat → Nat) (cv : Nat → Value) (m : Nat) (ys : List Value) : Prop := ∀ i, i < m → ys[i * 2]? = some (.string (mt (kT cl K i))) ∧ ∃ zs, RowO w lo hi 171 3 (cv i) (cl i) zs ∧ MkI (kT cl K i + 1) (cl i) zs
theorem MkTm.below {w w' : World} {lo hi K m : Nat} {cl : Nat → Nat} {cv : Nat → Value} {ys : List Value} (h : MkTm w lo hi K cl cv m ys) (hb : Below w.heap.size w w') : MkTm w' lo hi K cl cv m ys := fun i hi => by
  obtain ⟨h1, zs, h2, h3⟩ := h i hi
  exact ⟨h1, zs, h2.below hb, h3⟩
theorem MkTm.keep {w w' : World} {lo hi lo' hi' K m : Nat} {cl : Nat → Nat} {cv : Nat → Value} {ys : List Value} (h : MkTm w lo hi K cl cv m ys) (hk : KeepR lo' hi' w w') (hd : hi ≤ lo' ∨ hi' ≤ lo) : MkTm w' lo hi K cl cv m ys := fun i hi => by
  obtain ⟨h1, zs, h2, h3⟩ := h i hi
  exact ⟨h1, zs, h2.keep hk hd, h3⟩
theorem MkTm.store {w : World} {lo hi K m n g cap : Nat} {cl : Nat → Nat} {cv : Nat → Value} {ys : List Value} (h : MkTm w lo hi K cl cv m ys) (hr : RowsT w lo hi (.slice (some ⟨g, 0, none⟩) n cap) n cl ys cv) (u : Value) : MkTm (w.setCell ⟨g, m * 2, none⟩ u) lo hi K cl cv m (ys.set (m * 2) u) := fun i hi => by
  obtain ⟨h1, zs, h2, h3⟩ := h i hi
  exact ⟨by rw [List.getElem?_set, if_neg (by omega)]; exact h1, zs, h2.same fun b eb => Below.heap_setCell w ⟨g, m * 2, none⟩ u b (by show b ≠ g; intro e; subst e; exact neT hr.row.own h2.own (by decide) b rfl eb), h3⟩
theorem MkTm.mark {w w' : World} {lo hi K m n : Nat} {v : Value} {cl : Nat → Nat} {cv : Nat → Value} {ys zs : List Value} (h : MkTm w lo hi K cl cv m ys) (hr : RowsT w lo hi v n cl ys cv) (hm : m < n) (hk : KeepO (cv m).ownBlock w w') (hn : RowO w' lo hi 171 3 (cv m) (cl m) zs) (hz : MkI (kT cl K m + 1) (cl m) zs) (hy : ys[m * 2]? = some (.string (mt (kT cl K m)))) : MkTm w' lo hi K cl cv (m + 1) ys := fun i hi => by
  rcases Nat.lt_or_ge i m with hlt | hge
  · obtain ⟨h1, zs', h2, h3⟩ := h i hlt
    exact ⟨h1, zs', h2.same fun b eb => hk b (h2.own.lt b eb).2 (fun e' => hr.apart i m (by omega) hm (by omega) b eb e'.symm), h3⟩
  · obtain rfl : i = m := by omega
    exact ⟨hy, zs, hn, hz⟩
/-- All blocks but the row's and the codes' stay. -/
def KeepTs (v : Value) (cv : Nat → Value) (n : Nat) (w w' : World) : Prop := ∀ b, b < w.heap.size → v.ownBlock ≠ some b → (∀ i, i < n → (cv i).ownBlock ≠ some b) → w'.heap[b]? = w.heap[b]?
theorem KeepTs.below {v : Value} {cv : Nat → Value} {n : Nat} {w w' w2 : World} (h : KeepTs v cv n w w') (hs : w.heap.size ≤ w'.heap.size) (hb : Below w'.heap.size w' w2) : KeepTs v cv n w w2 := fun b hl h1 h2 => by
  rw [hb.block b (by omega)]; exact h b hl h1 h2
theorem KeepTs.set {g n cap m : Nat} {cv : Nat → Value} {w w' : World} (h : KeepTs (.slice (some ⟨g, 0, none⟩) n cap) cv n w w') (u : Value) : KeepTs (.slice (some ⟨g, 0, none⟩) n cap) cv n w (w'.setCell ⟨g, m, none⟩ u) := fun b hl h1 h2 => by
  rw [Below.heap_setCell w' ⟨g, m, none⟩ u b (fun e => h1 (by rw [e]; rfl))]; exact h b hl h1 h2
theorem KeepTs.mark {v : Value} {cv : Nat → Value} {n m : Nat} {w w' w2 : World} (h : KeepTs v cv n w w') (hs : w.heap.size ≤ w'.heap.size) (hm : m < n) (hk : KeepO (cv m).ownBlock w' w2) : KeepTs v cv n w w2 := fun b hl h1 h2 => by
  rw [hk b (by omega) (fun e => h2 m hm e.symm)]; exact h b hl h1 h2
theorem KeepTs.keepR {v : Value} {cv : Nat → Value} {cl : Nat → Nat} {n lo hi : Nat} {xs : List Value} {w w' : World} (h : KeepTs v cv n w w') (hr : RowsT w lo hi v n cl xs cv) : KeepR lo hi w w' := fun b hb ho => h b hb (fun e => by have h1 := (hr.row.own.lt b e).1; have h2 := hr.row.top b e; omega) (fun i hi e => by
  obtain ⟨ys, k⟩ := hr.code i hi
  have h1 := (k.own.lt b e).1; have h2 := k.top b e; omega)
theorem code_slice {w : World} {lo hi : Nat} {v : Value} {n : Nat} {ys : List Value} (h : RowO w lo hi 171 3 v n ys) : ∃ va vc, v = .slice va n vc := by
  rcases own_cases h.own with ⟨hv, rfl⟩ | ⟨g', c', hv⟩
  · exact ⟨_, _, hv⟩
  · exact ⟨_, _, hv⟩

set_option maxRecDepth 100000 in
set_option maxHeartbeats 4000000 in
theorem markTargetS_any (lo hi g n cap K : Nat) (cl : Nat → Nat) (xs : List Value) (cv : Nat → Value) (w : World) (hr : RowsT w lo hi (.slice (some ⟨g, 0, none⟩) n cap) n cl xs cv) (hB : lo ≤ w.heap.size) (hn : n ≤ 1048576) (hcl : ∀ i, i < n → cl i ≤ 1048576) (h1 : 1 ≤ K) (h2 : kT cl K n ≤ 800000000000000) :
    Calls Tryd.prog 67 #[.slice (some ⟨g, 0, none⟩) n cap, .int .i64 K] w fun e w' => e = .returned (.int .i64 ((kT cl K n : Nat) : Int)) ∧ Below lo w w' ∧ KeepTs (.slice (some ⟨g, 0, none⟩) n cap) cv n w w' ∧ ∃ ys, RowsT w' lo hi (.slice (some ⟨g, 0, none⟩) n cap) n cl ys cv ∧ MkTm w' lo hi K cl cv n ys := by
  have hBg : lo ≤ g := (hr.row.own.lt g rfl).1
  have HCL : Hid (∀ i, i < n → cl i ≤ 1048576) := hcl
  have HKT : Hid (∀ i, i ≤ n → K ≤ kT cl K i ∧ kT cl K i ≤ 800000000000000) := fun i hi => ⟨kT_le cl K 0 i (Nat.zero_le _), Nat.le_trans (kT_le cl K i n hi) h2⟩
  clear hcl h2
  go_enter Tryd.func67, Tryd.ntmps67
  go_wp2
  go_loopw [1, 5] (fun k i wr => ∃ (m : Nat) (ys : List Value), m ≤ n ∧ i = .int .i64 m ∧ k = .int .i64 ((kT cl K m : Nat) : Int) ∧ Hid (RowsT wr lo hi (.slice (some ⟨g, 0, none⟩) n cap) n cl ys cv) ∧ Hid (MkTm wr lo hi K cl cv m ys) ∧ Hid (KeepTs (.slice (some ⟨g, 0, none⟩) n cap) cv n w wr) ∧ w.heap.size ≤ wr.heap.size ∧ Below lo w wr) (fun _ i _ => n - (intOf i).toNat)
  case atStart => exact ⟨0, xs, Nat.zero_le _, rfl, rfl, hr, (fun i hi => by omega : MkTm w lo hi K cl cv 0 xs), (fun b _ _ _ => rfl : KeepTs (.slice (some ⟨g, 0, none⟩) n cap) cv n w w), Nat.le_refl _, Below.refl _ _⟩
  case round =>
    obtain ⟨m, ys, hm, rfl, rfl, HR, HM, HK, hsz, hbr⟩ := hrel
    clear hr
    by_cases hlt : m < n
    · obtain ⟨hk1, hk2⟩ := HKT.out m hm
      have hcm := HCL.out m hlt
      have HS : Hid (kT cl K (m + 1) = kT cl K m + 1 + 3 * cl m) := rfl
      have hlx : m * 2 + 1 < ys.length := by rw [HR.out.row.own.1]; omega
      obtain ⟨c, ec⟩ : ∃ c, kT cl K m = c := ⟨_, rfl⟩
      have HT : Hid (∀ W : World, Calls Tryd.prog 96 #[.int .i64 (c : Int)] W fun e w' => Below W.heap.size W w' ∧ e = .returned (.string (mt c))) := fun W => markText_any c W (by omega) (by omega)
      have HI : Hid (∀ (W : World) (zs : List Value), W.ownsRow lo 171 3 (cv m) (cl m) zs → lo ≤ W.heap.size → Calls Tryd.prog 81 #[cv m, .int .i64 ((c : Int) + 1)] W fun e w' => e = .returned (.int .i64 ((c + 1 + 3 * cl m : Nat) : Int)) ∧ Below lo W w' ∧ KeepO (cv m).ownBlock W w' ∧ ∃ ys, w'.ownsRow lo 171 3 (cv m) (cl m) ys ∧ MkI (c + 1) (cl m) ys) := fun W zs h3 h4 => by
        have h := markInsS_own lo (cl m) (c + 1) (cv m) zs W h3 h4 hcm (by omega) (by omega)
        rw [show ((c + 1 : Nat) : Int) = (c : Int) + 1 by omega] at h
        exact h
      rw [ec] at hk1 hk2 HS ⊢
      have HE : Hid (kT cl K m = c) := ec
      clear ec
      have hmI : (m : Int) < (n : Int) := by omega
      obtain ⟨t, et⟩ : ∃ t, mt c = t := ⟨_, rfl⟩
      rw [et] at HT
      have HET : Hid (mt c = t) := et
      clear et
      obtain ⟨z0, hz0⟩ := HR.out.code m hlt
      obtain ⟨va, vc, ev⟩ := code_slice hz0
      have EV : Hid (cv m = .slice va (cl m) vc) := ev
      clear hz0 ev
      go_wp2_with fail
      refine (HT.out _).mono ?_
      rintro e w2 ⟨hb2, rfl⟩
      have HR2 : Hid (RowsT w2 lo hi (.slice (some ⟨g, 0, none⟩) n cap) n cl ys cv) := HR.out.below hb2
      have HM2 : Hid (MkTm w2 lo hi K cl cv m ys) := HM.out.below hb2
      have HK2 : Hid (KeepTs (.slice (some ⟨g, 0, none⟩) n cap) cv n w w2) := HK.out.below hsz hb2
      have hbw : Below lo w w2 := hbr.trans (hb2.mono (by omega))
      have hs2 : w.heap.size ≤ w2.heap.size := by have := hb2.size; omega
      have hfr2 := HR2.out.row.own.frozenAt
      obtain ⟨o1, d1⟩ := cell_of_length2 HR2.out.row.own (j := m * 2) (by omega)
      have d2 : w2.cell? ⟨g, m * 2 + 1, none⟩ = some (.slice va (cl m) vc) := by rw [HR2.out.row.own.cellAt _ (by omega), HR2.out.sec m hlt, EV.out]
      have HR3 : Hid (RowsT (w2.setCell ⟨g, m * 2, none⟩ (.string t)) lo hi (.slice (some ⟨g, 0, none⟩) n cap) n cl (ys.set (m * 2) (.string t)) cv) := HR2.out.store m (.string t)
      have HM3 : Hid (MkTm (w2.setCell ⟨g, m * 2, none⟩ (.string t)) lo hi K cl cv m (ys.set (m * 2) (.string t))) := HM2.out.store HR2.out (.string t)
      have HK3 : Hid (KeepTs (.slice (some ⟨g, 0, none⟩) n cap) cv n w (w2.setCell ⟨g, m * 2, none⟩ (.string t))) := HK2.out.set _
      have hbw3 : Below lo w (w2.setCell ⟨g, m * 2, none⟩ (.string t)) := hbw.setCell (p := ⟨g, m * 2, none⟩) hBg _
      have HC : Hid (Calls Tryd.prog 81 #[.slice va (cl m) vc, .int .i64 ((c : Int) + 1)] (w2.setCell ⟨g, m * 2, none⟩ (.string t)) fun e w' => e = .returned (.int .i64 ((c + 1 + 3 * cl m : Nat) : Int)) ∧ Below lo (w2.setCell ⟨g, m * 2, none⟩ (.string t)) w' ∧ KeepO (cv m).ownBlock (w2.setCell ⟨g, m * 2, none⟩ (.string t)) w' ∧ ∃ ys, w'.ownsRow lo 171 3 (cv m) (cl m) ys ∧ MkI (c + 1) (cl m) ys) := by
        obtain ⟨zs, hzs⟩ := HR3.out.code m hlt
        have h := HI.out _ zs hzs.own (by simp; omega)
        rw [EV.out] at h ⊢
        exact h
      clear hb2 hbr HR HM HK HI HT HR2 HM2 HK2 hbw
      go_wp2_with fail
      refine HC.out.mono ?_
      rintro e w4 ⟨rfl, hb4, hk4, zs, ho4, hm4⟩
      have ht4 : RowO w4 lo hi 171 3 (cv m) (cl m) zs := ⟨ho4, fun b eb => by obtain ⟨zz, hzz⟩ := HR3.out.code m hlt; exact hzz.top b eb⟩
      have HR4 : Hid (RowsT w4 lo hi (.slice (some ⟨g, 0, none⟩) n cap) n cl (ys.set (m * 2) (.string t)) cv) := HR3.out.mark hlt hk4 ht4
      have HM4 : Hid (MkTm w4 lo hi K cl cv (m + 1) (ys.set (m * 2) (.string t))) := HM3.out.mark HR3.out hlt hk4 ht4 (by rw [HE.out]; exact hm4) (by rw [HE.out, HET.out, List.getElem?_set, if_pos rfl, if_pos (by omega)])
      have HK4 : Hid (KeepTs (.slice (some ⟨g, 0, none⟩) n cap) cv n w w4) := HK3.out.mark (by simpa using hs2) hlt hk4
      have hbw4 : Below lo w w4 := hbw3.trans hb4
      have hs4 : w.heap.size ≤ w4.heap.size := by have := hb4.size; simp at this; omega
      clear hb4 hk4 ho4 hm4 ht4 HR3 HM3 HK3 hbw3 d1 d2 hfr2 HC
      go_wp2
      go_roundw
      case rel => exact ⟨m + 1, _, by omega, by go_num, congrArg (Value.int .i64) (by rw [HS.out]; omega), HR4.out, HM4.out, HK4.out, hs4, hbw4⟩
      case measure => simp [intOf]; omega
    · have em : m = n := by omega
      subst em
      go_wp2
      go_ret
      exact ⟨rfl, hbr, HK.out, ys, HR.out, HM.out⟩

set_option maxHeartbeats 400000 in
theorem markTargetS_nil (K : Nat) (w : World) (h2 : K ≤ 900000000000000) :
    Calls Tryd.prog 67 #[.slice none 0 0, .int .i64 K] w fun e w' => e = .returned (.int .i64 (K : Int)) ∧ w = w' := by
  go_enter Tryd.func67, Tryd.ntmps67
  go_wp2
  go_loopw [1, 5] (fun k i wr => i = .int .i64 0 ∧ k = .int .i64 (K : Int) ∧ w = wr) (fun _ i _ => 0)
  case atStart => exact ⟨rfl, rfl, rfl⟩
  case round =>
    obtain ⟨rfl, rfl, rfl⟩ := hrel
    go_wp2
    go_ret
    exact ⟨rfl, rfl⟩
theorem markTargetS_own (lo hi n K : Nat) (v : Value) (cl : Nat → Nat) (xs : List Value) (cv : Nat → Value) (w : World) (hr : RowsT w lo hi v n cl xs cv) (hB : lo ≤ w.heap.size) (hn : n ≤ 1048576) (hcl : ∀ i, i < n → cl i ≤ 1048576) (h1 : 1 ≤ K) (h2 : kT cl K n ≤ 800000000000000) :
    Calls Tryd.prog 67 #[v, .int .i64 K] w fun e w' => e = .returned (.int .i64 ((kT cl K n : Nat) : Int)) ∧ Below lo w w' ∧ KeepTs v cv n w w' ∧ ∃ ys, RowsT w' lo hi v n cl ys cv ∧ MkTm w' lo hi K cl cv n ys := by
  rcases own_cases hr.row.own with ⟨rfl, rfl⟩ | ⟨g, cap, rfl⟩
  · refine (markTargetS_nil K w (by simp only [kT] at h2; omega)).mono ?_
    rintro e w' ⟨rfl, rfl⟩
    exact ⟨rfl, Below.refl _ _, fun _ _ _ _ => rfl, xs, hr, fun i hi => by omega⟩
  · exact markTargetS_any lo hi g n cap K cl xs cv w hr hB hn hcl h1 h2

set_option maxRecDepth 100000 in
set_option maxHeartbeats 4000000 in
theorem heldTargetS_any (lo hi g n cap K : Nat) (cl : Nat → Nat) (ys : List Value) (cv : Nat → Value) (w : World) (hr : RowsT w lo hi (.slice (some ⟨g, 0, none⟩) n cap) n cl ys cv) (hm : MkTm w lo hi K cl cv n ys) (hn : n ≤ 1048576) (hcl : ∀ i, i < n → cl i ≤ 1048576) (h1 : 1 ≤ K) (h2 : kT cl K n ≤ 800000000000000) :
    Calls Tryd.prog 69 #[.slice (some ⟨g, 0, none⟩) n cap, .int .i64 K] w fun e w' => e = .returned (.int .i64 ((kT cl K n : Nat) : Int)) ∧ Below w.heap.size w w' := by
  have HR : Hid (RowsT w lo hi (.slice (some ⟨g, 0, none⟩) n cap) n cl ys cv) := hr
  have HM : Hid (MkTm w lo hi K cl cv n ys) := hm
  have HCL : Hid (∀ i, i < n → cl i ≤ 1048576) := hcl
  have HKT : Hid (∀ i, i ≤ n → K ≤ kT cl K i ∧ kT cl K i ≤ 800000000000000) := fun i hi => ⟨kT_le cl K 0 i (Nat.zero_le _), Nat.le_trans (kT_le cl K i n hi) h2⟩
  clear hr hm hcl h2
  go_enter Tryd.func69, Tryd.ntmps69
  go_wp2
  go_loopw [1, 5] (fun k i wr => ∃ (m : Nat), m ≤ n ∧ i = .int .i64 m ∧ k = .int .i64 ((kT cl K m : Nat) : Int) ∧ Below w.heap.size w wr) (fun _ i _ => n - (intOf i).toNat)
  case atStart => exact ⟨0, Nat.zero_le _, rfl, rfl, Below.refl _ _⟩
  case round =>
    obtain ⟨m, hm, rfl, rfl, hbr⟩ := hrel
    by_cases hlt : m < n
    · obtain ⟨hk1, hk2⟩ := HKT.out m hm
      have hcm := HCL.out m hlt
      have HS : Hid (kT cl K (m + 1) = kT cl K m + 1 + 3 * cl m) := rfl
      obtain ⟨x1, zs, x2, x3⟩ := (HM.out.below hbr) m hlt
      have hrr := HR.out.below hbr
      obtain ⟨c, ec⟩ : ∃ c, kT cl K m = c := ⟨_, rfl⟩
      rw [ec] at hk1 hk2 HS x1 x3 ⊢
      obtain ⟨va, vc, ev⟩ := code_slice x2
      have c1 : wr.cell? ⟨g, m * 2, none⟩ = some (.string (mt c)) := by rw [hrr.row.own.cellAt _ (by omega)]; exact x1
      have c2 : wr.cell? ⟨g, m * 2 + 1, none⟩ = some (.slice va (cl m) vc) := by rw [hrr.row.own.cellAt _ (by omega), hrr.sec m hlt, ev]
      have HT : Hid (∀ W : World, Calls Tryd.prog 96 #[.int .i64 (c : Int)] W fun e w' => Below W.heap.size W w' ∧ e = .returned (.string (mt c))) := fun W => markText_any c W (by omega) (by omega)
      have HI : Hid (∀ (W : World), Below wr.heap.size wr W → Calls Tryd.prog 119 #[.slice va (cl m) vc, .int .i64 ((c : Int) + 1)] W fun e w' => e = .returned (.int .i64 ((c + 1 + 3 * cl m : Nat) : Int)) ∧ Below W.heap.size W w') := fun W h3 => by
        have h := heldInsS_own lo (cl m) (c + 1) (cv m) zs W (x2.below h3).own x3 hcm (by omega) (by omega)
        rw [show ((c + 1 : Nat) : Int) = (c : Int) + 1 by omega, ev] at h
        exact h
      clear x1 x2 x3 hrr ev ec
      generalize mt c = t at *
      have et := str_eq (rfl : t = t)
      have hmI : (m : Int) < (n : Int) := by omega
      have hm0 : (0 : Int) ≤ (m : Int) := by omega
      have hlz : decide (((c + 1 + 3 * cl m : Nat) : Int) < 0) = false := by simp; omega
      have hbA : Below wr.heap.size wr wr.drew := (Below.refl _ _).drew
      go_wp2_with fail
      go_region_held3 (fun w' => w'.cell? ⟨g, m * 2, none⟩ = some (.string t) ∧ w'.cell? ⟨g, m * 2 + 1, none⟩ = some (.slice va (cl m) vc))
        (first | assumption | (simp [*]; done) | exact ⟨cell_below hb2 (by simp [*]), cell_below hb2 (by simp [*])⟩)
        (first | (go_at_call 96; refine (HT.out _).mono ?_; rintro e w2 ⟨hb2, rfl⟩))
      all_goals
        have d3 := cell_below hb2 (cell_below hbA c2)
        have hW2 := bt hbA hb2
        have hB2 := bt hbr hW2
        clear c1 c2 hb2 hbA
        go_wp2_with fail
        refine (HI.out w2 hW2).mono ?_
        rintro e w3 ⟨rfl, hb3⟩
        have hB3 := bt hB2 hb3
        clear d3 hb3 hW2
        go_wp2
        go_roundw
        case rel => exact ⟨m + 1, by omega, by go_num, congrArg (Value.int .i64) (by rw [HS.out]; omega), hB3⟩
        case measure => simp [intOf]; omega
    · have em : m = n := by omega
      subst em
      go_wp2
      go_ret
      exact ⟨rfl, hbr⟩

set_option maxHeartbeats 400000 in
theorem heldTargetS_nil (K : Nat) (w : World) (h2 : K ≤ 900000000000000) :
    Calls Tryd.prog 69 #[.slice none 0 0, .int .i64 K] w fun e w' => e = .returned (.int .i64 (K : Int)) ∧ w = w' := by
  go_enter Tryd.func69, Tryd.ntmps69
  go_wp2
  go_loopw [1, 5] (fun k i wr => i = .int .i64 0 ∧ k = .int .i64 (K : Int) ∧ w = wr) (fun _ i _ => 0)
  case atStart => exact ⟨rfl, rfl, rfl⟩
  case round =>
    obtain ⟨rfl, rfl, rfl⟩ := hrel
    go_wp2
    go_ret
    exact ⟨rfl, rfl⟩
theorem heldTargetS_own (lo hi n K : Nat) (v : Value) (cl : Nat → Nat) (ys : List Value) (cv : Nat → Value) (w : World) (hr : RowsT w lo hi v n cl ys cv) (hm : MkTm w lo hi K cl cv n ys) (hn : n ≤ 1048576) (hcl : ∀ i, i < n → cl i ≤ 1048576) (h1 : 1 ≤ K) (h2 : kT cl K n ≤ 800000000000000) :
    Calls Tryd.prog 69 #[v, .int .i64 K] w fun e w' => e = .returned (.int .i64 ((kT cl K n : Nat) : Int)) ∧ Below w.heap.size w w' := by
  rcases own_cases hr.row.own with ⟨rfl, rfl⟩ | ⟨g, cap, rfl⟩
  · refine (heldTargetS_nil K w (by simp only [kT] at h2; omega)).mono ?_
    rintro e w' ⟨rfl, rfl⟩
    exact ⟨rfl, Below.refl _ _⟩
  · exact heldTargetS_any lo hi g n cap K cl ys cv w hr hm hn hcl h1 h2

end Go.Proofs.YtmeojnaoljgieacDoor
