import Derived.Test.YtllhbgmadiclcaaGreatDoorSoA
import Derived.Deep.RegionHeld3
namespace Go.Proofs.YtllhbgmadiclcaaGreatDoor
open Go.RowKit
set_option linter.unusedVariables false

/-- The first n texts of the row bear the marks from K on. -/
def MkX (K n : Nat) (ys : List Value) : Prop := ∀ i, i < n → ys[i]? = some (.string (mt (K + i)))
theorem mkX_set {K k : Nat} {ys : List Value} (h : MkX K k ys) (hx : k < ys.length) : MkX K (k + 1) (ys.set k (.string (mt (K + k)))) := by
  intro i hi
  rw [List.getElem?_set]
  rcases Nat.lt_or_ge i k with hl | hl
  · rw [if_neg (by omega)]; exact h i hl
  · obtain rfl : i = k := by omega
    rw [if_pos rfl, if_pos hx]

set_option maxRecDepth 100000 in
set_option maxHeartbeats 2000000 in
theorem markStringS_mk (B g n cap K : Nat) (xs : List Value) (w : World) (hown : w.ownsRow B 9 1 (.slice (some ⟨g, 0, none⟩) n cap) n xs) (hB : B ≤ w.heap.size) (hn : n ≤ 1048576) (h1 : 1 ≤ K) (h2 : K ≤ 900000000000000) :
    Calls Tryz.prog 32 #[.slice (some ⟨g, 0, none⟩) n cap, .int .i64 K] w fun e w' => e = .returned (.int .i64 ((K + n : Nat) : Int)) ∧ Below B w w' ∧ KeepB g w w' ∧ ∃ ys, w'.ownsRow B 9 1 (.slice (some ⟨g, 0, none⟩) n cap) n ys ∧ MkX K n ys := by
  have hBg : B ≤ g := (hown.lt g rfl).1
  go_enter Tryz.func32, Tryz.ntmps32
  go_wp2
  go_loopw [1, 5] (fun k i wr => ∃ (m : Nat) (ys : List Value), m ≤ n ∧ i = .int .i64 m ∧ k = .int .i64 ((K + m : Nat) : Int) ∧ Hid (wr.ownsRow B 9 1 (.slice (some ⟨g, 0, none⟩) n cap) n ys) ∧ Hid (MkX K m ys) ∧ Hid (KeepB g w wr) ∧ w.heap.size ≤ wr.heap.size ∧ Below B w wr) (fun _ i _ => n - (intOf i).toNat)
  case atStart => exact ⟨0, xs, Nat.zero_le _, rfl, rfl, hown, (fun i hi => by omega : MkX K 0 xs), (fun b _ _ => rfl : KeepB g w w), Nat.le_refl _, Below.refl _ _⟩
  case round =>
    obtain ⟨m, ys, hm, rfl, rfl, HO, HM, HK, hsz, hbr⟩ := hrel
    clear hown
    by_cases hlt : m < n
    · have hlx : m < ys.length := by rw [HO.out.1]; omega
      have HM2 : Hid (MkX K (m + 1) (ys.set m (.string (mt (K + m))))) := mkX_set HM.out hlx
      have hKb : K + m < 1000000000000000 := by omega
      have HT : Hid (∀ W : World, Calls Tryz.prog 52 #[.int .i64 ((K + m : Nat) : Int)] W fun e w' => Below W.heap.size W w' ∧ e = .returned (.string (mt (K + m)))) := fun W => markText_any (K + m) W (by omega) (by omega)
      generalize mt (K + m) = t at *
      obtain ⟨c, ec⟩ : ∃ c, K + m = c := ⟨_, rfl⟩
      rw [ec] at HT hKb ⊢
      have HE : Hid (K + m = c) := ec
      clear ec
      have hmI : (m : Int) < (n : Int) := by omega
      go_wp2_with fail
      refine (HT.out _).mono ?_
      rintro e w2 ⟨hb2, rfl⟩
      have hown2 := ownsRow_below HO.out hb2
      have hbw : Below B w w2 := hbr.trans (hb2.mono (by omega))
      have hfr2 := hown2.frozenAt
      obtain ⟨o1, d1⟩ := cell_of_length1 hown2 (j := m) hlt
      have HO2 : Hid (w2.ownsRow B 9 1 (.slice (some ⟨g, 0, none⟩) n cap) n ys) := hown2
      have HK2 : Hid (KeepB g w w2) := HK.out.below hsz hb2
      have hs2 : w.heap.size ≤ w2.heap.size := by have := hb2.size; omega
      clear hown2 hb2 hbr HO
      go_wp2
      go_roundw
      case rel => exact ⟨m + 1, _, by omega, by go_num, congrArg (Value.int .i64) (by have := HE.out; omega), (HO2.out.stored _ _).1, HM2.out, HK2.out.set _ _, by simpa using hs2, hbw.setCell (p := ⟨g, m, none⟩) hBg _⟩
      case measure => simp [intOf]; omega
    · have em : m = n := by omega
      subst em
      go_wp2
      go_ret
      exact ⟨rfl, hbr, HK.out, ys, HO.out, HM.out⟩

theorem markStringS_row (lo hi n K : Nat) (v : Value) (xs : List Value) (w : World) (hr : RowO w lo hi 9 1 v n xs) (hB : lo ≤ w.heap.size) (hn : n ≤ 1048576) (h1 : 1 ≤ K) (h2 : K ≤ 900000000000000) :
    Calls Tryz.prog 32 #[v, .int .i64 K] w fun e w' => e = .returned (.int .i64 ((K + n : Nat) : Int)) ∧ Below lo w w' ∧ KeepO v.ownBlock w w' ∧ ∃ ys, RowO w' lo hi 9 1 v n ys ∧ MkX K n ys := by
  rcases own_casesM hr.own with ⟨rfl, rfl⟩ | ⟨g, cap, rfl⟩
  · refine (markStringS_nil K w h2).mono ?_
    rintro e w' ⟨rfl, rfl⟩
    exact ⟨rfl, Below.refl _ _, fun _ _ _ => rfl, xs, hr, fun i hi => by omega⟩
  · refine (markStringS_mk lo g n cap K xs w hr.own hB hn h1 h2).mono ?_
    rintro e w' ⟨he, hb, hk, ys, ho, hm⟩
    exact ⟨he, hb, fun b hl hne => hk b hl (fun e => hne (by subst e; rfl)), ys, ⟨ho, hr.top⟩, hm⟩

/-- The marks are read back. -/
def RdX (K n : Nat) (w : World) (g : Nat) : Prop := ∀ i, i < n → w.cell? ⟨g, i, none⟩ = some (.string (mt (K + i)))
theorem MkX.read {w : World} {B g n cap K : Nat} {ys : List Value} (h : w.ownsRow B 9 1 (.slice (some ⟨g, 0, none⟩) n cap) n ys) (hm : MkX K n ys) : RdX K n w g := by
  intro i hi
  rw [h.cellAt _ (by omega)]; exact hm i hi
theorem RdX.below {w w' : World} {g n K : Nat} (h : RdX K n w g) (hb : Below w.heap.size w w') : RdX K n w' g := fun i hi => cell_below hb (h i hi)

set_option maxRecDepth 100000 in
set_option maxHeartbeats 4000000 in
theorem heldStringS_any (g n cap K : Nat) (w : World) (hr : RdX K n w g) (hn : n ≤ 1048576) (h1 : 1 ≤ K) (h2 : K ≤ 900000000000000) :
    Calls Tryz.prog 55 #[.slice (some ⟨g, 0, none⟩) n cap, .int .i64 K] w fun e w' => e = .returned (.int .i64 ((K + n : Nat) : Int)) ∧ Below w.heap.size w w' := by
  have HR : Hid (RdX K n w g) := hr
  clear hr
  go_enter Tryz.func55, Tryz.ntmps55
  go_wp2
  go_loopw [1, 5] (fun k i wr => ∃ (m : Nat), m ≤ n ∧ i = .int .i64 m ∧ k = .int .i64 ((K + m : Nat) : Int) ∧ Below w.heap.size w wr) (fun _ i _ => n - (intOf i).toNat)
  case atStart => exact ⟨0, Nat.zero_le _, rfl, rfl, Below.refl _ _⟩
  case round =>
    obtain ⟨m, hm, rfl, rfl, hbr⟩ := hrel
    by_cases hlt : m < n
    · have c1 := (HR.out.below hbr) m hlt
      have hKb : K + m < 1000000000000000 := by omega
      have HT : Hid (∀ W : World, Calls Tryz.prog 52 #[.int .i64 ((K + m : Nat) : Int)] W fun e w' => Below W.heap.size W w' ∧ e = .returned (.string (mt (K + m)))) := fun W => markText_any (K + m) W (by omega) (by omega)
      generalize mt (K + m) = t at *
      obtain ⟨c, ec⟩ : ∃ c, K + m = c := ⟨_, rfl⟩
      rw [ec] at HT hKb ⊢
      have HE : Hid (K + m = c) := ec
      clear ec
      have et := str_eq (rfl : t = t)
      have hmI : (m : Int) < (n : Int) := by omega
      have hm0 : (0 : Int) ≤ (m : Int) := by omega
      have hbA : Below wr.heap.size wr wr.drew := (Below.refl _ _).drew
      go_wp2_with fail
      go_region_held3 (fun w' => w'.cell? ⟨g, m, none⟩ = some (.string t))
        (first | assumption | (simp [*]; done) | exact cell_below hb2 (by simp [*]))
        (first | (go_at_call 52; refine (HT.out _).mono ?_; rintro e w2 ⟨hb2, rfl⟩))
      all_goals
        have hB2 := bt hbr (bt hbA hb2)
        clear c1 hb2 hbA
        go_wp2
        go_roundw
        case rel => exact ⟨m + 1, by omega, by go_num, congrArg (Value.int .i64) (by have := HE.out; omega), hB2⟩
        case measure => simp [intOf]; omega
    · have em : m = n := by omega
      subst em
      go_wp2
      go_ret
      exact ⟨rfl, hbr⟩

set_option maxHeartbeats 400000 in
theorem heldStringS_nil (K : Nat) (w : World) (h2 : K ≤ 900000000000000) :
    Calls Tryz.prog 55 #[.slice none 0 0, .int .i64 K] w fun e w' => e = .returned (.int .i64 (K : Int)) ∧ w = w' := by
  go_enter Tryz.func55, Tryz.ntmps55
  go_wp2
  go_loopw [1, 5] (fun k i wr => i = .int .i64 0 ∧ k = .int .i64 (K : Int) ∧ w = wr) (fun _ i _ => 0)
  case atStart => exact ⟨rfl, rfl, rfl⟩
  case round =>
    obtain ⟨rfl, rfl, rfl⟩ := hrel
    go_wp2
    go_ret
    exact ⟨rfl, rfl⟩
theorem heldStringS_row (lo hi n K : Nat) (v : Value) (ys : List Value) (w : World) (hr : RowO w lo hi 9 1 v n ys) (hm : MkX K n ys) (hn : n ≤ 1048576) (h1 : 1 ≤ K) (h2 : K ≤ 900000000000000) :
    Calls Tryz.prog 55 #[v, .int .i64 K] w fun e w' => e = .returned (.int .i64 ((K + n : Nat) : Int)) ∧ Below w.heap.size w w' := by
  rcases own_casesM hr.own with ⟨rfl, rfl⟩ | ⟨g, cap, rfl⟩
  · refine (heldStringS_nil K w h2).mono ?_
    rintro e w' ⟨rfl, rfl⟩
    exact ⟨rfl, Below.refl _ _⟩
  · exact heldStringS_any g n cap K w (MkX.read hr.own hm) hn h1 h2

end Go.Proofs.YtllhbgmadiclcaaGreatDoor
namespace Go.Proofs.YtllhbgmadiclcaaGreatDoor
open Go.RowKit
set_option linter.unusedVariables false

/-- The first mark of record i. -/
def kR (cl gl : Nat → Nat) (K : Nat) : Nat → Nat
  | 0 => K
  | i + 1 => kR cl gl K i + 3 * cl i + 3 * gl i + 1
theorem kR_le (cl gl : Nat → Nat) (K : Nat) : ∀ i n, i ≤ n → kR cl gl K i ≤ kR cl gl K n := by
  intro i n h
  induction n with
  | zero => obtain rfl : i = 0 := by omega
            exact Nat.le_refl _
  | succ n ih =>
    rcases Nat.lt_or_ge i (n + 1) with h1 | h1
    · have := ih (by omega)
      simp only [kR]; omega
    · obtain rfl : i = n + 1 := by omega
      exact Nat.le_refl _
theorem kR_bound (cl gl : Nat → Nat) (K : Nat) : ∀ n, (∀ i, i < n → cl i ≤ 1048576 ∧ gl i ≤ 1048576) → kR cl gl K n ≤ K + n * 6291457 := by
  intro n
  induction n with
  | zero => intro _; simp [kR]
  | succ n ih =>
    intro h
    have := ih (fun i hi => h i (by omega))
    have := h n (by omega)
    simp only [kR]
    rw [Nat.succ_mul]; omega
structure RowsQ (w : World) (lo hi : Nat) (v : Value) (n : Nat) (cl gl : Nat → Nat) (xs : List Value) (cv lv : Nat → Value) : Prop where
  row : RowO w lo hi 50 3 v n xs
  fst : ∀ i, i < n → xs[i * 3]? = some (cv i)
  snd : ∀ i, i < n → xs[i * 3 + 1]? = some (lv i)
  code : ∀ i, i < n → ∃ ys, RowO w lo hi 98 3 (cv i) (cl i) ys
  look : ∀ i, i < n → ∃ ys, RowO w lo hi 90 3 (lv i) (gl i) ys
  apc : ∀ i j, i < n → j < n → i ≠ j → ∀ b, (cv i).ownBlock = some b → (cv j).ownBlock ≠ some b
  apl : ∀ i j, i < n → j < n → i ≠ j → ∀ b, (lv i).ownBlock = some b → (lv j).ownBlock ≠ some b
theorem OwnQ1.rows {w : World} {lo hi : Nat} {v : Value} {rs : List T3} {xs : List Value} {cv lv : Nat → Value} (h : OwnQ1 w lo hi v rs xs cv lv) : RowsQ w lo hi v rs.length (fun i => (qx rs i).code.length) (fun i => (qx rs i).looks.length) xs cv lv :=
  ⟨h.row, fun i hi => (h.fil i hi).1, fun i hi => (h.fil i hi).2.1, fun i hi => by obtain ⟨ys, h1, _⟩ := h.code i hi; exact ⟨ys, h1⟩, fun i hi => by obtain ⟨ys, h1, _⟩ := h.look i hi; exact ⟨ys, h1⟩, fun i j hi hj hne b e1 e2 => by
    rcases Nat.lt_or_gt_of_ne hne with h1 | h1
    · exact h.apc i j h1 hj b e1 e2
    · exact h.apc j i h1 hi b e2 e1, fun i j hi hj hne b e1 e2 => by
    rcases Nat.lt_or_gt_of_ne hne with h1 | h1
    · exact h.apl i j h1 hj b e1 e2
    · exact h.apl j i h1 hi b e2 e1⟩
theorem RowsQ.same {w w' : World} {lo hi n : Nat} {v : Value} {cl gl : Nat → Nat} {xs : List Value} {cv lv : Nat → Value} (h : RowsQ w lo hi v n cl gl xs cv lv) (h1 : ∀ b, v.ownBlock = some b → w'.heap[b]? = w.heap[b]?) (h2 : ∀ i, i < n → ∀ b, (cv i).ownBlock = some b → w'.heap[b]? = w.heap[b]?) (h3 : ∀ i, i < n → ∀ b, (lv i).ownBlock = some b → w'.heap[b]? = w.heap[b]?) : RowsQ w' lo hi v n cl gl xs cv lv :=
  ⟨h.row.same h1, h.fst, h.snd, fun i hi => by obtain ⟨ys, k⟩ := h.code i hi; exact ⟨ys, k.same (h2 i hi)⟩, fun i hi => by obtain ⟨ys, k⟩ := h.look i hi; exact ⟨ys, k.same (h3 i hi)⟩, h.apc, h.apl⟩
theorem RowsQ.lt {w : World} {lo hi n : Nat} {v : Value} {cl gl : Nat → Nat} {xs : List Value} {cv lv : Nat → Value} (h : RowsQ w lo hi v n cl gl xs cv lv) {b : Nat} (hb : v.ownBlock = some b ∨ (∃ i, i < n ∧ (cv i).ownBlock = some b) ∨ ∃ i, i < n ∧ (lv i).ownBlock = some b) : lo ≤ b ∧ b < hi ∧ b < w.heap.size := by
  rcases hb with e | ⟨i, hi, e⟩ | ⟨i, hi, e⟩
  · exact ⟨(h.row.own.lt b e).1, h.row.top b e, (h.row.own.lt b e).2⟩
  · obtain ⟨ys, k⟩ := h.code i hi
    exact ⟨(k.own.lt b e).1, k.top b e, (k.own.lt b e).2⟩
  · obtain ⟨ys, k⟩ := h.look i hi
    exact ⟨(k.own.lt b e).1, k.top b e, (k.own.lt b e).2⟩
theorem RowsQ.below {w w' : World} {lo hi n : Nat} {v : Value} {cl gl : Nat → Nat} {xs : List Value} {cv lv : Nat → Value} (h : RowsQ w lo hi v n cl gl xs cv lv) (hb : Below w.heap.size w w') : RowsQ w' lo hi v n cl gl xs cv lv :=
  h.same (fun b e => hb.block b (h.lt (Or.inl e)).2.2) (fun i hi b e => hb.block b (h.lt (Or.inr (Or.inl ⟨i, hi, e⟩))).2.2) (fun i hi b e => hb.block b (h.lt (Or.inr (Or.inr ⟨i, hi, e⟩))).2.2)
theorem RowsQ.keepO {w w' : World} {lo hi n : Nat} {v u : Value} {e sz m B : Nat} {zs : List Value} {cl gl : Nat → Nat} {xs : List Value} {cv lv : Nat → Value} (h : RowsQ w lo hi v n cl gl xs cv lv) (ho : w.ownsRow B e sz u m zs) (hk : KeepO u.ownBlock w w') (h1 : 50 ≠ e) (h2 : 98 ≠ e) (h3 : 90 ≠ e) : RowsQ w' lo hi v n cl gl xs cv lv :=
  h.same (fun b eb => hk b (h.lt (Or.inl eb)).2.2 (fun e' => neT h.row.own ho h1 b eb e'.symm)) (fun i hi b eb => by
    obtain ⟨ys, k⟩ := h.code i hi
    exact hk b (k.own.lt b eb).2 (fun e' => neT k.own ho h2 b eb e'.symm)) (fun i hi b eb => by
    obtain ⟨ys, k⟩ := h.look i hi
    exact hk b (k.own.lt b eb).2 (fun e' => neT k.own ho h3 b eb e'.symm))
theorem RowsQ.store {w : World} {lo hi n g cap : Nat} {cl gl : Nat → Nat} {xs : List Value} {cv lv : Nat → Value} (h : RowsQ w lo hi (.slice (some ⟨g, 0, none⟩) n cap) n cl gl xs cv lv) (m : Nat) (u : Value) : RowsQ (w.setCell ⟨g, m * 3 + 2, none⟩ u) lo hi (.slice (some ⟨g, 0, none⟩) n cap) n cl gl (xs.set (m * 3 + 2) u) cv lv :=
  ⟨⟨(h.row.own.stored (m * 3 + 2) u).1, h.row.top⟩, fun i hi => by rw [List.getElem?_set, if_neg (by omega)]; exact h.fst i hi, fun i hi => by rw [List.getElem?_set, if_neg (by omega)]; exact h.snd i hi, fun i hi => by
    obtain ⟨ys, k1⟩ := h.code i hi
    exact ⟨ys, k1.same fun b eb => Below.heap_setCell w ⟨g, m * 3 + 2, none⟩ u b (by show b ≠ g; intro e; subst e; exact neT h.row.own k1.own (by decide) b rfl eb)⟩, fun i hi => by
    obtain ⟨ys, k1⟩ := h.look i hi
    exact ⟨ys, k1.same fun b eb => Below.heap_setCell w ⟨g, m * 3 + 2, none⟩ u b (by show b ≠ g; intro e; subst e; exact neT h.row.own k1.own (by decide) b rfl eb)⟩, h.apc, h.apl⟩
theorem RowsQ.markC {w w' : World} {lo hi n m : Nat} {v : Value} {cl gl : Nat → Nat} {xs zs : List Value} {cv lv : Nat → Value} (h : RowsQ w lo hi v n cl gl xs cv lv) (hm : m < n) (hk : KeepO (cv m).ownBlock w w') (hn : RowO w' lo hi 98 3 (cv m) (cl m) zs) : RowsQ w' lo hi v n cl gl xs cv lv := by
  obtain ⟨y0, k0⟩ := h.code m hm
  refine ⟨h.row.same fun b eb => hk b (h.row.own.lt b eb).2 (fun e' => neT h.row.own k0.own (by decide) b eb e'.symm), h.fst, h.snd, fun i hi => ?_, fun i hi => ?_, h.apc, h.apl⟩
  · by_cases hi' : i = m
    · subst hi'; exact ⟨zs, hn⟩
    · obtain ⟨ys, k1⟩ := h.code i hi
      exact ⟨ys, k1.same fun b eb => hk b (k1.own.lt b eb).2 (fun e' => h.apc i m hi hm hi' b eb e'.symm)⟩
  · obtain ⟨ys, k1⟩ := h.look i hi
    exact ⟨ys, k1.same fun b eb => hk b (k1.own.lt b eb).2 (fun e' => neT k1.own k0.own (by decide) b eb e'.symm)⟩
theorem RowsQ.markL {w w' : World} {lo hi n m : Nat} {v : Value} {cl gl : Nat → Nat} {xs zs : List Value} {cv lv : Nat → Value} (h : RowsQ w lo hi v n cl gl xs cv lv) (hm : m < n) (hk : KeepO (lv m).ownBlock w w') (hn : RowO w' lo hi 90 3 (lv m) (gl m) zs) : RowsQ w' lo hi v n cl gl xs cv lv := by
  obtain ⟨y0, k0⟩ := h.look m hm
  refine ⟨h.row.same fun b eb => hk b (h.row.own.lt b eb).2 (fun e' => neT h.row.own k0.own (by decide) b eb e'.symm), h.fst, h.snd, fun i hi => ?_, fun i hi => ?_, h.apc, h.apl⟩
  · obtain ⟨ys, k1⟩ := h.code i hi
    exact ⟨ys, k1.same fun b eb => hk b (k1.own.lt b eb).2 (fun e' => neT k1.own k0.own (by decide) b eb e'.symm)⟩
  · by_cases hi' : i = m
    · subst hi'; exact ⟨zs, hn⟩
    · obtain ⟨ys, k1⟩ := h.look i hi
      exact ⟨ys, k1.same fun b eb => hk b (k1.own.lt b eb).2 (fun e' => h.apl i m hi hm hi' b eb e'.symm)⟩
/-- The first m records bear the marks. -/
def MkQm (w : World) (lo hi K : Nat) (cl gl : Nat → Nat) (cv lv : Nat → Value) (m : Nat) (ys : List Value) : Prop := ∀ i, i < m → ys[i * 3 + 2]? = some (.string (mt (kR cl gl K i + 3 * cl i + 3 * gl i))) ∧ (∃ zs, RowO w lo hi 98 3 (cv i) (cl i) zs ∧ MkI (kR cl gl K i) (cl i) zs) ∧ ∃ zs, RowO w lo hi 90 3 (lv i) (gl i) zs ∧ MkG (kR cl gl K i + 3 * cl i) (gl i) zs
theorem MkQm.same {w w' : World} {lo hi K m : Nat} {cl gl : Nat → Nat} {cv lv : Nat → Value} {ys : List Value} (h : MkQm w lo hi K cl gl cv lv m ys) (h2 : ∀ i, i < m → ∀ b, (cv i).ownBlock = some b → w'.heap[b]? = w.heap[b]?) (h3 : ∀ i, i < m → ∀ b, (lv i).ownBlock = some b → w'.heap[b]? = w.heap[b]?) : MkQm w' lo hi K cl gl cv lv m ys := fun i hi => by
  obtain ⟨k1, ⟨zs, k2, k3⟩, us, k4, k5⟩ := h i hi
  exact ⟨k1, ⟨zs, k2.same (h2 i hi), k3⟩, us, k4.same (h3 i hi), k5⟩
theorem MkQm.below {w w' : World} {lo hi K m : Nat} {cl gl : Nat → Nat} {cv lv : Nat → Value} {ys : List Value} (h : MkQm w lo hi K cl gl cv lv m ys) (hb : Below w.heap.size w w') : MkQm w' lo hi K cl gl cv lv m ys := fun i hi => by
  obtain ⟨k1, ⟨zs, k2, k3⟩, us, k4, k5⟩ := h i hi
  exact ⟨k1, ⟨zs, k2.below hb, k3⟩, us, k4.below hb, k5⟩
theorem MkQm.markC {w w' : World} {lo hi K m n : Nat} {v : Value} {cl gl : Nat → Nat} {cv lv : Nat → Value} {xs ys : List Value} (h : MkQm w lo hi K cl gl cv lv m ys) (hr : RowsQ w lo hi v n cl gl xs cv lv) (hm : m < n) (hk : KeepO (cv m).ownBlock w w') : MkQm w' lo hi K cl gl cv lv m ys := by
  obtain ⟨y0, k0⟩ := hr.code m hm
  refine h.same (fun i hi b eb => ?_) (fun i hi b eb => ?_)
  · obtain ⟨_, ⟨zs, k2, _⟩, _⟩ := h i hi
    exact hk b (k2.own.lt b eb).2 (fun e' => hr.apc i m (by omega) hm (by omega) b eb e'.symm)
  · obtain ⟨_, _, zs, k2, _⟩ := h i hi
    exact hk b (k2.own.lt b eb).2 (fun e' => neT k2.own k0.own (by decide) b eb e'.symm)
theorem MkQm.markL {w w' : World} {lo hi K m n : Nat} {v : Value} {cl gl : Nat → Nat} {cv lv : Nat → Value} {xs ys : List Value} (h : MkQm w lo hi K cl gl cv lv m ys) (hr : RowsQ w lo hi v n cl gl xs cv lv) (hm : m < n) (hk : KeepO (lv m).ownBlock w w') : MkQm w' lo hi K cl gl cv lv m ys := by
  obtain ⟨y0, k0⟩ := hr.look m hm
  refine h.same (fun i hi b eb => ?_) (fun i hi b eb => ?_)
  · obtain ⟨_, ⟨zs, k2, _⟩, _⟩ := h i hi
    exact hk b (k2.own.lt b eb).2 (fun e' => neT k2.own k0.own (by decide) b eb e'.symm)
  · obtain ⟨_, _, zs, k2, _⟩ := h i hi
    exact hk b (k2.own.lt b eb).2 (fun e' => hr.apl i m (by omega) hm (by omega) b eb e'.symm)
theorem MkQm.store {w : World} {lo hi K m n g cap : Nat} {cl gl : Nat → Nat} {cv lv : Nat → Value} {ys zs us : List Value} (h : MkQm w lo hi K cl gl cv lv m ys) (hr : RowsQ w lo hi (.slice (some ⟨g, 0, none⟩) n cap) n cl gl ys cv lv) (hm : m < n) (hz : RowO w lo hi 98 3 (cv m) (cl m) zs) (hzm : MkI (kR cl gl K m) (cl m) zs) (hu : RowO w lo hi 90 3 (lv m) (gl m) us) (hum : MkG (kR cl gl K m + 3 * cl m) (gl m) us) : MkQm (w.setCell ⟨g, m * 3 + 2, none⟩ (.string (mt (kR cl gl K m + 3 * cl m + 3 * gl m)))) lo hi K cl gl cv lv (m + 1) (ys.set (m * 3 + 2) (.string (mt (kR cl gl K m + 3 * cl m + 3 * gl m)))) := fun i hj => by
  have hs : ∀ {e sz k : Nat} {u : Value} {ps : List Value}, RowO w lo hi e sz u k ps → 50 ≠ e → RowO (w.setCell ⟨g, m * 3 + 2, none⟩ (.string (mt (kR cl gl K m + 3 * cl m + 3 * gl m)))) lo hi e sz u k ps := fun {e sz k u ps} k1 hne => k1.same fun b eb => Below.heap_setCell w ⟨g, m * 3 + 2, none⟩ _ b (by show b ≠ g; intro e; subst e; exact neT hr.row.own k1.own hne b rfl eb)
  rcases Nat.lt_or_ge i m with hlt | hge
  · obtain ⟨k1, ⟨ps, k2, k3⟩, qs, k4, k5⟩ := h i hlt
    exact ⟨by rw [List.getElem?_set, if_neg (by omega)]; exact k1, ⟨ps, hs k2 (by decide), k3⟩, qs, hs k4 (by decide), k5⟩
  · obtain rfl : i = m := by omega
    exact ⟨by rw [List.getElem?_set, if_pos rfl, if_pos (by rw [hr.row.own.1]; omega)], ⟨zs, hs hz (by decide), hzm⟩, us, hs hu (by decide), hum⟩
/-- All blocks but those of the records stay. -/
def KeepQs (v : Value) (cv lv : Nat → Value) (n : Nat) (w w' : World) : Prop := ∀ b, b < w.heap.size → v.ownBlock ≠ some b → (∀ i, i < n → (cv i).ownBlock ≠ some b) → (∀ i, i < n → (lv i).ownBlock ≠ some b) → w'.heap[b]? = w.heap[b]?
theorem KeepQs.below {v : Value} {cv lv : Nat → Value} {n : Nat} {w w' w2 : World} (h : KeepQs v cv lv n w w') (hs : w.heap.size ≤ w'.heap.size) (hb : Below w'.heap.size w' w2) : KeepQs v cv lv n w w2 := fun b hl h1 h2 h3 => by
  rw [hb.block b (by omega)]; exact h b hl h1 h2 h3
theorem KeepQs.set {g n cap m : Nat} {cv lv : Nat → Value} {w w' : World} (h : KeepQs (.slice (some ⟨g, 0, none⟩) n cap) cv lv n w w') (u : Value) : KeepQs (.slice (some ⟨g, 0, none⟩) n cap) cv lv n w (w'.setCell ⟨g, m, none⟩ u) := fun b hl h1 h2 h3 => by
  rw [Below.heap_setCell w' ⟨g, m, none⟩ u b (fun e => h1 (by rw [e]; rfl))]; exact h b hl h1 h2 h3
theorem KeepQs.markC {v : Value} {cv lv : Nat → Value} {n m : Nat} {w w' w2 : World} (h : KeepQs v cv lv n w w') (hs : w.heap.size ≤ w'.heap.size) (hm : m < n) (hk : KeepO (cv m).ownBlock w' w2) : KeepQs v cv lv n w w2 := fun b hl h1 h2 h3 => by
  rw [hk b (by omega) (fun e => h2 m hm e.symm)]; exact h b hl h1 h2 h3
theorem KeepQs.markL {v : Value} {cv lv : Nat → Value} {n m : Nat} {w w' w2 : World} (h : KeepQs v cv lv n w w') (hs : w.heap.size ≤ w'.heap.size) (hm : m < n) (hk : KeepO (lv m).ownBlock w' w2) : KeepQs v cv lv n w w2 := fun b hl h1 h2 h3 => by
  rw [hk b (by omega) (fun e => h3 m hm e.symm)]; exact h b hl h1 h2 h3
theorem KeepQs.keepR {v : Value} {cv lv : Nat → Value} {cl gl : Nat → Nat} {n lo hi : Nat} {xs : List Value} {w w' : World} (h : KeepQs v cv lv n w w') (hr : RowsQ w lo hi v n cl gl xs cv lv) : KeepR lo hi w w' := fun b hb ho => h b hb (fun e => by have h1 := hr.lt (Or.inl e); omega) (fun i hi e => by have h1 := hr.lt (Or.inr (Or.inl ⟨i, hi, e⟩)); omega) (fun i hi e => by have h1 := hr.lt (Or.inr (Or.inr ⟨i, hi, e⟩)); omega)

end Go.Proofs.YtllhbgmadiclcaaGreatDoor
