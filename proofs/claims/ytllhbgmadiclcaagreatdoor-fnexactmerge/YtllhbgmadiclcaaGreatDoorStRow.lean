import Derived.Test.YtllhbgmadiclcaaGreatDoorGRec
import Derived.Test.YtllhbgmadiclcaaGreatDoorStrs
namespace Go.Proofs.YtllhbgmadiclcaaGreatDoor
open Go.RowKit
set_option linter.unusedVariables false

structure T3 where
  code : List I3
  looks : List G3
  out : ByteArray
def q00 : T3 := ⟨[], [], ByteArray.empty⟩
def qx (is : List T3) (i : Nat) : T3 := is.getD i q00

/-- The slice's address leads to the records, in w. -/
def RowQ (w : World) (a : Option Addr) (is : List T3) : Prop :=
  ∀ i, i < is.length → ∃ b off, a = some ⟨b, off, none⟩ ∧ ∃ ca cc la lc, w.cell? ⟨b, off + i * 3, none⟩ = some (.slice ca (qx is i).code.length cc) ∧ w.cell? ⟨b, off + i * 3 + 1, none⟩ = some (.slice la (qx is i).looks.length lc) ∧ w.cell? ⟨b, off + i * 3 + 2, none⟩ = some (.string (qx is i).out) ∧ Row3 w ca (qx is i).code ∧ RowG w la (qx is i).looks
theorem RowQ.below {w w' : World} {a : Option Addr} {is : List T3} (h : RowQ w a is) (hb : Below w.heap.size w w') : RowQ w' a is := by
  intro i hi
  obtain ⟨b, off, ha, ca, cc, la, lc, h1, h2, h3, h4, h5⟩ := h i hi
  exact ⟨b, off, ha, ca, cc, la, lc, cell_below hb h1, cell_below hb h2, cell_below hb h3, h4.below hb, h5.below hb⟩

/-- Records of our own making, at block g; their rows at blocks from B on. -/
def RowQo (w : World) (B : Nat) (g : Nat) (is : List T3) : Prop :=
  B ≤ g ∧ ∀ i, i < is.length → ∃ g1 g2, B ≤ g1 ∧ B ≤ g2 ∧ w.cell? ⟨g, i * 3, none⟩ = some (.slice (some ⟨g1, 0, none⟩) (qx is i).code.length (qx is i).code.length) ∧ w.cell? ⟨g, i * 3 + 1, none⟩ = some (.slice (some ⟨g2, 0, none⟩) (qx is i).looks.length (qx is i).looks.length) ∧ w.cell? ⟨g, i * 3 + 2, none⟩ = some (.string (qx is i).out) ∧ Row3 w (some ⟨g1, 0, none⟩) (qx is i).code ∧ RowG w (some ⟨g2, 0, none⟩) (qx is i).looks
theorem RowQo.row {w : World} {B g : Nat} {is : List T3} (h : RowQo w B g is) : RowQ w (some ⟨g, 0, none⟩) is := by
  intro i hi
  obtain ⟨g1, g2, _, _, h1, h2, h3, h4, h5⟩ := h.2 i hi
  exact ⟨g, 0, rfl, _, _, _, _, by rw [Nat.zero_add]; exact h1, by rw [Nat.zero_add]; exact h2, by rw [Nat.zero_add]; exact h3, h4, h5⟩
theorem RowQo.setCell {w : World} {B g : Nat} {is : List T3} (h : RowQo w B g is) {b j : Nat} (hb : b < B) (v : Value) : RowQo (w.setCell ⟨b, j, none⟩ v) B g is := by
  refine ⟨h.1, fun i hi => ?_⟩
  obtain ⟨g1, g2, k1, k2, h1, h2, h3, h4, h5⟩ := h.2 i hi
  have hB := h.1
  have e : ∀ o, (w.setCell ⟨b, j, none⟩ v).cell? ⟨g, o, none⟩ = w.cell? ⟨g, o, none⟩ := fun o => World.cell?_of_block (w := w) (Below.heap_setCell w ⟨b, j, none⟩ v g (by simp; omega))
  exact ⟨g1, g2, k1, k2, by rw [e]; exact h1, by rw [e]; exact h2, by rw [e]; exact h3, h4.setCell (by omega) v, h5.setCell (by omega) v⟩

def FilledQ (w : World) (B : Nat) (is : List T3) (k : Nat) (xs : List Value) : Prop :=
  ∀ i, i < k → ∃ g1 g2, B < g1 ∧ B < g2 ∧ xs[i * 3]? = some (.slice (some ⟨g1, 0, none⟩) (qx is i).code.length (qx is i).code.length) ∧ xs[i * 3 + 1]? = some (.slice (some ⟨g2, 0, none⟩) (qx is i).looks.length (qx is i).looks.length) ∧ xs[i * 3 + 2]? = some (.string (qx is i).out) ∧ Row3 w (some ⟨g1, 0, none⟩) (qx is i).code ∧ RowG w (some ⟨g2, 0, none⟩) (qx is i).looks
theorem filledQ_set {w : World} {B : Nat} {is : List T3} {k g1 g2 : Nat} {xs : List Value} (h : FilledQ w B is k xs) (hx : k * 3 + 2 < xs.length) (hg1 : B < g1) (hg2 : B < g2) (hr : Row3 w (some ⟨g1, 0, none⟩) (qx is k).code) (hr2 : RowG w (some ⟨g2, 0, none⟩) (qx is k).looks) :
    FilledQ w B is (k + 1) (((xs.set (k * 3) (.slice (some ⟨g1, 0, none⟩) (qx is k).code.length (qx is k).code.length)).set (k * 3 + 1) (.slice (some ⟨g2, 0, none⟩) (qx is k).looks.length (qx is k).looks.length)).set (k * 3 + 2) (.string (qx is k).out)) := by
  intro i hi
  rcases Nat.lt_or_ge i k with hl | hl
  · obtain ⟨a1, a2, b1, b2, h1, h2, h3, h4, h5⟩ := h i hl
    simp only [List.getElem?_set]
    rw [if_neg (by omega), if_neg (by omega), if_neg (by omega), if_neg (by omega), if_neg (by omega), if_neg (by omega), if_neg (by omega), if_neg (by omega), if_neg (by omega)]
    exact ⟨a1, a2, b1, b2, h1, h2, h3, h4, h5⟩
  · obtain rfl : i = k := by omega
    refine ⟨g1, g2, hg1, hg2, ?_, ?_, ?_, hr, hr2⟩
    · simp [List.getElem?_set]; omega
    · simp [List.getElem?_set]; omega
    · simp [List.getElem?_set]; omega
theorem FilledQ.setCell {w : World} {B : Nat} {is : List T3} {k : Nat} {xs : List Value} (h : FilledQ w B is k xs) (j : Nat) (v : Value) : FilledQ (w.setCell ⟨B, j, none⟩ v) B is k xs := by
  intro i hi
  obtain ⟨a1, a2, b1, b2, h1, h2, h3, h4, h5⟩ := h i hi
  exact ⟨a1, a2, b1, b2, h1, h2, h3, h4.setCell (by omega) v, h5.setCell (by omega) v⟩
theorem FilledQ.below {w w' : World} {B : Nat} {is : List T3} {k : Nat} {xs : List Value} (h : FilledQ w B is k xs) (hb : Below w.heap.size w w') : FilledQ w' B is k xs := by
  intro i hi
  obtain ⟨a1, a2, b1, b2, h1, h2, h3, h4, h5⟩ := h i hi
  exact ⟨a1, a2, b1, b2, h1, h2, h3, h4.below hb, h5.below hb⟩
theorem rowQ_own {w : World} {g n cap : Nat} {is : List T3} {xs : List Value} (hn : n = is.length) (h : w.ownsRow g 50 3 (.slice (some ⟨g, 0, none⟩) n cap) n xs) (hf : FilledQ w g is n xs) : RowQo w g g is := by
  subst hn
  refine ⟨Nat.le_refl _, fun i hi => ?_⟩
  obtain ⟨a1, a2, b1, b2, h1, h2, h3, h4, h5⟩ := hf i hi
  refine ⟨a1, a2, by omega, by omega, ?_, ?_, ?_, h4, h5⟩
  · rw [h.cellAt _ (by omega)]; exact h1
  · rw [h.cellAt _ (by omega)]; exact h2
  · rw [h.cellAt _ (by omega)]; exact h3

set_option maxHeartbeats 400000 in
theorem szRecord_left (a la : Option Addr) (cap lc : Nat) (is : List I3) (gs : List G3) (out : ByteArray) (lft : Int) (hf0 : 0 ≤ lft) (hf1 : lft ≤ 1048576) (w : World) (h : RecOk w a is la gs out) :
    Calls Tryz.prog 35 #[.agg #[.slice a is.length cap, .slice la gs.length lc, .string out], .int .i64 lft] w fun e w' => Below w.heap.size w w' ∧ ∃ r : Int, e = .returned (.int .i64 r) ∧ (r < 0 ∨ (is.length ≤ 1048576 ∧ gs.length ≤ 1048576 ∧ 0 ≤ r ∧ r ≤ lft)) := by
  obtain ⟨rc, rg, hlc, hlg, xc, ng, sg, so⟩ := h
  unfold maxLen at so
  have hb0 : Below w.heap.size w (w.alloc (.cells #[.slice a is.length cap, .slice la gs.length lc, .string out] 83)) := (Below.refl _ _).alloc (Nat.le_refl _) _
  have k1 : (w.alloc (.cells #[.slice a is.length cap, .slice la gs.length lc, .string out] 83)).cell? ⟨w.heap.size, 1, none⟩ = some (.slice la gs.length lc) := by simp [go_sem]
  have k2 : (w.alloc (.cells #[.slice a is.length cap, .slice la gs.length lc, .string out] 83)).cell? ⟨w.heap.size, 2, none⟩ = some (.string out) := by simp [go_sem]
  go_enter Tryz.func35, Tryz.ntmps35
  go_wp2_with fail
  refine (szProgram_left a cap is lft _ hf0 hf1 (rc.below hb0) hlc xc).mono ?_
  rintro e w1 ⟨hb1, r, rfl, hr⟩
  have hB1 := bt hb0 hb1
  have k11 := cell_below hb1 k1
  have k12 := cell_below hb1 k2
  clear hb0 hb1 k1 k2
  rcases hr with hr | ⟨h1, hr0, hr1⟩
  · go_wp2
    go_ret
    exact ⟨hB1, -1, rfl, Or.inl (by omega)⟩
  · go_wp2_with fail
    refine (szGlanceS_any la lc gs r _ (by omega) (by omega) (rg.below hB1) hlg ng sg).mono ?_
    rintro e w2 ⟨hb2, r2, rfl, hr2⟩
    have hB2 := bt hB1 hb2
    have k22 := cell_below hb2 k12
    clear hb2 hB1 k11 k12
    rcases hr2 with hr2 | ⟨h2, hr2, hr3, h3⟩
    · go_wp2
      go_ret
      exact ⟨hB2, -1, rfl, Or.inl (by omega)⟩
    · by_cases h4 : r2 - out.size < 0
      · go_wp2
        go_ret
        exact ⟨hB2, -1, rfl, Or.inl (by omega)⟩
      · go_wp2
        go_ret
        exact ⟨hB2, r2 - out.size, rfl, Or.inr (by omega)⟩


/-- What the reading gives of a list of records. -/
structure QsOk (rs : List T3) : Prop where
  lr : rs.length ≤ maxLen
  lc : ∀ i, (qx rs i).code.length ≤ maxLen
  lg : ∀ i, (qx rs i).looks.length ≤ maxLen
  xc : ∀ i j, (ix (qx rs i).code j).text.size ≤ maxLen
  ng : ∀ i j, (gx (qx rs i).looks j).name.size ≤ maxLen
  sg : ∀ i j, (gx (qx rs i).looks j).sum.size ≤ maxLen
  so : ∀ i, (qx rs i).out.size ≤ maxLen
/-- What the law's look at the size leaves. -/
def QsSmall (rs : List T3) : Prop := rs.length ≤ 1048576 ∧ ∀ i, i < rs.length → (qx rs i).code.length ≤ 1048576 ∧ (qx rs i).looks.length ≤ 1048576

set_option maxHeartbeats 1000000 in
theorem szRecordS_any (a : Option Addr) (cap : Nat) (is : List T3) (lft : Int) (w : World) (hf0 : 0 ≤ lft) (hf1 : lft ≤ 1048576) (hc : RowQ w a is) (hk : QsOk is) :
    Calls Tryz.prog 14 #[.slice a is.length cap, .int .i64 lft] w fun e w' => Below w.heap.size w w' ∧ ∃ r : Int, e = .returned (.int .i64 r) ∧ (r < 0 ∨ (0 ≤ r ∧ QsSmall is)) := by
  have hl' := hk.lr
  unfold maxLen at hl'
  have HK0 : Hid (QsOk is) := hk
  clear hk
  by_cases h0 : (is.length : Int) ≤ lft
  · go_enter Tryz.func14, Tryz.ntmps14
    go_wp2
    go_loopw [1, 5] (fun l i wr => ∃ k : Nat, ∃ q : Int, k ≤ is.length ∧ i = .int .i64 k ∧ l = .int .i64 q ∧ 0 ≤ q ∧ q ≤ lft ∧ Below w.heap.size w wr ∧ Hid (∀ i, i < k → (qx is i).code.length ≤ 1048576 ∧ (qx is i).looks.length ≤ 1048576)) (fun _ i _ => is.length - (intOf i).toNat)
    case atStart => exact ⟨0, _, Nat.zero_le _, rfl, rfl, by omega, by omega, Below.refl _ _, (fun i hi => by omega : ∀ i, i < 0 → (qx is i).code.length ≤ 1048576 ∧ (qx is i).looks.length ≤ 1048576)⟩
    case round =>
      obtain ⟨k, q, hk, rfl, rfl, hq0, hq1, hbr, HK⟩ := hrel
      by_cases hlt : k < is.length
      · obtain ⟨b, off, rfl, ca, cc, la, lc, c1, c2, c3, c4, c5⟩ := (hc.below hbr) k hlt
        have hok : RecOk wr ca (qx is k).code la (qx is k).looks (qx is k).out := ⟨c4, c5, HK0.out.lc k, HK0.out.lg k, HK0.out.xc k, HK0.out.ng k, HK0.out.sg k, HK0.out.so k⟩
        clear hc c4 c5
        obtain ⟨i, ei⟩ : ∃ i, qx is k = i := ⟨_, rfl⟩
        rw [ei] at c1 c2 c3 hok
        have EI : Hid (qx is k = i) := ei
        clear ei
        go_wp2_with fail
        refine (szRecord_left ca la cc lc i.code i.looks i.out q (by omega) (by omega) _ hok).mono ?_
        rintro e w1 ⟨hb1, r, rfl, hr⟩
        rcases hr with hr | hr
        · go_wp2
          go_ret
          exact ⟨hbr.trans (hb1.mono hbr.size), -1, rfl, Or.inl (by omega)⟩
        · have hr0 : 0 ≤ r := by omega
          have hr1 : r ≤ q := by omega
          go_wp2
          go_roundw
          case rel => exact ⟨k + 1, _, by omega, by go_num, rfl, by omega, by omega, hbr.trans (hb1.mono hbr.size), ext_succ HK.out (by rw [EI.out]; omega)⟩
          case measure => simp [intOf]; omega
      · go_wp2
        go_ret
        exact ⟨hbr, _, rfl, by refine Or.inr ⟨by omega, by omega, fun i hi => HK.out i (by omega)⟩⟩
  · go_enter Tryz.func14, Tryz.ntmps14
    go_wp2
    go_ret
    exact ⟨Below.refl _ _, -1, rfl, Or.inl (by omega)⟩

set_option maxHeartbeats 1000000 in
theorem toRecord_fresh (a la : Option Addr) (cap lc : Nat) (is : List I3) (gs : List G3) (out : ByteArray) (w : World) (rc : Row3 w a is) (rg : RowG w la gs) (h1 : is.length ≤ 1048576) (h2 : gs.length ≤ 1048576) :
    Calls Tryz.prog 40 #[.agg #[.slice a is.length cap, .slice la gs.length lc, .string out]] w fun e w' => Below w.heap.size w w' ∧ ∃ g1 g2 : Nat, e = .returned (.agg #[.slice (some ⟨g1, 0, none⟩) is.length is.length, .slice (some ⟨g2, 0, none⟩) gs.length gs.length, .string out]) ∧ w.heap.size ≤ g1 ∧ w.heap.size ≤ g2 ∧ Row3 w' (some ⟨g1, 0, none⟩) is ∧ RowG w' (some ⟨g2, 0, none⟩) gs := by
  go_enter Tryz.func40, Tryz.ntmps40
  go_wp2_with fail
  have hb0 : Below w.heap.size w (((w.alloc (.cells #[.slice a is.length cap, .slice la gs.length lc, .string out] 83)).alloc (.cells #[.slice none 0 0, .slice none 0 0, .string ⟨#[]⟩] 50)).alloc (.cells #[.slice none 0 0, .slice none 0 0, .string ⟨#[]⟩] 50)) := (((Below.refl _ _).alloc (Nat.le_refl _) _).alloc (by simp) _).alloc (by simp; omega) _
  refine (toProgram_fresh a cap is _ (rc.below hb0) h1).mono ?_
  rintro e w1 ⟨hb1, g, rfl, hg, hr⟩
  simp at hg
  have hb : Below w.heap.size w w1 := hb0.trans (hb1.mono hb0.size)
  have hz := hb1.size
  simp at hz
  have c01 : w1.cell? ⟨w.heap.size, 1, none⟩ = some (.slice la gs.length lc) := cell_below hb1 (by simp [go_sem])
  have c02 : w1.cell? ⟨w.heap.size, 2, none⟩ = some (.string out) := cell_below hb1 (by simp [go_sem])
  have c10 : w1.cell? ⟨w.heap.size + 1, 0, none⟩ = some (.slice none 0 0) := cell_below hb1 (by simp [go_sem])
  have c11 : w1.cell? ⟨w.heap.size + 1, 1, none⟩ = some (.slice none 0 0) := cell_below hb1 (by simp [go_sem])
  have c12 : w1.cell? ⟨w.heap.size + 1, 2, none⟩ = some (.string ⟨#[]⟩) := cell_below hb1 (by simp [go_sem])
  have c20 : w1.cell? ⟨w.heap.size + 1 + 1, 0, none⟩ = some (.slice none 0 0) := cell_below hb1 (by simp [go_sem])
  have c21 : w1.cell? ⟨w.heap.size + 1 + 1, 1, none⟩ = some (.slice none 0 0) := cell_below hb1 (by simp [go_sem])
  have c22 : w1.cell? ⟨w.heap.size + 1 + 1, 2, none⟩ = some (.string ⟨#[]⟩) := cell_below hb1 (by simp [go_sem])
  have f1 : ∀ j, w1.frozen? ⟨w.heap.size + 1, j, none⟩ = false := fun j => by rw [hb1.frozen (p := ⟨w.heap.size + 1, j, none⟩) (by simp)]; simp [go_sem]
  have f2 : ∀ j, w1.frozen? ⟨w.heap.size + 1 + 1, j, none⟩ = false := fun j => by rw [hb1.frozen (p := ⟨w.heap.size + 1 + 1, j, none⟩) (by simp)]; simp [go_sem]
  clear hb0 hb1
  go_wp2_with fail
  have hbs : Below w.heap.size w (w1.setCell ⟨w.heap.size + 1 + 1, 0, none⟩ (.slice (some ⟨g, 0, none⟩) is.length is.length)) := hb.setCell (p := ⟨w.heap.size + 1 + 1, 0, none⟩) (by simp; omega) _
  refine (toGlanceS_any la lc gs _ (rg.below hbs) h2).mono ?_
  rintro e w2 ⟨hb2, g2, rfl, hg2, hg2', hr2⟩
  have hb3 : Below w.heap.size w w2 := hbs.trans (hb2.mono hbs.size)
  have hrs := (hr.setCell (b := w.heap.size + 1 + 1) (j := 0) (by omega) (.slice (some ⟨g, 0, none⟩) is.length is.length)).below hb2
  have hz2 := hb2.size
  simp at hz2
  simp at hg2
  have d02 : w2.cell? ⟨w.heap.size, 2, none⟩ = some (.string out) := cell_below hb2 (by simp [go_sem, c02])
  have d10 : w2.cell? ⟨w.heap.size + 1, 0, none⟩ = some (.slice none 0 0) := cell_below hb2 (by simp [go_sem, c10])
  have d11 : w2.cell? ⟨w.heap.size + 1, 1, none⟩ = some (.slice none 0 0) := cell_below hb2 (by simp [go_sem, c11])
  have d12 : w2.cell? ⟨w.heap.size + 1, 2, none⟩ = some (.string ⟨#[]⟩) := cell_below hb2 (by simp [go_sem, c12])
  have d20 : w2.cell? ⟨w.heap.size + 1 + 1, 0, none⟩ = some (.slice (some ⟨g, 0, none⟩) is.length is.length) := cell_below hb2 (by simp [go_sem, c20])
  have d21 : w2.cell? ⟨w.heap.size + 1 + 1, 1, none⟩ = some (.slice none 0 0) := cell_below hb2 (by simp [go_sem, c21])
  have d22 : w2.cell? ⟨w.heap.size + 1 + 1, 2, none⟩ = some (.string ⟨#[]⟩) := cell_below hb2 (by simp [go_sem, c22])
  have e1 : ∀ j, w2.frozen? ⟨w.heap.size + 1, j, none⟩ = false := fun j => by rw [hb2.frozen (p := ⟨w.heap.size + 1, j, none⟩) (by simp; omega)]; simp [go_sem, f1]
  have e2 : ∀ j, w2.frozen? ⟨w.heap.size + 1 + 1, j, none⟩ = false := fun j => by rw [hb2.frozen (p := ⟨w.heap.size + 1 + 1, j, none⟩) (by simp; omega)]; simp [go_sem, f2]
  clear hb2 hbs hb c01 c02 c10 c11 c12 c20 c21 c22 f1 f2 hr
  go_wp2
  refine bodyPost_ret (v := .agg #[.slice (some ⟨g, 0, none⟩) is.length is.length, .slice (some ⟨g2, 0, none⟩) gs.length gs.length, .string out]) (by simp [results, Tryz.results40, go_sem, d10, d11, d12]) rfl ⟨?_, g, g2, rfl, by omega, by omega, ?_, ?_⟩
  · exact ((((hb3.setCell (p := ⟨w.heap.size + 1 + 1, 1, none⟩) (by simp; omega) _).setCell (p := ⟨w.heap.size + 1 + 1, 2, none⟩) (by simp; omega) _).setCell (p := ⟨w.heap.size + 1, 0, none⟩) (by simp) _).setCell (p := ⟨w.heap.size + 1, 1, none⟩) (by simp) _).setCell (p := ⟨w.heap.size + 1, 2, none⟩) (by simp) _
  · exact ((((hrs.setCell (by omega) _).setCell (by omega) _).setCell (by omega) _).setCell (by omega) _).setCell (by omega) _
  · exact ((((hr2.setCell (by omega) _).setCell (by omega) _).setCell (by omega) _).setCell (by omega) _).setCell (by omega) _


theorem Tryz.info50 : (Tryz.prog.info? 50).map (fun i => (i.zero, i.size, i.bytes)) = some (some (.agg #[.slice none 0 0, .slice none 0 0, .string ByteArray.empty]), 3, 64) := by kernel_rfl

set_option maxHeartbeats 2000000 in
theorem toRecordS_any (a : Option Addr) (cap : Nat) (is : List T3) (w : World) (hc : RowQ w a is) (hk : QsSmall is) :
    Calls Tryz.prog 21 #[.slice a is.length cap] w fun e w' => Below w.heap.size w w' ∧ ∃ g : Nat, e = .returned (.slice (some ⟨g, 0, none⟩) is.length is.length) ∧ RowQo w' w.heap.size g is := by
  obtain ⟨z0, hi, hz0, hz1, hz2⟩ := info_parts Tryz.info50
  have hl := hk.1
  have HK : Hid (∀ i, i < is.length → (qx is i).code.length ≤ 1048576 ∧ (qx is i).looks.length ≤ 1048576) := hk.2
  clear hk
  go_enter Tryz.func21, Tryz.ntmps21
  go_wp2_with (first | (at_make; refine wpList_make_full _ rfl (.tmp 6) (.tmp 6) 27 rfl w.heap.size 50 z0 (.agg #[.slice none 0 0, .slice none 0 0, .string ByteArray.empty]) 3 Tryz.underlying27 hi hz0 hz1 .i64 .i64 _ _ is.length rfl rfl rfl rfl (by rw [hz2]; omega) (by unfold maxLen; omega) (Nat.le_refl _) ?_; intro w1 hown hgrow))
  have hbel1 : Below w.heap.size w w1 := (Below.refl _ _).grown hgrow (Nat.le_refl _) (by simp)
  clear hgrow
  go_loopw [4] (fun i wr => ∃ k : Nat, ∃ xs : List Value, k ≤ is.length ∧ i = .int .i64 k ∧ wr.ownsRow w.heap.size 50 3 (.slice (some ⟨w.heap.size, 0, none⟩) is.length is.length) is.length xs ∧ FilledQ wr w.heap.size is k xs ∧ Below w.heap.size w wr) (fun i _ => is.length - (intOf i).toNat)
  case atStart => exact ⟨0, _, Nat.zero_le _, rfl, hown, fun i hi => by omega, hbel1⟩
  case round =>
    obtain ⟨k, xs, hk, rfl, hown, hfi, hbel⟩ := hrel
    by_cases hlt : k < is.length
    · obtain ⟨b, off, rfl, ca, cc, la, lc, c1, c2, c3, c4, c5⟩ := (hc.below hbel) k hlt
      have hck := HK.out k hlt
      have hlx : k * 3 + 2 < xs.length := by rw [hown.1]; omega
      have hgl : w.heap.size < wr.heap.size := (hown.lt _ rfl).2
      have HF : Hid (∀ (W : World) (g1 g2 : Nat), FilledQ W w.heap.size is k xs → w.heap.size < g1 → w.heap.size < g2 → Row3 W (some ⟨g1, 0, none⟩) (qx is k).code → RowG W (some ⟨g2, 0, none⟩) (qx is k).looks → FilledQ W w.heap.size is (k + 1) (((xs.set (k * 3) (.slice (some ⟨g1, 0, none⟩) (qx is k).code.length (qx is k).code.length)).set (k * 3 + 1) (.slice (some ⟨g2, 0, none⟩) (qx is k).looks.length (qx is k).looks.length)).set (k * 3 + 2) (.string (qx is k).out))) := fun W g1 g2 h1 h2 h3 h4 h5 => filledQ_set h1 hlx h2 h3 h4 h5
      generalize qx is k = i at *
      have C4 : Hid (Row3 wr ca i.code) := c4
      have C5 : Hid (RowG wr la i.looks) := c5
      clear hbel1 hc c4 c5
      go_wp2_with fail
      refine (toRecord_fresh ca la cc lc i.code i.looks i.out _ C4.out C5.out hck.1 hck.2).mono ?_
      rintro e w2 ⟨hb2, g1, g2, rfl, hg1, hg2, hr1, hr2⟩
      have hown2 := ownsRow_below hown hb2
      have hbw : Below w.heap.size w w2 := hbel.trans (hb2.mono hbel.size)
      have hfr := hown2.frozenAt
      have hf2 := HF.out _ g1 g2 (((hfi.below hb2).setCell (k * 3) (.slice (some ⟨g1, 0, none⟩) i.code.length i.code.length) |>.setCell (k * 3 + 1) (.slice (some ⟨g2, 0, none⟩) i.looks.length i.looks.length)).setCell (k * 3 + 2) (.string i.out)) (by omega) (by omega) (((hr1.setCell (by omega) _).setCell (by omega) _).setCell (by omega) _) (((hr2.setCell (by omega) _).setCell (by omega) _).setCell (by omega) _)
      obtain ⟨o1, d1⟩ := cell_of_length3 hown2 (j := k * 3) (by omega)
      obtain ⟨o2, d2⟩ := cell_of_length3 hown2 (j := k * 3 + 1) (by omega)
      obtain ⟨o3, d3⟩ := cell_of_length3 hown2 (j := k * 3 + 2) (by omega)
      have HO : Hid (w2.ownsRow w.heap.size 50 3 (.slice (some ⟨w.heap.size, 0, none⟩) is.length is.length) is.length xs) := hown2
      have HF2 : Hid _ := hf2
      clear hown hown2 hb2 hbel hf2 hfi
      go_wp2
      go_roundw
      case rel => exact ⟨k + 1, _, by omega, by go_num, (((HO.out.stored _ _).1.stored _ _).1.stored _ _).1, HF2.out, ((hbw.setCell (Nat.le_refl _) _).setCell (Nat.le_refl _) _).setCell (Nat.le_refl _) _⟩
      case measure => simp [intOf]; omega
    · have ek : k = is.length := by omega
      subst ek
      go_wp2
      go_ret
      exact ⟨hbel, _, rfl, rowQ_own rfl hown hfi⟩

set_option maxHeartbeats 1000000 in
theorem eqRecordS_same (a a' : Option Addr) (cap cap' : Nat) (is : List T3) (w : World) (hc : RowQ w a is) (hc' : RowQ w a' is) (hk : QsSmall is) :
    Calls Tryz.prog 31 #[.slice a is.length cap, .slice a' is.length cap'] w fun e w' => Below w.heap.size w w' ∧ e = .returned (.bool true) := by
  have hl := hk.1
  have HK : Hid (∀ i, i < is.length → (qx is i).code.length ≤ 1048576 ∧ (qx is i).looks.length ≤ 1048576) := hk.2
  clear hk
  go_enter Tryz.func31, Tryz.ntmps31
  go_wp2
  go_loopw [5] (fun i wr => ∃ k : Nat, k ≤ is.length ∧ i = .int .i64 k ∧ Below w.heap.size w wr) (fun i _ => is.length - (intOf i).toNat)
  case atStart => exact ⟨0, Nat.zero_le _, rfl, Below.refl _ _⟩
  case round =>
    obtain ⟨k, hk, rfl, hbel⟩ := hrel
    by_cases hlt : k < is.length
    · obtain ⟨b, off, rfl, ca, cc, la, lc, c1, c2, c3, c4, c5⟩ := (hc.below hbel) k hlt
      obtain ⟨b', off', rfl, ca', cc', la', lc', d1, d2, d3, d4, d5⟩ := (hc'.below hbel) k hlt
      have hck := HK.out k hlt
      generalize qx is k = i at *
      clear hc hc'
      have C4 : Hid (Row3 wr ca i.code) := c4
      have C5 : Hid (RowG wr la i.looks) := c5
      have D4 : Hid (Row3 wr ca' i.code) := d4
      have D5 : Hid (RowG wr la' i.looks) := d5
      clear c4 c5 d4 d5
      have hkI : (k : Int) < (is.length : Int) := by omega
      have hk0 : (0 : Int) ≤ (k : Int) := by omega
      have hbd : Below wr.heap.size wr wr.drew := (Below.refl _ _).drew
      go_wp2_with fail
      go_region_held3 (fun w' => (w'.cell? ⟨b, off + k * 3, none⟩ = some (.slice ca i.code.length cc) ∧ w'.cell? ⟨b, off + k * 3 + 1, none⟩ = some (.slice la i.looks.length lc) ∧ w'.cell? ⟨b, off + k * 3 + 2, none⟩ = some (.string i.out)) ∧ (w'.cell? ⟨b', off' + k * 3, none⟩ = some (.slice ca' i.code.length cc') ∧ w'.cell? ⟨b', off' + k * 3 + 1, none⟩ = some (.slice la' i.looks.length lc') ∧ w'.cell? ⟨b', off' + k * 3 + 2, none⟩ = some (.string i.out)))
        (first | assumption | (simp [*]; done) | exact ⟨⟨cell_below hb1 (by simp [*]), cell_below hb1 (by simp [*]), cell_below hb1 (by simp [*])⟩, cell_below hb1 (by simp [*]), cell_below hb1 (by simp [*]), cell_below hb1 (by simp [*])⟩)
        (first | (go_at_call 51; refine (eqRecord_same ca ca' la la' cc cc' lc lc' i.code i.looks i.out _ (C4.out.below hbd) (D4.out.below hbd) (C5.out.below hbd) (D5.out.below hbd) hck.1 hck.2).mono ?_; rintro e w1 ⟨hb1, rfl⟩))
      all_goals
        go_wp2
        go_roundw
        case rel => exact ⟨k + 1, by omega, by go_num, hbel.trans (Below.trans (Below.drew (Below.refl _ _)) (hb1.mono (by simpa using hbel.size)))⟩
        case measure => simp [intOf]; omega
    · go_wp2
      go_ret
      exact ⟨hbel, rfl⟩

end Go.Proofs.YtllhbgmadiclcaaGreatDoor
