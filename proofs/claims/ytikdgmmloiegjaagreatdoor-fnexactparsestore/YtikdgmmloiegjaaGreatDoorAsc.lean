import Derived.Test.YtikdgmmloiegjaaGreatDoorStrs
import Derived.Shelf.SlSorted.Search
namespace Go.Proofs.YtikdgmmloiegjaaGreatDoor
open Go.RowKit
set_option linter.unusedVariables false

structure T3 where
  code : List I3
  looks : List G3
  out : ByteArray
def q00 : T3 := ⟨[], [], ByteArray.empty⟩
def qx (is : List T3) (i : Nat) : T3 := is.getD i q00

/-- The slice's address leads to the records, in w. -/
def RowQ (w : World) (a : Option Addr) (is : List T3) : Prop :=
  ∀ i, i < is.length → ∃ b off, a = some ⟨b, off, none⟩ ∧ ∃ ca cc la lc, w.cell? ⟨b, off + i * 3, none⟩ = some (.slice ca (qx is i).code.length cc) ∧ w.cell? ⟨b, off + i * 3 + 1, none⟩ = some (.slice la (qx is i).looks.length lc) ∧ w.cell? ⟨b, off + i * 3 + 2, none⟩ = some (.string (qx is i).out) ∧ Row3 w ca (qx is i).code ∧ RowG w la (qx is i).looks
theorem RowQ.below {w w' : World} {a : Option Addr} {is : List T3} (h : RowQ w a is) (hb : Below w.heap.size w w') : RowQ w' a is := by
  intro i hi
  obtain ⟨b, off, ha, ca, cc, la, lc, h1, h2, h3, h4, h5⟩ := h i hi
  exact ⟨b, off, ha, ca, cc, la, lc, cell_below hb h1, cell_below hb h2, cell_below hb h3, h4.below hb, h5.below hb⟩

/-- Records of our own making, at block g; their rows at blocks from B on. -/
def RowQo (w : World) (B : Nat) (g : Nat) (is : List T3) : Prop :=
  B ≤ g ∧ ∀ i, i < is.length → ∃ g1 g2, B ≤ g1 ∧ B ≤ g2 ∧ w.cell? ⟨g, i * 3, none⟩ = some (.slice (some ⟨g1, 0, none⟩) (qx is i).code.length (qx is i).code.length) ∧ w.cell? ⟨g, i * 3 + 1, none⟩ = some (.slice (some ⟨g2, 0, none⟩) (qx is i).looks.length (qx is i).looks.length) ∧ w.cell? ⟨g, i * 3 + 2, none⟩ = some (.string (qx is i).out) ∧ Row3 w (some ⟨g1, 0, none⟩) (qx is i).code ∧ RowG w (some ⟨g2, 0, none⟩) (qx is i).looks
theorem RowQo.row {w : World} {B g : Nat} {is : List T3} (h : RowQo w B g is) : RowQ w (some ⟨g, 0, none⟩) is := by
  intro i hi
  obtain ⟨g1, g2, _, _, h1, h2, h3, h4, h5⟩ := h.2 i hi
  exact ⟨g, 0, rfl, _, _, _, _, by rw [Nat.zero_add]; exact h1, by rw [Nat.zero_add]; exact h2, by rw [Nat.zero_add]; exact h3, h4, h5⟩
theorem RowQo.setCell {w : World} {B g : Nat} {is : List T3} (h : RowQo w B g is) {b j : Nat} (hb : b < B) (v : Value) : RowQo (w.setCell ⟨b, j, none⟩ v) B g is := by
  refine ⟨h.1, fun i hi => ?_⟩
  obtain ⟨g1, g2, k1, k2, h1, h2, h3, h4, h5⟩ := h.2 i hi
  have hB := h.1
  have e : ∀ o, (w.setCell ⟨b, j, none⟩ v).cell? ⟨g, o, none⟩ = w.cell? ⟨g, o, none⟩ := fun o => World.cell?_of_block (w := w) (Below.heap_setCell w ⟨b, j, none⟩ v g (by simp; omega))
  exact ⟨g1, g2, k1, k2, by rw [e]; exact h1, by rw [e]; exact h2, by rw [e]; exact h3, h4.setCell (by omega) v, h5.setCell (by omega) v⟩

def FilledQ (w : World) (B : Nat) (is : List T3) (k : Nat) (xs : List Value) : Prop :=
  ∀ i, i < k → ∃ g1 g2, B < g1 ∧ B < g2 ∧ xs[i * 3]? = some (.slice (some ⟨g1, 0, none⟩) (qx is i).code.length (qx is i).code.length) ∧ xs[i * 3 + 1]? = some (.slice (some ⟨g2, 0, none⟩) (qx is i).looks.length (qx is i).looks.length) ∧ xs[i * 3 + 2]? = some (.string (qx is i).out) ∧ Row3 w (some ⟨g1, 0, none⟩) (qx is i).code ∧ RowG w (some ⟨g2, 0, none⟩) (qx is i).looks
theorem filledQ_set {w : World} {B : Nat} {is : List T3} {k g1 g2 : Nat} {xs : List Value} (h : FilledQ w B is k xs) (hx : k * 3 + 2 < xs.length) (hg1 : B < g1) (hg2 : B < g2) (hr : Row3 w (some ⟨g1, 0, none⟩) (qx is k).code) (hr2 : RowG w (some ⟨g2, 0, none⟩) (qx is k).looks) :
    FilledQ w B is (k + 1) (((xs.set (k * 3) (.slice (some ⟨g1, 0, none⟩) (qx is k).code.length (qx is k).code.length)).set (k * 3 + 1) (.slice (some ⟨g2, 0, none⟩) (qx is k).looks.length (qx is k).looks.length)).set (k * 3 + 2) (.string (qx is k).out)) := by
  intro i hi
  rcases Nat.lt_or_ge i k with hl | hl
  · obtain ⟨a1, a2, b1, b2, h1, h2, h3, h4, h5⟩ := h i hl
    simp only [List.getElem?_set]
    rw [if_neg (by omega), if_neg (by omega), if_neg (by omega), if_neg (by omega), if_neg (by omega), if_neg (by omega), if_neg (by omega), if_neg (by omega), if_neg (by omega)]
    exact ⟨a1, a2, b1, b2, h1, h2, h3, h4, h5⟩
  · obtain rfl : i = k := by omega
    refine ⟨g1, g2, hg1, hg2, ?_, ?_, ?_, hr, hr2⟩
    · simp [List.getElem?_set]; omega
    · simp [List.getElem?_set]; omega
    · simp [List.getElem?_set]; omega
theorem FilledQ.setCell {w : World} {B : Nat} {is : List T3} {k : Nat} {xs : List Value} (h : FilledQ w B is k xs) (j : Nat) (v : Value) : FilledQ (w.setCell ⟨B, j, none⟩ v) B is k xs := by
  intro i hi
  obtain ⟨a1, a2, b1, b2, h1, h2, h3, h4, h5⟩ := h i hi
  exact ⟨a1, a2, b1, b2, h1, h2, h3, h4.setCell (by omega) v, h5.setCell (by omega) v⟩
theorem FilledQ.below {w w' : World} {B : Nat} {is : List T3} {k : Nat} {xs : List Value} (h : FilledQ w B is k xs) (hb : Below w.heap.size w w') : FilledQ w' B is k xs := by
  intro i hi
  obtain ⟨a1, a2, b1, b2, h1, h2, h3, h4, h5⟩ := h i hi
  exact ⟨a1, a2, b1, b2, h1, h2, h3, h4.below hb, h5.below hb⟩
theorem rowQ_own {w : World} {g n cap : Nat} {is : List T3} {xs : List Value} (hn : n = is.length) (h : w.ownsRow g 54 3 (.slice (some ⟨g, 0, none⟩) n cap) n xs) (hf : FilledQ w g is n xs) : RowQo w g g is := by
  subst hn
  refine ⟨Nat.le_refl _, fun i hi => ?_⟩
  obtain ⟨a1, a2, b1, b2, h1, h2, h3, h4, h5⟩ := hf i hi
  refine ⟨a1, a2, by omega, by omega, ?_, ?_, ?_, h4, h5⟩
  · rw [h.cellAt _ (by omega)]; exact h1
  · rw [h.cellAt _ (by omega)]; exact h2
  · rw [h.cellAt _ (by omega)]; exact h3

/-- What the reading gives of a list of records. -/
structure QsOk (rs : List T3) : Prop where
  lr : rs.length ≤ maxLen
  lc : ∀ i, (qx rs i).code.length ≤ maxLen
  lg : ∀ i, (qx rs i).looks.length ≤ maxLen
  xc : ∀ i j, (ix (qx rs i).code j).text.size ≤ maxLen
  ng : ∀ i j, (gx (qx rs i).looks j).name.size ≤ maxLen
  sg : ∀ i j, (gx (qx rs i).looks j).sum.size ≤ maxLen
  so : ∀ i, (qx rs i).out.size ≤ maxLen
/-- What the law's look at the size leaves. -/
def QsSmall (rs : List T3) : Prop := rs.length ≤ 1048576 ∧ ∀ i, i < rs.length → (qx rs i).code.length ≤ 1048576 ∧ (qx rs i).looks.length ≤ 1048576

theorem Tryz.info54 : (Tryz.prog.info? 54).map (fun i => (i.zero, i.size, i.bytes)) = some (some (.agg #[.slice none 0 0, .slice none 0 0, .string ByteArray.empty]), 3, 64) := by kernel_rfl

set_option maxHeartbeats 1000000 in
theorem eqRecordS_same (a a' : Option Addr) (cap cap' : Nat) (is : List T3) (w : World) (hc : RowQ w a is) (hc' : RowQ w a' is) (hk : QsSmall is) :
    Calls Tryz.prog 15 #[.slice a is.length cap, .slice a' is.length cap'] w fun e w' => Below w.heap.size w w' ∧ e = .returned (.bool true) := by
  have hl := hk.1
  have HK : Hid (∀ i, i < is.length → (qx is i).code.length ≤ 1048576 ∧ (qx is i).looks.length ≤ 1048576) := hk.2
  clear hk
  go_enter Tryz.func15, Tryz.ntmps15
  go_wp2
  go_loopw [5] (fun i wr => ∃ k : Nat, k ≤ is.length ∧ i = .int .i64 k ∧ Below w.heap.size w wr) (fun i _ => is.length - (intOf i).toNat)
  case atStart => exact ⟨0, Nat.zero_le _, rfl, Below.refl _ _⟩
  case round =>
    obtain ⟨k, hk, rfl, hbel⟩ := hrel
    by_cases hlt : k < is.length
    · obtain ⟨b, off, rfl, ca, cc, la, lc, c1, c2, c3, c4, c5⟩ := (hc.below hbel) k hlt
      obtain ⟨b', off', rfl, ca', cc', la', lc', d1, d2, d3, d4, d5⟩ := (hc'.below hbel) k hlt
      have hck := HK.out k hlt
      generalize qx is k = i at *
      clear hc hc'
      have C4 : Hid (Row3 wr ca i.code) := c4
      have C5 : Hid (RowG wr la i.looks) := c5
      have D4 : Hid (Row3 wr ca' i.code) := d4
      have D5 : Hid (RowG wr la' i.looks) := d5
      clear c4 c5 d4 d5
      have hkI : (k : Int) < (is.length : Int) := by omega
      have hk0 : (0 : Int) ≤ (k : Int) := by omega
      have hbd : Below wr.heap.size wr wr.drew := (Below.refl _ _).drew
      go_wp2_with fail
      go_region_held3 (fun w' => (w'.cell? ⟨b, off + k * 3, none⟩ = some (.slice ca i.code.length cc) ∧ w'.cell? ⟨b, off + k * 3 + 1, none⟩ = some (.slice la i.looks.length lc) ∧ w'.cell? ⟨b, off + k * 3 + 2, none⟩ = some (.string i.out)) ∧ (w'.cell? ⟨b', off' + k * 3, none⟩ = some (.slice ca' i.code.length cc') ∧ w'.cell? ⟨b', off' + k * 3 + 1, none⟩ = some (.slice la' i.looks.length lc') ∧ w'.cell? ⟨b', off' + k * 3 + 2, none⟩ = some (.string i.out)))
        (first | assumption | (simp [*]; done) | exact ⟨⟨cell_below hb1 (by simp [*]), cell_below hb1 (by simp [*]), cell_below hb1 (by simp [*])⟩, cell_below hb1 (by simp [*]), cell_below hb1 (by simp [*]), cell_below hb1 (by simp [*])⟩)
        (first | (go_at_call 33; refine (eqRecord_same ca ca' la la' cc cc' lc lc' i.code i.looks i.out _ (C4.out.below hbd) (D4.out.below hbd) (C5.out.below hbd) (D5.out.below hbd) hck.1 hck.2).mono ?_; rintro e w1 ⟨hb1, rfl⟩))
      all_goals
        go_wp2
        go_roundw
        case rel => exact ⟨k + 1, by omega, by go_num, hbel.trans (Below.trans (Below.drew (Below.refl _ _)) (hb1.mono (by simpa using hbel.size)))⟩
        case measure => simp [intOf]; omega
    · go_wp2
      go_ret
      exact ⟨hbel, rfl⟩

end Go.Proofs.YtikdgmmloiegjaaGreatDoor
namespace Go.Proofs.YtikdgmmloiegjaaGreatDoor
open Go.RowKit
set_option linter.unusedVariables false

def lessB (a b : ByteArray) : Bool := Op.bytesLess a.toList b.toList
theorem lessB_trans {a b c : ByteArray} (h : lessB a b = true) (k : lessB b c = true) : lessB a c = true := by
  unfold lessB at *
  rw [bytesLess_eq] at *
  simp only [decide_eq_true_eq] at *
  exact List.lt_trans h k
theorem lessB_irrefl (a : ByteArray) : lessB a a = false := by
  unfold lessB
  rw [bytesLess_eq]
  simp only [decide_eq_false_iff_not]
  exact List.lt_irrefl _

def nx (l : List ByteArray) (i : Nat) : ByteArray := l.getD i ByteArray.empty
def Asc (l : List ByteArray) : Prop := ∀ i, 1 ≤ i → i < l.length → lessB (nx l (i - 1)) (nx l i) = true
theorem Asc.lt {l : List ByteArray} (h : Asc l) : ∀ (d i : Nat), i + d + 1 < l.length → lessB (nx l i) (nx l (i + d + 1)) = true
  | 0, i, hi => by have := h (i + 0 + 1) (by omega) hi; simpa using this
  | d + 1, i, hi => by
    have h1 := Asc.lt h d i (by omega)
    have h2 := h (i + (d + 1) + 1) (by omega) hi
    exact lessB_trans h1 (by have := h2; rw [Nat.add_sub_cancel] at this; exact this)
theorem Asc.pair {l : List ByteArray} (h : Asc l) {i j : Nat} (hij : i < j) (hj : j < l.length) : lessB (nx l i) (nx l j) = true := by
  have := h.lt (j - i - 1) i (by omega)
  rwa [show i + (j - i - 1) + 1 = j by omega] at this

theorem iff_no {P : Prop} (h : ¬ P) : (false = true ↔ P) := ⟨fun k => absurd k (by decide), fun k => absurd k h⟩
theorem iff_yes {P : Prop} (h : P) : (true = true ↔ P) := ⟨fun _ => h, fun _ => rfl⟩

theorem ascending_step {l : List ByteArray} {m : Nat} (h : ∀ j, 1 ≤ j → j < m + 1 → lessB (nx l (j - 1)) (nx l j) = true) (hk : lessB (nx l m) (nx l (m + 1)) = true) : ∀ j, 1 ≤ j → j < m + 1 + 1 → lessB (nx l (j - 1)) (nx l j) = true := by
  intro j h1 h2
  rcases Nat.lt_or_ge j (m + 1) with h3 | h3
  · exact h j h1 h3
  · obtain rfl : j = m + 1 := by omega
    simpa using hk

set_option maxHeartbeats 1000000 in
theorem ascending_any (a : Option Addr) (cap : Nat) (l : List ByteArray) (w : World) (hc : Strs w a l) (hl : l.length ≤ 1048576) :
    Calls Tryz.prog 58 #[.slice a l.length cap] w fun e w' => Below w.heap.size w w' ∧ ∃ b : Bool, e = .returned (.bool b) ∧ (b = true ↔ Asc l) := by
  go_enter Tryz.func58, Tryz.ntmps58
  go_wp2
  go_loopw [3] (fun i wr => ∃ m : Nat, (m = 0 ∨ m + 1 ≤ l.length) ∧ i = .int .i64 (m + 1) ∧ Hid (∀ j, 1 ≤ j → j < m + 1 → lessB (nx l (j - 1)) (nx l j) = true) ∧ Below w.heap.size w wr) (fun i _ => l.length + 1 - (intOf i).toNat)
  case atStart => exact ⟨0, Or.inl rfl, rfl, (fun j h1 h2 => by omega : ∀ j, 1 ≤ j → j < 0 + 1 → lessB (nx l (j - 1)) (nx l j) = true), Below.refl _ _⟩
  case round =>
    obtain ⟨m, hm, rfl, HA, hbel⟩ := hrel
    by_cases hlt : m + 1 < l.length
    · obtain ⟨b, off, rfl, c1⟩ := (hc.below hbel) m (by omega)
      obtain ⟨b', off', e', c2⟩ := (hc.below hbel) (m + 1) hlt
      simp only [Option.some.injEq, Addr.mk.injEq, and_true] at e'
      obtain ⟨rfl, rfl⟩ := e'
      replace c1 : wr.cell? ⟨b, off + m, none⟩ = some (.string (nx l m)) := c1
      replace c2 : wr.cell? ⟨b, off + (m + 1), none⟩ = some (.string (nx l (m + 1))) := c2
      obtain ⟨v, hv⟩ : ∃ v, lessB (nx l m) (nx l (m + 1)) = v := ⟨_, rfl⟩
      have HV : Hid (lessB (nx l m) (nx l (m + 1)) = v) := hv
      unfold lessB at hv
      clear hc
      generalize nx l m = s at c1 hv
      generalize nx l (m + 1) = s' at c2 hv
      have hltI : (m : Int) + 1 < (l.length : Int) := by omega
      cases v
      · go_wp2
        go_region
        all_goals
          go_wp2
          go_ret
          exact ⟨by repeat (first | exact hbel | apply Below.drew), false, rfl, iff_no (fun h => by have := h (m + 1) (by omega) hlt; rw [Nat.add_sub_cancel, HV.out] at this; cases this)⟩
      · go_wp2
        go_region
        all_goals
          go_wp2
          go_roundw
          case rel => exact ⟨m + 1, by omega, by go_num, ascending_step HA.out HV.out, by repeat (first | exact hbel | apply Below.drew)⟩
          case measure => simp [intOf]; omega
    · go_wp2
      go_ret
      exact ⟨hbel, true, rfl, iff_yes (fun j h1 h2 => HA.out j h1 (by omega))⟩

end Go.Proofs.YtikdgmmloiegjaaGreatDoor
