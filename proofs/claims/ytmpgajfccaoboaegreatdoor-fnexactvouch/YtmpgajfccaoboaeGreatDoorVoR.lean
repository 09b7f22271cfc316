/-
  What a record's look tells by the texts of a store: both of them.
-/
import Derived.Test.YtmpgajfccaoboaeGreatDoorVoA
import Derived.Test.YtmpgajfccaoboaeGreatDoorGtSp
import Derived.Test.YtmpgajfccaoboaeGreatDoorRead
import Derived.Deep.DeepCutAuto
namespace Go.Proofs.YtmpgajfccaoboaeGreatDoor
open Go.RowKit
set_option linter.unusedVariables false

def Got (n : Nat) (ts : List ByteArray) (t : ByteArray) : Prop := ∃ i, i < ts.length ∧ sumB n (nx ts i) = t
open Classical in
noncomputable def getA (n : Nat) (ts : List ByteArray) (t : ByteArray) : ByteArray := if h : Got n ts t then nx ts h.choose else ⟨#[]⟩
theorem getA_of {n : Nat} {ts : List ByteArray} {t A : ByteArray} {ok : Bool} (ha : Asc (ts.map (sumB n))) (h : GetOut n ts t A ok) : A = getA n ts t ∧ (ok = true ↔ Got n ts t) := by
  by_cases hg : Got n ts t
  · have k : GetOut n ts t (getA n ts t) true := Or.inl ⟨rfl, hg.choose, hg.choose_spec.1, hg.choose_spec.2, by unfold getA; rw [dif_pos hg]⟩
    obtain ⟨e1, e2⟩ := GetOut.unique ha k h
    exact ⟨e1, by rw [e2]; simp [hg]⟩
  · have k : GetOut n ts t (getA n ts t) false := Or.inr ⟨rfl, by unfold getA; rw [dif_neg hg], fun ⟨i, hi, e⟩ => hg ⟨i, by rw [List.length_map] at hi; exact hi, by rw [← nx_sums n ts i (by rw [List.length_map] at hi; exact hi)]; exact e⟩⟩
    obtain ⟨e1, e2⟩ := GetOut.unique ha k h
    exact ⟨e1, by rw [e2]; simp [hg]⟩
theorem getA_none {n : Nat} {ts : List ByteArray} {t : ByteArray} (h : ¬ Got n ts t) : getA n ts t = ⟨#[]⟩ := by unfold getA; rw [dif_neg h]
theorem getA_size {n : Nat} {ts : List ByteArray} {t : ByteArray} (hs : ∀ i, i < ts.length → (nx ts i).size ≤ 2002) : (getA n ts t).size ≤ 2002 := by
  unfold getA
  split
  · rename_i h; exact hs _ h.choose_spec.1
  · decide

/-- The code and the text of a result's form. -/
def rdC (A : ByteArray) : Int := if h : 0 < A.size then (A[0].toNat : Int) - 48 else 0
def rdT (A : ByteArray) : ByteArray := A.extract 2 A.size
theorem rdC_eq {A : ByteArray} (h : 0 < A.size) : (A[0].toNat : Int) - 48 = rdC A := by unfold rdC; rw [dif_pos h]
theorem rr_empty : ¬ rrB (⟨#[]⟩ : ByteArray) := fun ⟨h, _⟩ => absurd h (by decide)
theorem rr_pos {A : ByteArray} (h : rrB A) : 0 < A.size := by obtain ⟨h, _⟩ := h; omega
theorem rr_code {A : ByteArray} (h : rrB A) : 0 ≤ rdC A ∧ rdC A ≤ 5 := by
  rw [← rdC_eq (rr_pos h)]
  obtain ⟨h1, h2, h3, h4, h5⟩ := h
  omega
theorem rr_text {A : ByteArray} (h : rrB A) : (rdT A).size ≤ 2000 := by
  obtain ⟨h1, h2, h3, h4, h5⟩ := h
  unfold rdT
  rw [ByteArray.size_extract]
  omega

open Classical in
noncomputable def tellP (n : Nat) (ts : List ByteArray) (g : G3) : Option R3 :=
  if g.ask = false then (if g.sum = sumB n ⟨#[49]⟩ then some ⟨true, 0, ⟨#[]⟩⟩ else if g.sum = sumB n ⟨#[48]⟩ then some ⟨false, 0, ⟨#[]⟩⟩ else none)
  else if rrB (getA n ts g.sum) then (if rdC (getA n ts g.sum) = 4 ∧ rdT (getA n ts g.sum) = g.name then some ⟨false, 0, ⟨#[]⟩⟩ else some ⟨true, rdC (getA n ts g.sum), rdT (getA n ts g.sum)⟩)
  else none
theorem tell_has1 {n : Nat} {ts : List ByteArray} {g : G3} (ha : g.ask = false) (h : g.sum = sumB n ⟨#[49]⟩) : tellP n ts g = some ⟨true, 0, ⟨#[]⟩⟩ := by unfold tellP; rw [if_pos ha, if_pos h]
theorem tell_has0 {n : Nat} {ts : List ByteArray} {g : G3} (ha : g.ask = false) (h : ¬ g.sum = sumB n ⟨#[49]⟩) (h' : g.sum = sumB n ⟨#[48]⟩) : tellP n ts g = some ⟨false, 0, ⟨#[]⟩⟩ := by unfold tellP; rw [if_pos ha, if_neg h, if_pos h']
theorem tell_hasN {n : Nat} {ts : List ByteArray} {g : G3} (ha : g.ask = false) (h : ¬ g.sum = sumB n ⟨#[49]⟩) (h' : ¬ g.sum = sumB n ⟨#[48]⟩) : tellP n ts g = none := by unfold tellP; rw [if_pos ha, if_neg h, if_neg h']
theorem tell_no {n : Nat} {ts : List ByteArray} {g : G3} (ha : g.ask = true) (h : ¬ rrB (getA n ts g.sum)) : tellP n ts g = none := by unfold tellP; rw [if_neg (by rw [ha]; decide), if_neg h]
theorem tell_missing {n : Nat} {ts : List ByteArray} {g : G3} (ha : g.ask = true) (h : rrB (getA n ts g.sum)) (h' : rdC (getA n ts g.sum) = 4 ∧ rdT (getA n ts g.sum) = g.name) : tellP n ts g = some ⟨false, 0, ⟨#[]⟩⟩ := by unfold tellP; rw [if_neg (by rw [ha]; decide), if_pos h, if_pos h']
theorem tell_yes {n : Nat} {ts : List ByteArray} {g : G3} (ha : g.ask = true) (h : rrB (getA n ts g.sum)) (h' : ¬ (rdC (getA n ts g.sum) = 4 ∧ rdT (getA n ts g.sum) = g.name)) : tellP n ts g = some ⟨true, rdC (getA n ts g.sum), rdT (getA n ts g.sum)⟩ := by unfold tellP; rw [if_neg (by rw [ha]; decide), if_pos h, if_neg h']
theorem tell_ok {n : Nat} {ts : List ByteArray} {g : G3} {y : R3} (h : tellP n ts g = some y) : repOk y = true := by
  have hz : repOk ⟨true, 0, ⟨#[]⟩⟩ = true := by decide
  have hz' : repOk ⟨false, 0, ⟨#[]⟩⟩ = true := by decide
  cases ha : g.ask
  · by_cases h1 : g.sum = sumB n ⟨#[49]⟩
    · rw [tell_has1 ha h1] at h; cases h; exact hz
    · by_cases h2 : g.sum = sumB n ⟨#[48]⟩
      · rw [tell_has0 ha h1 h2] at h; cases h; exact hz'
      · rw [tell_hasN ha h1 h2] at h; cases h
  · by_cases h1 : rrB (getA n ts g.sum)
    · by_cases h2 : rdC (getA n ts g.sum) = 4 ∧ rdT (getA n ts g.sum) = g.name
      · rw [tell_missing ha h1 h2] at h; cases h; exact hz'
      · rw [tell_yes ha h1 h2] at h; cases h
        have k1 := rr_code h1
        have k2 := rr_text h1
        simp only [repOk, Bool.and_eq_true, decide_eq_true_eq]
        omega
    · rw [tell_no ha h1] at h; cases h

/-- What replyOf gives. -/
def ReplyI (n : Nat) (ts : List ByteArray) (g : G3) (y : R3) (told : Bool) : Prop := (told = false ∧ tellP n ts g = none) ∨ (told = true ∧ ∃ y', tellP n ts g = some y' ∧ y.text.size ≤ 2000 ∧ ∀ nm s, ansP g.ask nm y s = ansP g.ask nm y' s)
/-- What l4Reply gives. -/
def ReplyS (n : Nat) (ts : List ByteArray) (g : G3) (y : R3) (told : Bool) : Prop := (told = false ∧ tellP n ts g = none) ∨ (told = true ∧ tellP n ts g = some y)

theorem implRead_any (A : ByteArray) (w : World) (hs : A.size ≤ 2002) : Calls Tryz.prog 163 #[.string A] w fun e w' => Below w.heap.size w w' ∧ ((rrB A ∧ e = .returned (.tuple #[.agg #[.int .i64 (rdC A), .string (rdT A), .slice none 0 0], .bool true])) ∨ (¬ rrB A ∧ e = .returned (.tuple #[.agg #[.int .i64 0, .string ⟨#[]⟩, .slice none 0 0], .bool false]))) := by
  by_cases h : rrB A
  · refine (implRead_yes A w h (rr_pos h)).mono ?_
    rintro e w' ⟨rfl, hb⟩
    rw [rdC_eq (rr_pos h)]
    exact ⟨hb, Or.inl ⟨h, rfl⟩⟩
  · refine (implRead_no A w (by omega) h).mono ?_
    rintro e w' ⟨rfl, hb⟩
    exact ⟨hb, Or.inr ⟨h, rfl⟩⟩
theorem specRead_any (A : ByteArray) (w : World) (hs : A.size ≤ 2002) : Calls Tryz.prog 154 #[.string A] w fun e w' => Below w.heap.size w w' ∧ ((rrB A ∧ e = .returned (.tuple #[.agg #[.int .i64 (rdC A), .string (rdT A), .slice none 0 0], .bool true])) ∨ (¬ rrB A ∧ e = .returned (.tuple #[.agg #[.int .i64 0, .string ⟨#[]⟩, .slice none 0 0], .bool false]))) := by
  by_cases h : rrB A
  · refine (specRead_yes A w h (rr_pos h)).mono ?_
    rintro e w' ⟨rfl, hb⟩
    rw [rdC_eq (rr_pos h)]
    exact ⟨hb, Or.inl ⟨h, rfl⟩⟩
  · refine (specRead_no A w (by omega) h).mono ?_
    rintro e w' ⟨rfl, hb⟩
    exact ⟨hb, Or.inr ⟨h, rfl⟩⟩

open Go.RowKit
set_option linter.unusedVariables false

theorem bk3 {w : World} {b : Nat} {v0 v1 v2 : Value} {T : TypeId} (h : w.heap[b]? = some (.cells #[v0, v1, v2] T (0, 0))) : w.cell? ⟨b, 0, none⟩ = some v0 ∧ w.cell? ⟨b, 1, none⟩ = some v1 ∧ w.cell? ⟨b, 2, none⟩ = some v2 ∧ ∀ j, w.frozen? ⟨b, j, none⟩ = false := by
  refine ⟨?_, ?_, ?_, fun j => Lib.frozen_of_heap h j⟩ <;> rw [Lib.cell_of_heap h] <;> rfl
theorem blk_keep {w w' : World} {b : Nat} {cs : Array Value} {T : TypeId} (hb : Below w.heap.size w w') (h : w.heap[b]? = some (.cells cs T (0, 0))) : w'.heap[b]? = some (.cells cs T (0, 0)) := by
  rw [hb.block _ (blk_lt h)]; exact h

theorem set3_at {w : World} {b : Nat} {u0 u1 u2 : Value} {T : TypeId} (h : w.heap[b]? = some (.cells #[u0, u1, u2] T (0, 0))) (v0 v1 v2 : Value) : (((w.setCell ⟨b, 0, none⟩ v0).setCell ⟨b, 1, none⟩ v1).setCell ⟨b, 2, none⟩ v2).heap[b]? = some (.cells #[v0, v1, v2] T (0, 0)) := by
  rw [Joins.block_setCell (Joins.block_setCell (Joins.block_setCell h v0) v1) v2]
  rfl
theorem set3_same {w : World} {b : Nat} {v0 v1 v2 : Value} {T : TypeId} (h : w.heap[b]? = some (.cells #[v0, v1, v2] T (0, 0))) : (((w.setCell ⟨b, 0, none⟩ v0).setCell ⟨b, 1, none⟩ v1).setCell ⟨b, 2, none⟩ v2).heap[b]? = some (.cells #[v0, v1, v2] T (0, 0)) := set3_at h v0 v1 v2
theorem set3_far {w : World} {b c j : Nat} {v : Value} (hp : b ≠ c) (v0 v1 v2 : Value) (h : w.cell? ⟨c, j, none⟩ = some v) : (((w.setCell ⟨b, 0, none⟩ v0).setCell ⟨b, 1, none⟩ v1).setCell ⟨b, 2, none⟩ v2).cell? ⟨c, j, none⟩ = some v := by
  rw [World.cell?_setCell_far _ _ _ _ hp, World.cell?_setCell_far _ _ _ _ hp, World.cell?_setCell_far _ _ _ _ hp]; exact h
theorem below_set3 {B : Nat} {w w' : World} (hb : Below B w w') {b : Nat} (h : B ≤ b) (v0 v1 v2 : Value) : Below B w (((w'.setCell ⟨b, 0, none⟩ v0).setCell ⟨b, 1, none⟩ v1).setCell ⟨b, 2, none⟩ v2) :=
  ((hb.setCell (p := ⟨b, 0, none⟩) h _).setCell (p := ⟨b, 1, none⟩) h _).setCell (p := ⟨b, 2, none⟩) h _

/-- What a region keeps that stores the zero reply again. -/
theorem keepR {W : World} {A B : Prop} {R : Nat} (h : A ∧ B) (k : W.heap[R]? = some (.cells #[.bool false, .int .i64 0, .string ⟨#[]⟩] 162 (0, 0))) : (A ∧ B) ∧ W.heap[R]? = some (.cells #[.bool false, .int .i64 0, .string ⟨#[]⟩] 162 (0, 0)) ∧ W.cell? ⟨R, 0, none⟩ = some (.bool false) ∧ W.cell? ⟨R, 1, none⟩ = some (.int .i64 0) ∧ W.cell? ⟨R, 2, none⟩ = some (.string ⟨#[]⟩) ∧ ∀ j, W.frozen? ⟨R, j, none⟩ = false := ⟨h, k, bk3 k⟩

set_option maxRecDepth 100000 in
set_option maxHeartbeats 4000000 in
theorem replyOf_has (n : Nat) (ta ra : Option Addr) (tc rn rc : Nat) (ts : List ByteArray) (gn gs : ByteArray) (w : World) (h1 : 1 ≤ n) (h8 : n ≤ 8) :
    Calls Tryz.prog 114 #[.agg #[.int .i64 n, .slice ta ts.length tc, .slice ra rn rc], .agg #[.string gn, .bool false, .string gs]] w fun e w' => Below w.heap.size w w' ∧ ∃ y told, e = .returned (.tuple #[.agg #[.bool y.has, .int .i64 y.code, .string y.text], .bool told]) ∧ ReplyI n ts ⟨gn, false, gs⟩ y told := by
  obtain ⟨W, eW⟩ : ∃ W, (((w.alloc (.cells #[.int .i64 n, .slice ta ts.length tc, .slice ra rn rc] 56)).alloc (.cells #[.string gn, .bool false, .string gs] 154)).alloc (.cells #[.bool false, .int .i64 0, .string ⟨#[]⟩] 162)) = W := ⟨_, rfl⟩
  have hb0 : Below w.heap.size w W := by rw [← eW]; exact (((Below.refl _ _).alloc (Nat.le_refl _) _).alloc (by simp) _).alloc (by simp; omega) _
  have x0 : W.cell? ⟨w.heap.size, 0, none⟩ = some (.int .i64 n) := by rw [← eW]; simp [go_sem]
  have x1 : W.cell? ⟨w.heap.size + 1, 1, none⟩ = some (.bool false) := by rw [← eW]; simp [go_sem]
  have x2 : W.cell? ⟨w.heap.size + 1, 2, none⟩ = some (.string gs) := by rw [← eW]; simp [go_sem]
  have HR : Hid (W.heap[w.heap.size + 1 + 1]? = some (.cells #[.bool false, .int .i64 0, .string ⟨#[]⟩] 162 (0, 0))) := by
    show W.heap[w.heap.size + 1 + 1]? = _
    rw [← eW]
    have h := heap_new ((w.alloc (.cells #[.int .i64 n, .slice ta ts.length tc, .slice ra rn rc] 56)).alloc (.cells #[.string gn, .bool false, .string gs] 154)) (.cells #[.bool false, .int .i64 0, .string ⟨#[]⟩] 162)
    rw [show ((w.alloc (.cells #[.int .i64 n, .slice ta ts.length tc, .slice ra rn rc] 56)).alloc (.cells #[.string gn, .bool false, .string gs] 154)).heap.size = w.heap.size + 1 + 1 from by simp] at h
    exact h
  have HONE : Hid (∀ V : World, Calls Tryz.prog 162 #[.bool true] V fun e w' => e = .returned (.string ⟨#[49]⟩) ∧ V = w') := fun V => oneIf_any true V
  have HZERO : Hid (∀ V : World, Calls Tryz.prog 162 #[.bool false] V fun e w' => e = .returned (.string ⟨#[48]⟩) ∧ V = w') := fun V => oneIf_any false V
  obtain ⟨s1, e1⟩ : ∃ s1, sumB n ⟨#[49]⟩ = s1 := ⟨_, rfl⟩
  obtain ⟨s0, e0⟩ : ∃ s0, sumB n ⟨#[48]⟩ = s0 := ⟨_, rfl⟩
  have HS1 : Hid (∀ V : World, Calls Tryz.prog 161 #[.string ⟨#[49]⟩, .int .i64 n] V fun e w' => e = .returned (.string s1) ∧ Below V.heap.size V w') := fun V => by rw [← e1]; exact implSum_yes ⟨#[49]⟩ n V (by decide) h1 h8
  have HS0 : Hid (∀ V : World, Calls Tryz.prog 161 #[.string ⟨#[48]⟩, .int .i64 n] V fun e w' => e = .returned (.string s0) ∧ Below V.heap.size V w') := fun V => by rw [← e0]; exact implSum_yes ⟨#[48]⟩ n V (by decide) h1 h8
  have E1 : Hid (sumB n ⟨#[49]⟩ = s1) := e1
  have E0 : Hid (sumB n ⟨#[48]⟩ = s0) := e0
  clear e1 e0
  have hbA : Below W.heap.size W W.drew := (Below.refl _ _).drew
  by_cases q1 : gs = s1
  · have HO : Hid (ReplyI n ts ⟨gn, false, gs⟩ ⟨true, 0, ⟨#[]⟩⟩ true) := Or.inr ⟨rfl, _, tell_has1 rfl (by rw [E1.out]; exact q1), by decide, fun _ _ => rfl⟩
    have d1 := str_eq q1
    clear q1
    go_enter Tryz.func114, Tryz.ntmps114
    go_wp2_with fail
    clear eW
    go_region_held3 (fun w' => w'.cell? ⟨w.heap.size, 0, none⟩ = some (.int .i64 n) ∧ w'.cell? ⟨w.heap.size + 1, 2, none⟩ = some (.string gs))
      (first | assumption | (simp [*]; done) | exact ⟨cell_below hb2 (by simp [*]), cell_below hb2 (by simp [*])⟩)
      (first | (go_at_call 162; refine (HONE.out _).mono ?_; rintro e w1 ⟨rfl, rfl⟩) | (go_at_call 161; refine (HS1.out _).mono ?_; rintro e w2 ⟨rfl, hb2⟩))
    all_goals
      have hB2 := bt hb0 (bt hbA hb2)
      have hR2 := blk_keep (bt hbA hb2) HR.out
      obtain ⟨z0, z1, z2, zf⟩ := bk3 hR2
      clear x0 x1 x2 hbA hb2
      go_wp2_with fail
      go_region
      all_goals
        go_wp2
        exact bodyPost_ret (v := .tuple #[.agg #[.bool true, .int .i64 0, .string ⟨#[]⟩], .bool true]) (by simp [results, Tryz.results114, go_sem, z0, z1, z2]) rfl ⟨(below_set3 hB2 (by omega) _ _ _).drew, ⟨true, 0, ⟨#[]⟩⟩, true, rfl, HO.out⟩
  · have d1 := str_ne q1
    obtain ⟨told, dq, HO⟩ : ∃ told, (gs.toList == s0.toList) = told ∧ Hid (ReplyI n ts ⟨gn, false, gs⟩ ⟨false, 0, ⟨#[]⟩⟩ told) := by
      by_cases q0 : gs = s0
      · exact ⟨true, str_eq q0, Or.inr ⟨rfl, _, tell_has0 rfl (by rw [E1.out]; exact q1) (by rw [E0.out]; exact q0), by decide, fun _ _ => rfl⟩⟩
      · exact ⟨false, str_ne q0, Or.inl ⟨rfl, tell_hasN rfl (by rw [E1.out]; exact q1) (by rw [E0.out]; exact q0)⟩⟩
    clear q1
    go_enter Tryz.func114, Tryz.ntmps114
    go_wp2_with fail
    clear eW
    go_region_held3 (fun w' => w'.cell? ⟨w.heap.size, 0, none⟩ = some (.int .i64 n) ∧ w'.cell? ⟨w.heap.size + 1, 2, none⟩ = some (.string gs))
      (first | assumption | (simp [*]; done) | exact ⟨cell_below hb2 (by simp [*]), cell_below hb2 (by simp [*])⟩)
      (first | (go_at_call 162; refine (HONE.out _).mono ?_; rintro e w1 ⟨rfl, rfl⟩) | (go_at_call 161; refine (HS1.out _).mono ?_; rintro e w2 ⟨rfl, hb2⟩))
    all_goals
      have hB2 := bt hb0 (bt hbA hb2)
      have hR2 := blk_keep (bt hbA hb2) HR.out
      have y0 := cell_below (bt hbA hb2) x0
      have y2 := cell_below (bt hbA hb2) x2
      clear x0 x1 x2 hbA hb2
      have hbC : Below w2.heap.size w2 w2.drew := (Below.refl _ _).drew
      have hlw : w.heap.size + 1 + 1 < w2.heap.size := blk_lt hR2
      go_wp2_with fail
      go_region_held3 (fun w' => (w'.cell? ⟨w.heap.size, 0, none⟩ = some (.int .i64 n) ∧ w'.cell? ⟨w.heap.size + 1, 2, none⟩ = some (.string gs)) ∧ w'.heap[w.heap.size + 1 + 1]? = some (.cells #[.bool false, .int .i64 0, .string ⟨#[]⟩] 162 (0, 0)) ∧ w'.cell? ⟨w.heap.size + 1 + 1, 0, none⟩ = some (.bool false) ∧ w'.cell? ⟨w.heap.size + 1 + 1, 1, none⟩ = some (.int .i64 0) ∧ w'.cell? ⟨w.heap.size + 1 + 1, 2, none⟩ = some (.string ⟨#[]⟩) ∧ ∀ j, w'.frozen? ⟨w.heap.size + 1 + 1, j, none⟩ = false)
        (first | exact keepR ⟨y0, y2⟩ hR2 | (go_split_ands; with_reducible (refine keepR ⟨cell_below hb4 ?_, cell_below hb4 ?_⟩ (blk_keep hb4 ?_) <;> assumption)) | (go_split_ands; with_reducible (refine keepR ⟨set3_far (by omega) _ _ _ ?_, set3_far (by omega) _ _ _ ?_⟩ (set3_same ?_) <;> assumption)) | assumption | (simp [*]; done))
        (first | (go_at_call 162; refine (HZERO.out _).mono ?_; rintro e w3 ⟨rfl, rfl⟩) | (go_at_call 161; refine (HS0.out _).mono ?_; rintro e w4 ⟨rfl, hb4⟩))
      all_goals
        go_wp2
        rename_i hh
        obtain ⟨_, _, z0, z1, z2, zf⟩ := hh
        first
          | exact bodyPost_ret (v := .tuple #[.agg #[.bool false, .int .i64 0, .string ⟨#[]⟩], .bool told]) (by simp [results, Tryz.results114, go_sem, z0, z1, z2]) rfl ⟨below_set3 (bt hB2 (bt hbC hb4)) (by omega) _ _ _, ⟨false, 0, ⟨#[]⟩⟩, told, rfl, HO.out⟩
          | exact bodyPost_ret (v := .tuple #[.agg #[.bool false, .int .i64 0, .string ⟨#[]⟩], .bool told]) (by simp [results, Tryz.results114, go_sem, z0, z1, z2]) rfl ⟨bt (below_set3 (bt hB2 hbC) (by omega) _ _ _) hb4, ⟨false, 0, ⟨#[]⟩⟩, told, rfl, HO.out⟩

set_option maxRecDepth 100000 in
set_option maxHeartbeats 4000000 in
theorem replyOf_ask (n : Nat) (ta ra : Option Addr) (tc rn rc : Nat) (ts : List ByteArray) (gn gs : ByteArray) (w : World) (h1 : 1 ≤ n) (h8 : n ≤ 8) (hc : Strs w ta ts) (hl : ts.length ≤ 1048576) (hs : ∀ i, i < ts.length → (nx ts i).size ≤ 2002) (hasc : Asc (ts.map (sumB n))) :
    Calls Tryz.prog 114 #[.agg #[.int .i64 n, .slice ta ts.length tc, .slice ra rn rc], .agg #[.string gn, .bool true, .string gs]] w fun e w' => Below w.heap.size w w' ∧ ∃ y told, e = .returned (.tuple #[.agg #[.bool y.has, .int .i64 y.code, .string y.text], .bool told]) ∧ ReplyI n ts ⟨gn, true, gs⟩ y told := by
  obtain ⟨W, eW⟩ : ∃ W, (((w.alloc (.cells #[.int .i64 n, .slice ta ts.length tc, .slice ra rn rc] 56)).alloc (.cells #[.string gn, .bool true, .string gs] 154)).alloc (.cells #[.bool false, .int .i64 0, .string ⟨#[]⟩] 162)) = W := ⟨_, rfl⟩
  have hb0 : Below w.heap.size w W := by rw [← eW]; exact (((Below.refl _ _).alloc (Nat.le_refl _) _).alloc (by simp) _).alloc (by simp; omega) _
  have x0 : W.cell? ⟨w.heap.size, 0, none⟩ = some (.int .i64 n) := by rw [← eW]; simp [go_sem]
  have x3 : W.cell? ⟨w.heap.size, 1, none⟩ = some (.slice ta ts.length tc) := by rw [← eW]; simp [go_sem]
  have x4 : W.cell? ⟨w.heap.size, 2, none⟩ = some (.slice ra rn rc) := by rw [← eW]; simp [go_sem]
  have x5 : W.cell? ⟨w.heap.size + 1, 0, none⟩ = some (.string gn) := by rw [← eW]; simp [go_sem]
  have x1 : W.cell? ⟨w.heap.size + 1, 1, none⟩ = some (.bool true) := by rw [← eW]; simp [go_sem]
  have x2 : W.cell? ⟨w.heap.size + 1, 2, none⟩ = some (.string gs) := by rw [← eW]; simp [go_sem]
  have HR : Hid (W.heap[w.heap.size + 1 + 1]? = some (.cells #[.bool false, .int .i64 0, .string ⟨#[]⟩] 162 (0, 0))) := by
    show W.heap[w.heap.size + 1 + 1]? = _
    rw [← eW]
    have h := heap_new ((w.alloc (.cells #[.int .i64 n, .slice ta ts.length tc, .slice ra rn rc] 56)).alloc (.cells #[.string gn, .bool true, .string gs] 154)) (.cells #[.bool false, .int .i64 0, .string ⟨#[]⟩] 162)
    rw [show ((w.alloc (.cells #[.int .i64 n, .slice ta ts.length tc, .slice ra rn rc] 56)).alloc (.cells #[.string gn, .bool true, .string gs] 154)).heap.size = w.heap.size + 1 + 1 from by simp] at h
    exact h
  have HC : Hid (Strs w ta ts) := hc
  have HS : Hid (∀ i, i < ts.length → (nx ts i).size ≤ 2002) := hs
  have HA : Hid (Asc (ts.map (sumB n))) := hasc
  clear hc hs hasc
  go_enter Tryz.func114, Tryz.ntmps114
  go_wp2_with fail
  clear eW
  refine (textOf_any n ta ra tc rn rc ts gs _ h1 h8 (HC.out.below hb0) hl HS.out HA.out).mono ?_
  rintro e w1 ⟨hb1, A, ok, rfl, hg⟩
  obtain ⟨eA, _⟩ := getA_of HA.out hg
  have hAs : A.size ≤ 2002 := by rw [eA]; exact getA_size HS.out
  have EA : Hid (getA n ts gs = A) := eA.symm
  have hB1 := bt hb0 hb1
  have hR1 := blk_keep hb1 HR.out
  have y5 := cell_below hb1 x5
  clear hg eA x0 x1 x2 x3 x4 x5 hb1 HR
  go_wp2_with fail
  refine (implRead_any A _ hAs).mono ?_
  rintro e w2 ⟨hb2, hrd⟩
  have hB2 := bt hB1 hb2
  have hR2 := blk_keep hb2 hR1
  have z5 := cell_below hb2 y5
  have hlw : w.heap.size + 1 + 1 < w2.heap.size := blk_lt hR2
  clear hB1 hR1 y5 hb2
  rcases hrd with ⟨hr, rfl⟩ | ⟨hr, rfl⟩
  · obtain ⟨k1, k2⟩ := rr_code hr
    have ht := rr_text hr
    have HRR : Hid (rrB (getA n ts gs)) := by show rrB _; rw [EA.out]; exact hr
    obtain ⟨has, HO, hcs⟩ : ∃ has, Hid (ReplyI n ts ⟨gn, true, gs⟩ ⟨has, rdC A, rdT A⟩ true) ∧ ((has = false ∧ (rdC A == 4) = true ∧ ((rdT A).toList == gn.toList) = true) ∨ (has = true ∧ (rdC A == 4) = true ∧ ((rdT A).toList == gn.toList) = false) ∨ (has = true ∧ (rdC A == 4) = false)) := by
      by_cases q1 : rdC A = 4
      · by_cases q2 : rdT A = gn
        · exact ⟨false, Or.inr ⟨rfl, _, tell_missing rfl HRR.out (by rw [EA.out]; exact ⟨q1, q2⟩), ht, fun _ _ => rfl⟩, Or.inl ⟨rfl, by simp [q1], str_eq q2⟩⟩
        · exact ⟨true, Or.inr ⟨rfl, _, tell_yes rfl HRR.out (by rw [EA.out]; exact fun h => q2 h.2), ht, fun _ _ => by rw [EA.out]⟩, Or.inr (Or.inl ⟨rfl, by simp [q1], str_ne q2⟩)⟩
      · exact ⟨true, Or.inr ⟨rfl, _, tell_yes rfl HRR.out (by rw [EA.out]; exact fun h => q1 h.1), ht, fun _ _ => by rw [EA.out]⟩, Or.inr (Or.inr ⟨rfl, by simp [q1]⟩)⟩
    generalize rdC A = c at *
    generalize rdT A = t at *
    clear hr HRR EA
    rcases hcs with ⟨rfl, d1, d2⟩ | ⟨rfl, d1, d2⟩ | ⟨rfl, d1⟩
    · obtain rfl : c = 4 := by simpa using d1
      clear d1
      have hb3 : Below w2.heap.size w2 (w2.alloc (.cells #[.int .i64 4, .string t, .slice none 0 0] 32)) := (Below.refl _ _).alloc (Nat.le_refl _) _
      obtain ⟨r0, r1, r2, rf⟩ := bk3 hR2
      have s5 := cell_below hb3 z5
      have hB3 := bt hB2 hb3
      clear hb3 z5
      go_wp2_with fail
      exact bodyPost_ret (v := .tuple #[.agg #[.bool false, .int .i64 4, .string t], .bool true]) (by simp [results, Tryz.results114, go_sem, r0, r1, r2, hlw, World.cell?_alloc_lt]) rfl ⟨(by first | exact below_set3 hB3 (by omega) _ _ _ | exact (below_set3 hB2 (by omega) _ _ _).alloc (Below.size (below_set3 hB2 (by omega) _ _ _)) _), ⟨false, 4, t⟩, true, rfl, HO.out⟩
    · obtain rfl : c = 4 := by simpa using d1
      clear d1
      have hb3 : Below w2.heap.size w2 (w2.alloc (.cells #[.int .i64 4, .string t, .slice none 0 0] 32)) := (Below.refl _ _).alloc (Nat.le_refl _) _
      obtain ⟨r0, r1, r2, rf⟩ := bk3 hR2
      have s5 := cell_below hb3 z5
      have hB3 := bt hB2 hb3
      clear hb3 z5
      go_wp2_with fail
      exact bodyPost_ret (v := .tuple #[.agg #[.bool true, .int .i64 4, .string t], .bool true]) (by simp [results, Tryz.results114, go_sem, r0, r1, r2, hlw, World.cell?_alloc_lt]) rfl ⟨(by first | exact below_set3 hB3 (by omega) _ _ _ | exact (below_set3 hB2 (by omega) _ _ _).alloc (Below.size (below_set3 hB2 (by omega) _ _ _)) _), ⟨true, 4, t⟩, true, rfl, HO.out⟩
    · skip
      have hb3 : Below w2.heap.size w2 (w2.alloc (.cells #[.int .i64 c, .string t, .slice none 0 0] 32)) := (Below.refl _ _).alloc (Nat.le_refl _) _
      obtain ⟨r0, r1, r2, rf⟩ := bk3 hR2
      have s5 := cell_below hb3 z5
      have hB3 := bt hB2 hb3
      clear hb3 z5
      go_wp2_with fail
      exact bodyPost_ret (v := .tuple #[.agg #[.bool true, .int .i64 c, .string t], .bool true]) (by simp [results, Tryz.results114, go_sem, r0, r1, r2, hlw, World.cell?_alloc_lt]) rfl ⟨(by first | exact below_set3 hB3 (by omega) _ _ _ | exact (below_set3 hB2 (by omega) _ _ _).alloc (Below.size (below_set3 hB2 (by omega) _ _ _)) _), ⟨true, c, t⟩, true, rfl, HO.out⟩
  · have HO : Hid (ReplyI n ts ⟨gn, true, gs⟩ ⟨false, 0, ⟨#[]⟩⟩ false) := Or.inl ⟨rfl, tell_no rfl (by rw [EA.out]; exact hr)⟩
    have hb3 : Below w2.heap.size w2 (w2.alloc (.cells #[.int .i64 0, .string ⟨#[]⟩, .slice none 0 0] 32)) := (Below.refl _ _).alloc (Nat.le_refl _) _
    obtain ⟨r0, r1, r2, rf⟩ := bk3 hR2
    have hB3 := bt hB2 hb3
    clear hb3 hr
    go_wp2_with fail
    exact bodyPost_ret (v := .tuple #[.agg #[.bool false, .int .i64 0, .string ⟨#[]⟩], .bool false]) (by simp [results, Tryz.results114, go_sem, r0, r1, r2, hlw, World.cell?_alloc_lt]) rfl ⟨(by first | exact below_set3 hB3 (by omega) _ _ _ | exact (below_set3 hB2 (by omega) _ _ _).alloc (Below.size (below_set3 hB2 (by omega) _ _ _)) _), ⟨false, 0, ⟨#[]⟩⟩, false, rfl, HO.out⟩

theorem replyOf_any (n : Nat) (ta ra : Option Addr) (tc rn rc : Nat) (ts : List ByteArray) (g : G3) (w : World) (h1 : 1 ≤ n) (h8 : n ≤ 8) (hc : Strs w ta ts) (hl : ts.length ≤ 1048576) (hs : ∀ i, i < ts.length → (nx ts i).size ≤ 2002) (hasc : Asc (ts.map (sumB n))) :
    Calls Tryz.prog 114 #[.agg #[.int .i64 n, .slice ta ts.length tc, .slice ra rn rc], .agg #[.string g.name, .bool g.ask, .string g.sum]] w fun e w' => Below w.heap.size w w' ∧ ∃ y told, e = .returned (.tuple #[.agg #[.bool y.has, .int .i64 y.code, .string y.text], .bool told]) ∧ ReplyI n ts g y told := by
  obtain ⟨gn, ga, gs⟩ := g
  cases ga
  · exact replyOf_has n ta ra tc rn rc ts gn gs w h1 h8
  · exact replyOf_ask n ta ra tc rn rc ts gn gs w h1 h8 hc hl hs hasc

open Go.RowKit
set_option linter.unusedVariables false

set_option maxRecDepth 100000 in
set_option maxHeartbeats 4000000 in
theorem l4Reply_has (n : Nat) (ta ra : Option Addr) (tc rn rc : Nat) (ts : List ByteArray) (gn gs : ByteArray) (w : World) (h1 : 1 ≤ n) (h8 : n ≤ 8) :
    Calls Tryz.prog 106 #[.agg #[.int .i64 n, .slice ta ts.length tc, .slice ra rn rc], .agg #[.string gn, .bool false, .string gs]] w fun e w' => Below w.heap.size w w' ∧ ∃ y told, e = .returned (.tuple #[.agg #[.bool y.has, .int .i64 y.code, .string y.text], .bool told]) ∧ ReplyS n ts ⟨gn, false, gs⟩ y told := by
  obtain ⟨W, eW⟩ : ∃ W, (((w.alloc (.cells #[.int .i64 n, .slice ta ts.length tc, .slice ra rn rc] 56)).alloc (.cells #[.string gn, .bool false, .string gs] 154)).alloc (.cells #[.bool false, .int .i64 0, .string ⟨#[]⟩] 162)) = W := ⟨_, rfl⟩
  have hb0 : Below w.heap.size w W := by rw [← eW]; exact (((Below.refl _ _).alloc (Nat.le_refl _) _).alloc (by simp) _).alloc (by simp; omega) _
  have x0 : W.cell? ⟨w.heap.size, 0, none⟩ = some (.int .i64 n) := by rw [← eW]; simp [go_sem]
  have x1 : W.cell? ⟨w.heap.size + 1, 1, none⟩ = some (.bool false) := by rw [← eW]; simp [go_sem]
  have x2 : W.cell? ⟨w.heap.size + 1, 2, none⟩ = some (.string gs) := by rw [← eW]; simp [go_sem]
  have HR : Hid (W.heap[w.heap.size + 1 + 1]? = some (.cells #[.bool false, .int .i64 0, .string ⟨#[]⟩] 162 (0, 0))) := by
    show W.heap[w.heap.size + 1 + 1]? = _
    rw [← eW]
    have h := heap_new ((w.alloc (.cells #[.int .i64 n, .slice ta ts.length tc, .slice ra rn rc] 56)).alloc (.cells #[.string gn, .bool false, .string gs] 154)) (.cells #[.bool false, .int .i64 0, .string ⟨#[]⟩] 162)
    rw [show ((w.alloc (.cells #[.int .i64 n, .slice ta ts.length tc, .slice ra rn rc] 56)).alloc (.cells #[.string gn, .bool false, .string gs] 154)).heap.size = w.heap.size + 1 + 1 from by simp] at h
    exact h
  obtain ⟨s1, e1⟩ : ∃ s1, sumB n ⟨#[49]⟩ = s1 := ⟨_, rfl⟩
  obtain ⟨s0, e0⟩ : ∃ s0, sumB n ⟨#[48]⟩ = s0 := ⟨_, rfl⟩
  have HS1 : Hid (∀ V : World, Calls Tryz.prog 101 #[.string ⟨#[49]⟩, .int .i64 n] V fun e w' => e = .returned (.string s1) ∧ Below V.heap.size V w') := fun V => by rw [← e1]; exact specSum_yes ⟨#[49]⟩ n V (by decide) h1 h8
  have HS0 : Hid (∀ V : World, Calls Tryz.prog 101 #[.string ⟨#[48]⟩, .int .i64 n] V fun e w' => e = .returned (.string s0) ∧ Below V.heap.size V w') := fun V => by rw [← e0]; exact specSum_yes ⟨#[48]⟩ n V (by decide) h1 h8
  have E1 : Hid (sumB n ⟨#[49]⟩ = s1) := e1
  have E0 : Hid (sumB n ⟨#[48]⟩ = s0) := e0
  clear e1 e0
  have hbA : Below W.heap.size W W.drew := (Below.refl _ _).drew
  by_cases q1 : gs = s1
  · have HO : Hid (ReplyS n ts ⟨gn, false, gs⟩ ⟨true, 0, ⟨#[]⟩⟩ true) := Or.inr ⟨rfl, tell_has1 rfl (by rw [E1.out]; exact q1)⟩
    have d1 := str_eq q1
    clear q1
    go_enter Tryz.func106, Tryz.ntmps106
    go_wp2_with fail
    clear eW
    go_region_held3 (fun w' => w'.cell? ⟨w.heap.size, 0, none⟩ = some (.int .i64 n) ∧ w'.cell? ⟨w.heap.size + 1, 2, none⟩ = some (.string gs))
      (first | assumption | (simp [*]; done) | exact ⟨cell_below hb2 (by simp [*]), cell_below hb2 (by simp [*])⟩)
      (first | (go_at_call 101; refine (HS1.out _).mono ?_; rintro e w2 ⟨rfl, hb2⟩))
    all_goals
      have hB2 := bt hb0 (bt hbA hb2)
      have hR2 := blk_keep (bt hbA hb2) HR.out
      obtain ⟨z0, z1, z2, zf⟩ := bk3 hR2
      clear x0 x1 x2 hbA hb2
      go_wp2_with fail
      exact bodyPost_ret (v := .tuple #[.agg #[.bool true, .int .i64 0, .string ⟨#[]⟩], .bool true]) (by simp [results, Tryz.results106, go_sem, z0, z1, z2]) rfl ⟨below_set3 hB2 (by omega) _ _ _, ⟨true, 0, ⟨#[]⟩⟩, true, rfl, HO.out⟩
  · have d1 := str_ne q1
    obtain ⟨told, dq, HO⟩ : ∃ told, (gs.toList == s0.toList) = told ∧ Hid (ReplyS n ts ⟨gn, false, gs⟩ ⟨false, 0, ⟨#[]⟩⟩ told) := by
      by_cases q0 : gs = s0
      · exact ⟨true, str_eq q0, Or.inr ⟨rfl, tell_has0 rfl (by rw [E1.out]; exact q1) (by rw [E0.out]; exact q0)⟩⟩
      · exact ⟨false, str_ne q0, Or.inl ⟨rfl, tell_hasN rfl (by rw [E1.out]; exact q1) (by rw [E0.out]; exact q0)⟩⟩
    clear q1
    go_enter Tryz.func106, Tryz.ntmps106
    go_wp2_with fail
    clear eW
    go_region_held3 (fun w' => w'.cell? ⟨w.heap.size, 0, none⟩ = some (.int .i64 n) ∧ w'.cell? ⟨w.heap.size + 1, 2, none⟩ = some (.string gs))
      (first | assumption | (simp [*]; done) | exact ⟨cell_below hb2 (by simp [*]), cell_below hb2 (by simp [*])⟩)
      (first | (go_at_call 101; refine (HS1.out _).mono ?_; rintro e w2 ⟨rfl, hb2⟩))
    all_goals
      have hB2 := bt hb0 (bt hbA hb2)
      have hR2 := blk_keep (bt hbA hb2) HR.out
      have y0 := cell_below (bt hbA hb2) x0
      have y2 := cell_below (bt hbA hb2) x2
      clear x0 x1 x2 hbA hb2
      have hbC : Below w2.heap.size w2 w2.drew := (Below.refl _ _).drew
      have hlw : w.heap.size + 1 + 1 < w2.heap.size := blk_lt hR2
      go_wp2_with fail
      go_region_held3 (fun w' => (w'.cell? ⟨w.heap.size, 0, none⟩ = some (.int .i64 n) ∧ w'.cell? ⟨w.heap.size + 1, 2, none⟩ = some (.string gs)) ∧ w'.heap[w.heap.size + 1 + 1]? = some (.cells #[.bool false, .int .i64 0, .string ⟨#[]⟩] 162 (0, 0)) ∧ w'.cell? ⟨w.heap.size + 1 + 1, 0, none⟩ = some (.bool false) ∧ w'.cell? ⟨w.heap.size + 1 + 1, 1, none⟩ = some (.int .i64 0) ∧ w'.cell? ⟨w.heap.size + 1 + 1, 2, none⟩ = some (.string ⟨#[]⟩) ∧ ∀ j, w'.frozen? ⟨w.heap.size + 1 + 1, j, none⟩ = false)
        (first | exact keepR ⟨y0, y2⟩ hR2 | (go_split_ands; with_reducible (refine keepR ⟨cell_below hb4 ?_, cell_below hb4 ?_⟩ (blk_keep hb4 ?_) <;> assumption)) | (go_split_ands; with_reducible (refine keepR ⟨set3_far (by omega) _ _ _ ?_, set3_far (by omega) _ _ _ ?_⟩ (set3_same ?_) <;> assumption)) | assumption | (simp [*]; done))
        (first | (go_at_call 101; refine (HS0.out _).mono ?_; rintro e w4 ⟨rfl, hb4⟩))
      all_goals
        go_wp2
        rename_i hh
        obtain ⟨_, _, z0, z1, z2, zf⟩ := hh
        first
          | exact bodyPost_ret (v := .tuple #[.agg #[.bool false, .int .i64 0, .string ⟨#[]⟩], .bool told]) (by simp [results, Tryz.results106, go_sem, z0, z1, z2]) rfl ⟨below_set3 (bt hB2 (bt hbC hb4)) (by omega) _ _ _, ⟨false, 0, ⟨#[]⟩⟩, told, rfl, HO.out⟩
          | exact bodyPost_ret (v := .tuple #[.agg #[.bool false, .int .i64 0, .string ⟨#[]⟩], .bool told]) (by simp [results, Tryz.results106, go_sem, z0, z1, z2]) rfl ⟨bt (below_set3 (bt hB2 hbC) (by omega) _ _ _) hb4, ⟨false, 0, ⟨#[]⟩⟩, told, rfl, HO.out⟩

set_option maxRecDepth 100000 in
set_option maxHeartbeats 4000000 in
theorem l4Reply_ask (n : Nat) (ta ra : Option Addr) (tc rn rc : Nat) (ts : List ByteArray) (gn gs : ByteArray) (w : World) (h1 : 1 ≤ n) (h8 : n ≤ 8) (hc : Strs w ta ts) (hl : ts.length ≤ 1048576) (hs : ∀ i, i < ts.length → (nx ts i).size ≤ 2002) (hasc : Asc (ts.map (sumB n))) :
    Calls Tryz.prog 106 #[.agg #[.int .i64 n, .slice ta ts.length tc, .slice ra rn rc], .agg #[.string gn, .bool true, .string gs]] w fun e w' => Below w.heap.size w w' ∧ ∃ y told, e = .returned (.tuple #[.agg #[.bool y.has, .int .i64 y.code, .string y.text], .bool told]) ∧ ReplyS n ts ⟨gn, true, gs⟩ y told := by
  obtain ⟨W, eW⟩ : ∃ W, (((w.alloc (.cells #[.int .i64 n, .slice ta ts.length tc, .slice ra rn rc] 56)).alloc (.cells #[.string gn, .bool true, .string gs] 154)).alloc (.cells #[.bool false, .int .i64 0, .string ⟨#[]⟩] 162)) = W := ⟨_, rfl⟩
  have hb0 : Below w.heap.size w W := by rw [← eW]; exact (((Below.refl _ _).alloc (Nat.le_refl _) _).alloc (by simp) _).alloc (by simp; omega) _
  have x0 : W.cell? ⟨w.heap.size, 0, none⟩ = some (.int .i64 n) := by rw [← eW]; simp [go_sem]
  have x3 : W.cell? ⟨w.heap.size, 1, none⟩ = some (.slice ta ts.length tc) := by rw [← eW]; simp [go_sem]
  have x4 : W.cell? ⟨w.heap.size, 2, none⟩ = some (.slice ra rn rc) := by rw [← eW]; simp [go_sem]
  have x5 : W.cell? ⟨w.heap.size + 1, 0, none⟩ = some (.string gn) := by rw [← eW]; simp [go_sem]
  have x1 : W.cell? ⟨w.heap.size + 1, 1, none⟩ = some (.bool true) := by rw [← eW]; simp [go_sem]
  have x2 : W.cell? ⟨w.heap.size + 1, 2, none⟩ = some (.string gs) := by rw [← eW]; simp [go_sem]
  have HR : Hid (W.heap[w.heap.size + 1 + 1]? = some (.cells #[.bool false, .int .i64 0, .string ⟨#[]⟩] 162 (0, 0))) := by
    show W.heap[w.heap.size + 1 + 1]? = _
    rw [← eW]
    have h := heap_new ((w.alloc (.cells #[.int .i64 n, .slice ta ts.length tc, .slice ra rn rc] 56)).alloc (.cells #[.string gn, .bool true, .string gs] 154)) (.cells #[.bool false, .int .i64 0, .string ⟨#[]⟩] 162)
    rw [show ((w.alloc (.cells #[.int .i64 n, .slice ta ts.length tc, .slice ra rn rc] 56)).alloc (.cells #[.string gn, .bool true, .string gs] 154)).heap.size = w.heap.size + 1 + 1 from by simp] at h
    exact h
  have HC : Hid (Strs w ta ts) := hc
  have HS : Hid (∀ i, i < ts.length → (nx ts i).size ≤ 2002) := hs
  have HA : Hid (Asc (ts.map (sumB n))) := hasc
  clear hc hs hasc
  go_enter Tryz.func106, Tryz.ntmps106
  go_wp2_with fail
  clear eW
  refine (l4Get_any n ta ra tc rn rc ts gs _ h1 h8 (HC.out.below hb0) hl HS.out HA.out).mono ?_
  rintro e w1 ⟨hb1, A, ok, rfl, hg⟩
  obtain ⟨eA, hok⟩ := getA_of HA.out hg
  have HOK : Hid (rrB A → ok = true) := fun hr => hok.2 (Classical.byContradiction fun hn => rr_empty (by rw [eA, getA_none hn] at hr; exact hr))
  have hAs : A.size ≤ 2002 := by rw [eA]; exact getA_size HS.out
  have EA : Hid (getA n ts gs = A) := eA.symm
  have hB1 := bt hb0 hb1
  have hR1 := blk_keep hb1 HR.out
  have y5 := cell_below hb1 x5
  clear hg hok eA x0 x1 x2 x3 x4 x5 hb1 HR
  go_wp2_with fail
  refine (specRead_any A _ hAs).mono ?_
  rintro e w2 ⟨hb2, hrd⟩
  have hB2 := bt hB1 hb2
  have hR2 := blk_keep hb2 hR1
  have z5 := cell_below hb2 y5
  have hlw : w.heap.size + 1 + 1 < w2.heap.size := blk_lt hR2
  clear hB1 hR1 y5 hb2
  rcases hrd with ⟨hr, rfl⟩ | ⟨hr, rfl⟩
  · obtain rfl := HOK.out hr
    obtain ⟨k1, k2⟩ := rr_code hr
    have ht := rr_text hr
    have HRR : Hid (rrB (getA n ts gs)) := by show rrB _; rw [EA.out]; exact hr
    have HM : Hid (rdC A = 4 → rdT A = gn → ReplyS n ts ⟨gn, true, gs⟩ ⟨false, 0, ⟨#[]⟩⟩ true) := fun q1 q2 => Or.inr ⟨rfl, tell_missing rfl HRR.out (by rw [EA.out]; exact ⟨q1, q2⟩)⟩
    have HY : Hid (¬ (rdC A = 4 ∧ rdT A = gn) → ReplyS n ts ⟨gn, true, gs⟩ ⟨true, rdC A, rdT A⟩ true) := fun q => Or.inr ⟨rfl, by rw [tell_yes rfl HRR.out (by rw [EA.out]; exact q), EA.out]⟩
    generalize rdC A = c at *
    generalize rdT A = t at *
    clear hr HRR EA
    by_cases q1 : c = 4
    · by_cases q2 : t = gn
      · have HO : Hid (ReplyS n ts ⟨gn, true, gs⟩ ⟨false, 0, ⟨#[]⟩⟩ true) := HM.out q1 q2
        have d2 := str_eq q2
        subst q1
        clear q2 HM HY
        have hb3 : Below w2.heap.size w2 (w2.alloc (.cells #[.int .i64 4, .string t, .slice none 0 0] 32)) := (Below.refl _ _).alloc (Nat.le_refl _) _
        obtain ⟨r0, r1, r2, rf⟩ := bk3 hR2
        have s5 := cell_below hb3 z5
        have hB3 := bt hB2 hb3
        clear hb3 z5
        go_wp2_with fail
        exact bodyPost_ret (v := .tuple #[.agg #[.bool false, .int .i64 0, .string ⟨#[]⟩], .bool true]) (by simp [results, Tryz.results106, go_sem, r0, r1, r2, hlw, World.cell?_alloc_lt]) rfl ⟨(by first | exact below_set3 hB3 (by omega) _ _ _ | exact (below_set3 hB2 (by omega) _ _ _).alloc (Below.size (below_set3 hB2 (by omega) _ _ _)) _), ⟨false, 0, ⟨#[]⟩⟩, true, rfl, HO.out⟩
      · have HO : Hid (ReplyS n ts ⟨gn, true, gs⟩ ⟨true, c, t⟩ true) := HY.out (fun h => q2 h.2)
        have d2 := str_ne q2
        subst q1
        clear q2 HM HY
        have hb3 : Below w2.heap.size w2 (w2.alloc (.cells #[.int .i64 4, .string t, .slice none 0 0] 32)) := (Below.refl _ _).alloc (Nat.le_refl _) _
        obtain ⟨r0, r1, r2, rf⟩ := bk3 hR2
        have s5 := cell_below hb3 z5
        have hB3 := bt hB2 hb3
        clear hb3 z5
        go_wp2_with fail
        exact bodyPost_ret (v := .tuple #[.agg #[.bool true, .int .i64 4, .string t], .bool true]) (by simp [results, Tryz.results106, go_sem, r0, r1, r2, hlw, World.cell?_alloc_lt]) rfl ⟨(by first | exact below_set3 hB3 (by omega) _ _ _ | exact (below_set3 hB2 (by omega) _ _ _).alloc (Below.size (below_set3 hB2 (by omega) _ _ _)) _), ⟨true, 4, t⟩, true, rfl, HO.out⟩
    · have HO : Hid (ReplyS n ts ⟨gn, true, gs⟩ ⟨true, c, t⟩ true) := HY.out (fun h => q1 h.1)
      have d1 : (c == 4) = false := by simp [q1]
      clear q1 HM HY
      have hb3 : Below w2.heap.size w2 (w2.alloc (.cells #[.int .i64 c, .string t, .slice none 0 0] 32)) := (Below.refl _ _).alloc (Nat.le_refl _) _
      obtain ⟨r0, r1, r2, rf⟩ := bk3 hR2
      have s5 := cell_below hb3 z5
      have hB3 := bt hB2 hb3
      clear hb3 z5
      go_wp2_with fail
      exact bodyPost_ret (v := .tuple #[.agg #[.bool true, .int .i64 c, .string t], .bool true]) (by simp [results, Tryz.results106, go_sem, r0, r1, r2, hlw, World.cell?_alloc_lt]) rfl ⟨(by first | exact below_set3 hB3 (by omega) _ _ _ | exact (below_set3 hB2 (by omega) _ _ _).alloc (Below.size (below_set3 hB2 (by omega) _ _ _)) _), ⟨true, c, t⟩, true, rfl, HO.out⟩
  · have HO : Hid (ReplyS n ts ⟨gn, true, gs⟩ ⟨false, 0, ⟨#[]⟩⟩ false) := Or.inl ⟨rfl, tell_no rfl (by rw [EA.out]; exact hr)⟩
    have hb3 : Below w2.heap.size w2 (w2.alloc (.cells #[.int .i64 0, .string ⟨#[]⟩, .slice none 0 0] 32)) := (Below.refl _ _).alloc (Nat.le_refl _) _
    obtain ⟨r0, r1, r2, rf⟩ := bk3 hR2
    have hB3 := bt hB2 hb3
    clear hb3 hr
    cases ok
    all_goals
      go_wp2_with fail
      exact bodyPost_ret (v := .tuple #[.agg #[.bool false, .int .i64 0, .string ⟨#[]⟩], .bool false]) (by simp [results, Tryz.results106, go_sem, r0, r1, r2, hlw, World.cell?_alloc_lt]) rfl ⟨(by first | exact below_set3 hB3 (by omega) _ _ _ | exact (below_set3 hB2 (by omega) _ _ _).alloc (Below.size (below_set3 hB2 (by omega) _ _ _)) _), ⟨false, 0, ⟨#[]⟩⟩, false, rfl, HO.out⟩

theorem l4Reply_any (n : Nat) (ta ra : Option Addr) (tc rn rc : Nat) (ts : List ByteArray) (g : G3) (w : World) (h1 : 1 ≤ n) (h8 : n ≤ 8) (hc : Strs w ta ts) (hl : ts.length ≤ 1048576) (hs : ∀ i, i < ts.length → (nx ts i).size ≤ 2002) (hasc : Asc (ts.map (sumB n))) :
    Calls Tryz.prog 106 #[.agg #[.int .i64 n, .slice ta ts.length tc, .slice ra rn rc], .agg #[.string g.name, .bool g.ask, .string g.sum]] w fun e w' => Below w.heap.size w w' ∧ ∃ y told, e = .returned (.tuple #[.agg #[.bool y.has, .int .i64 y.code, .string y.text], .bool told]) ∧ ReplyS n ts g y told := by
  obtain ⟨gn, ga, gs⟩ := g
  cases ga
  · exact l4Reply_has n ta ra tc rn rc ts gn gs w h1 h8
  · exact l4Reply_ask n ta ra tc rn rc ts gn gs w h1 h8 hc hl hs hasc

end Go.Proofs.YtmpgajfccaoboaeGreatDoor
