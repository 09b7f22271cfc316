/-
  spec.l2Step: the ways that end at once.
-/
import Derived.Test.YtmeojnaoljgieabDoorNLookF
namespace Go.Proofs.YtmeojnaoljgieabDoor
open Go.RowKit
set_option linter.unusedVariables false

/-- The stack's cells. -/
def StrA (w : World) (a : Option Addr) (ss : List ByteArray) : Prop := ∀ i, i < ss.length → ∃ b off, a = some ⟨b, off, none⟩ ∧ w.cell? ⟨b, off + i, none⟩ = some (.string (ss.getD i ByteArray.empty))
theorem StrA.below {w w' : World} {a : Option Addr} {ss : List ByteArray} (h : StrA w a ss) (hb : Below w.heap.size w w') : StrA w' a ss := by
  intro i hi
  obtain ⟨b, off, ha, hc⟩ := h i hi
  exact ⟨b, off, ha, cell_below hb hc⟩

/-- What l2Step answers. -/
def StepPost (B : Nat) (is : List I3) (ys : List R3) (s : St) (w' : World) (e : Ending) : Prop :=
  (∃ c t n, step0 is s = .over c t n ∧ ∃ (pl : Int) (va : Option Addr) (vn vc : Nat) (lk : Int), e = .returned (overV pl (.slice va vn vc) n lk c t)) ∨
  (∃ s', step0 is s = .go s' ∧ ∃ a' cp', e = .returned (runV s'.pl (.slice a' s'.stack.length cp') s'.steps s'.looks) ∧ Own B w' a' cp' s'.stack) ∨
  (∃ ask nm s', step0 is s = .look ask nm s' ∧ ys.length ≤ s.looks ∧ ∃ (pl : Int) (va : Option Addr) (vn vc : Nat) (lk : Int), e = .returned (waitV pl (.slice va vn vc) s'.steps lk ask nm)) ∨
  (∃ ask nm s' s'', step0 is s = .look ask nm s' ∧ s.looks < ys.length ∧ ansP ask nm (rx ys s.looks) s' = .go s'' ∧ ∃ a' cp', e = .returned (runV s''.pl (.slice a' s''.stack.length cp') s''.steps s''.looks) ∧ Own B w' a' cp' s''.stack) ∨
  (∃ ask nm s' c t n, step0 is s = .look ask nm s' ∧ s.looks < ys.length ∧ ansP ask nm (rx ys s.looks) s' = .over c t n ∧ ∃ (pl : Int) (va : Option Addr) (vn vc : Nat) (lk : Int), e = .returned (overV pl (.slice va vn vc) n lk c t))

set_option maxRecDepth 100000 in
set_option maxHeartbeats 4000000 in
theorem step_beyond (a : Option Addr) (cap : Nat) (is : List I3) (s : St) (sa : Option Addr) (cp : Nat) (ra : Option Addr) (rcap : Nat) (ys : List R3) (w : World) (hv : progOk is = true) (hs : StOk is s) (hpl : ¬ s.pl < is.length) :
    Calls Tryd.prog 48 #[.agg #[.slice a is.length cap], runV s.pl (.slice sa s.stack.length cp) s.steps s.looks, .slice ra ys.length rcap] w fun e w' => Below w.heap.size w w' ∧ StepPost w.heap.size is ys s w' e := by
  have HST : Hid (step0 is s = .over 2 (decB s.pl) s.steps) := st_place hpl
  have hplI : (is.length : Int) ≤ (s.pl : Int) := by omega
  have hlen := prog_len hv
  have hp200 := hs.pl
  have hst := hs.steps
  have hlk := hs.looks
  have hln := hs.len
  have hb0 : Below w.heap.size w (((w.alloc (.cells #[.slice a is.length cap] 29)).alloc (.cells #[.int .i64 s.pl, .slice sa s.stack.length cp, .int .i64 s.steps, .int .i64 s.looks, .bool false, .int .i64 0, .string ⟨#[]⟩, .bool false, .string ⟨#[]⟩, .bool false] 96)).alloc (.cells #[.int .i64 0, .slice none 0 0, .int .i64 0, .int .i64 0, .bool false, .int .i64 0, .string ⟨#[]⟩, .bool false, .string ⟨#[]⟩, .bool false] 96)) := (((Below.refl _ _).alloc (Nat.le_refl _) _).alloc (by simp) _).alloc (by simp; omega) _
  have hR2 : w.heap.size ≤ w.heap.size + 1 + 1 := by omega
  have hR1 : w.heap.size ≤ w.heap.size + 1 := by omega
  obtain ⟨hz, hr, hc⟩ := blk3 w (.cells #[.slice a is.length cap] 29) (.cells #[.int .i64 s.pl, .slice sa s.stack.length cp, .int .i64 s.steps, .int .i64 s.looks, .bool false, .int .i64 0, .string ⟨#[]⟩, .bool false, .string ⟨#[]⟩, .bool false] 96) (.cells #[.int .i64 0, .slice none 0 0, .int .i64 0, .int .i64 0, .bool false, .int .i64 0, .string ⟨#[]⟩, .bool false, .string ⟨#[]⟩, .bool false] 96)
  obtain ⟨q, eq⟩ : ∃ q, decB s.pl = q := ⟨_, rfl⟩
  have EQ : Hid (decB s.pl = q) := eq
  have HD : Hid (∀ W : World, Calls Tryd.prog 58 #[.int .i64 s.pl] W fun e w' => e = .returned (.string q) ∧ Below W.heap.size W w') := fun W => by rw [← eq]; exact l2Dec_any s.pl W (by omega)
  clear eq
  unfold runV
  go_enter Tryd.func48, Tryd.ntmps48
  go_wp2_with fail
  refine (HD.out _).mono ?_
  rintro e w1 ⟨rfl, hb1⟩
  have hB1 : Below w.heap.size w w1 := bN hb0 hb1
  have hz1 : w1.heap[w.heap.size + 1 + 1]? = some (.cells #[.int .i64 0, .slice none 0 0, .int .i64 0, .int .i64 0, .bool false, .int .i64 0, .string ⟨#[]⟩, .bool false, .string ⟨#[]⟩, .bool false] 96 (0, 0)) := by rw [hb1.block _ (blk_lt hz)]; exact hz
  have hr1 : w1.heap[w.heap.size + 1]? = some (.cells #[.int .i64 s.pl, .slice sa s.stack.length cp, .int .i64 s.steps, .int .i64 s.looks, .bool false, .int .i64 0, .string ⟨#[]⟩, .bool false, .string ⟨#[]⟩, .bool false] 96 (0, 0)) := by rw [hb1.block _ (blk_lt hr)]; exact hr
  have hc1 : w1.heap[w.heap.size]? = some (.cells #[.slice a is.length cap] 29 (0, 0)) := by rw [hb1.block _ (blk_lt hc)]; exact hc
  have x0 : w1.cell? ⟨w.heap.size, 0, none⟩ = some (.slice a is.length cap) := by rw [Lib.cell_of_heap hc1]; rfl
  have r0 := Lib.cell_of_heap hr1 0
  have r1 := Lib.cell_of_heap hr1 1
  have r2 := Lib.cell_of_heap hr1 2
  have r3 := Lib.cell_of_heap hr1 3
  have r4 := Lib.cell_of_heap hr1 4
  have r5 := Lib.cell_of_heap hr1 5
  have r6 := Lib.cell_of_heap hr1 6
  have r7 := Lib.cell_of_heap hr1 7
  have r8 := Lib.cell_of_heap hr1 8
  have r9 := Lib.cell_of_heap hr1 9
  simp only [List.getElem?_toArray, List.getElem?_cons_zero, List.getElem?_cons_succ] at r0 r1 r2 r3 r4 r5 r6 r7 r8 r9
  have fr : ∀ j, w1.frozen? ⟨w.heap.size + 1, j, none⟩ = false := fun j => Lib.frozen_of_heap hr1 j
  clear hz hr hc hb0 hb1 HD
  rw [EQ.out] at HST
  go_wp2_with fail
  have hl := l2End_any s.pl sa s.stack.length cp s.steps s.looks 2 q
  unfold runV at hl
  refine (hl _).mono ?_
  rintro e w2 ⟨rfl, hb2⟩
  have hB2 : Below w.heap.size w w2 := bN hB1 hb2
  have hz2 : w2.heap[w.heap.size + 1 + 1]? = some (.cells #[.int .i64 0, .slice none 0 0, .int .i64 0, .int .i64 0, .bool false, .int .i64 0, .string ⟨#[]⟩, .bool false, .string ⟨#[]⟩, .bool false] 96 (0, 0)) := by rw [hb2.block _ (blk_lt hz1)]; exact hz1
  have z0 := Lib.cell_of_heap hz2 0
  have z1 := Lib.cell_of_heap hz2 1
  have z2 := Lib.cell_of_heap hz2 2
  have z3 := Lib.cell_of_heap hz2 3
  have z4 := Lib.cell_of_heap hz2 4
  have z5 := Lib.cell_of_heap hz2 5
  have z6 := Lib.cell_of_heap hz2 6
  have z7 := Lib.cell_of_heap hz2 7
  have z8 := Lib.cell_of_heap hz2 8
  have z9 := Lib.cell_of_heap hz2 9
  simp only [List.getElem?_toArray, List.getElem?_cons_zero, List.getElem?_cons_succ] at z0 z1 z2 z3 z4 z5 z6 z7 z8 z9
  have fz : ∀ j, w2.frozen? ⟨w.heap.size + 1 + 1, j, none⟩ = false := fun j => Lib.frozen_of_heap hz2 j
  clear hz2 hb2 hl
  unfold overV
  go_wp2_with fail
  exact bodyPost_ret (v := overV s.pl (.slice sa s.stack.length cp) s.steps s.looks 2 q) (by simp [results, Tryd.results48, go_sem, overV, z0, z1, z2, z3, z4, z5, z6, z7, z8, z9]) rfl ⟨((((((((((hB2).setCell (p := ⟨w.heap.size + 1 + 1, 0, none⟩) hR2 _).setCell (p := ⟨w.heap.size + 1 + 1, 1, none⟩) hR2 _).setCell (p := ⟨w.heap.size + 1 + 1, 2, none⟩) hR2 _).setCell (p := ⟨w.heap.size + 1 + 1, 3, none⟩) hR2 _).setCell (p := ⟨w.heap.size + 1 + 1, 4, none⟩) hR2 _).setCell (p := ⟨w.heap.size + 1 + 1, 5, none⟩) hR2 _).setCell (p := ⟨w.heap.size + 1 + 1, 6, none⟩) hR2 _).setCell (p := ⟨w.heap.size + 1 + 1, 7, none⟩) hR2 _).setCell (p := ⟨w.heap.size + 1 + 1, 8, none⟩) hR2 _).setCell (p := ⟨w.heap.size + 1 + 1, 9, none⟩) hR2 _, Or.inl ⟨2, q, s.steps, HST.out, _, _, _, _, _, rfl⟩⟩

set_option maxRecDepth 100000 in
set_option maxHeartbeats 4000000 in
theorem step_spent (a : Option Addr) (cap : Nat) (is : List I3) (s : St) (sa : Option Addr) (cp : Nat) (ra : Option Addr) (rcap : Nat) (ys : List R3) (w : World) (hv : progOk is = true) (hs : StOk is s) (hpl : s.pl < is.length) (hst2 : s.steps = 2000) :
    Calls Tryd.prog 48 #[.agg #[.slice a is.length cap], runV s.pl (.slice sa s.stack.length cp) s.steps s.looks, .slice ra ys.length rcap] w fun e w' => Below w.heap.size w w' ∧ StepPost w.heap.size is ys s w' e := by
  have HST : Hid (step0 is s = .over 3 ⟨#[]⟩ s.steps) := st_spent hpl hst2
  have hplI : (s.pl : Int) < (is.length : Int) := by omega
  have hst3 : ((s.steps : Int) == 2000) = true := by simp; omega
  clear hst2
  have hlen := prog_len hv
  have hp200 := hs.pl
  have hst := hs.steps
  have hlk := hs.looks
  have hln := hs.len
  have hb0 : Below w.heap.size w (((w.alloc (.cells #[.slice a is.length cap] 29)).alloc (.cells #[.int .i64 s.pl, .slice sa s.stack.length cp, .int .i64 s.steps, .int .i64 s.looks, .bool false, .int .i64 0, .string ⟨#[]⟩, .bool false, .string ⟨#[]⟩, .bool false] 96)).alloc (.cells #[.int .i64 0, .slice none 0 0, .int .i64 0, .int .i64 0, .bool false, .int .i64 0, .string ⟨#[]⟩, .bool false, .string ⟨#[]⟩, .bool false] 96)) := (((Below.refl _ _).alloc (Nat.le_refl _) _).alloc (by simp) _).alloc (by simp; omega) _
  have hR2 : w.heap.size ≤ w.heap.size + 1 + 1 := by omega
  have hR1 : w.heap.size ≤ w.heap.size + 1 := by omega
  obtain ⟨hz, hr, hc⟩ := blk3 w (.cells #[.slice a is.length cap] 29) (.cells #[.int .i64 s.pl, .slice sa s.stack.length cp, .int .i64 s.steps, .int .i64 s.looks, .bool false, .int .i64 0, .string ⟨#[]⟩, .bool false, .string ⟨#[]⟩, .bool false] 96) (.cells #[.int .i64 0, .slice none 0 0, .int .i64 0, .int .i64 0, .bool false, .int .i64 0, .string ⟨#[]⟩, .bool false, .string ⟨#[]⟩, .bool false] 96)
  obtain ⟨q, eq⟩ : ∃ q, decB s.pl = q := ⟨_, rfl⟩
  have EQ : Hid (decB s.pl = q) := eq
  have HD : Hid (∀ W : World, Calls Tryd.prog 58 #[.int .i64 s.pl] W fun e w' => e = .returned (.string q) ∧ Below W.heap.size W w') := fun W => by rw [← eq]; exact l2Dec_any s.pl W (by omega)
  clear eq
  unfold runV
  go_enter Tryd.func48, Tryd.ntmps48
  go_wp2_with fail
  refine (HD.out _).mono ?_
  rintro e w1 ⟨rfl, hb1⟩
  have hB1 : Below w.heap.size w w1 := bN hb0 hb1
  have hz1 : w1.heap[w.heap.size + 1 + 1]? = some (.cells #[.int .i64 0, .slice none 0 0, .int .i64 0, .int .i64 0, .bool false, .int .i64 0, .string ⟨#[]⟩, .bool false, .string ⟨#[]⟩, .bool false] 96 (0, 0)) := by rw [hb1.block _ (blk_lt hz)]; exact hz
  have hr1 : w1.heap[w.heap.size + 1]? = some (.cells #[.int .i64 s.pl, .slice sa s.stack.length cp, .int .i64 s.steps, .int .i64 s.looks, .bool false, .int .i64 0, .string ⟨#[]⟩, .bool false, .string ⟨#[]⟩, .bool false] 96 (0, 0)) := by rw [hb1.block _ (blk_lt hr)]; exact hr
  have hc1 : w1.heap[w.heap.size]? = some (.cells #[.slice a is.length cap] 29 (0, 0)) := by rw [hb1.block _ (blk_lt hc)]; exact hc
  have x0 : w1.cell? ⟨w.heap.size, 0, none⟩ = some (.slice a is.length cap) := by rw [Lib.cell_of_heap hc1]; rfl
  have r0 := Lib.cell_of_heap hr1 0
  have r1 := Lib.cell_of_heap hr1 1
  have r2 := Lib.cell_of_heap hr1 2
  have r3 := Lib.cell_of_heap hr1 3
  have r4 := Lib.cell_of_heap hr1 4
  have r5 := Lib.cell_of_heap hr1 5
  have r6 := Lib.cell_of_heap hr1 6
  have r7 := Lib.cell_of_heap hr1 7
  have r8 := Lib.cell_of_heap hr1 8
  have r9 := Lib.cell_of_heap hr1 9
  simp only [List.getElem?_toArray, List.getElem?_cons_zero, List.getElem?_cons_succ] at r0 r1 r2 r3 r4 r5 r6 r7 r8 r9
  have fr : ∀ j, w1.frozen? ⟨w.heap.size + 1, j, none⟩ = false := fun j => Lib.frozen_of_heap hr1 j
  clear hz hr hc hb0 hb1 HD
  go_wp2_with fail
  have hl := l2End_any s.pl sa s.stack.length cp s.steps s.looks 3 ⟨#[]⟩
  unfold runV at hl
  refine (hl _).mono ?_
  rintro e w2 ⟨rfl, hb2⟩
  have hB2 : Below w.heap.size w w2 := bN hB1 hb2
  have hz2 : w2.heap[w.heap.size + 1 + 1]? = some (.cells #[.int .i64 0, .slice none 0 0, .int .i64 0, .int .i64 0, .bool false, .int .i64 0, .string ⟨#[]⟩, .bool false, .string ⟨#[]⟩, .bool false] 96 (0, 0)) := by rw [hb2.block _ (blk_lt hz1)]; exact hz1
  have z0 := Lib.cell_of_heap hz2 0
  have z1 := Lib.cell_of_heap hz2 1
  have z2 := Lib.cell_of_heap hz2 2
  have z3 := Lib.cell_of_heap hz2 3
  have z4 := Lib.cell_of_heap hz2 4
  have z5 := Lib.cell_of_heap hz2 5
  have z6 := Lib.cell_of_heap hz2 6
  have z7 := Lib.cell_of_heap hz2 7
  have z8 := Lib.cell_of_heap hz2 8
  have z9 := Lib.cell_of_heap hz2 9
  simp only [List.getElem?_toArray, List.getElem?_cons_zero, List.getElem?_cons_succ] at z0 z1 z2 z3 z4 z5 z6 z7 z8 z9
  have fz : ∀ j, w2.frozen? ⟨w.heap.size + 1 + 1, j, none⟩ = false := fun j => Lib.frozen_of_heap hz2 j
  clear hz2 hb2 hl
  unfold overV
  go_wp2_with fail
  exact bodyPost_ret (v := overV s.pl (.slice sa s.stack.length cp) s.steps s.looks 3 ⟨#[]⟩) (by simp [results, Tryd.results48, go_sem, overV, z0, z1, z2, z3, z4, z5, z6, z7, z8, z9]) rfl ⟨((((((((((hB2).setCell (p := ⟨w.heap.size + 1 + 1, 0, none⟩) hR2 _).setCell (p := ⟨w.heap.size + 1 + 1, 1, none⟩) hR2 _).setCell (p := ⟨w.heap.size + 1 + 1, 2, none⟩) hR2 _).setCell (p := ⟨w.heap.size + 1 + 1, 3, none⟩) hR2 _).setCell (p := ⟨w.heap.size + 1 + 1, 4, none⟩) hR2 _).setCell (p := ⟨w.heap.size + 1 + 1, 5, none⟩) hR2 _).setCell (p := ⟨w.heap.size + 1 + 1, 6, none⟩) hR2 _).setCell (p := ⟨w.heap.size + 1 + 1, 7, none⟩) hR2 _).setCell (p := ⟨w.heap.size + 1 + 1, 8, none⟩) hR2 _).setCell (p := ⟨w.heap.size + 1 + 1, 9, none⟩) hR2 _, Or.inl ⟨3, ⟨#[]⟩, s.steps, HST.out, _, _, _, _, _, rfl⟩⟩

end Go.Proofs.YtmeojnaoljgieabDoor
