/-
  The walk of impl's machine.look.
-/
import Derived.Test.YtmeojnaoljgieabDoorNKeep
namespace Go.Proofs.YtmeojnaoljgieabDoor
open Go.RowKit
set_option linter.unusedVariables false

theorem Tab.belowB {B : Nat} {w w' : World} (h : Tab w) (hb : Below B w w') (hB : 0 < B) : Tab w' := fun o ho =>
  ⟨(hb.cell (p := ⟨0, _, none⟩) hB).trans (h o ho).1, (hb.cell (p := ⟨0, _, none⟩) hB).trans (h o ho).2.1, (hb.cell (p := ⟨0, _, none⟩) hB).trans (h o ho).2.2⟩

/-- The machine's count of looks is set anew. -/
theorem MOk.looks {B : Nat} {w : World} {m : Nat} {ss : List ByteArray} {cd : Value} {pl st lk : Int} (h : MOk B w m ss cd pl st lk) (p : Int) : MOk B (w.setCell ⟨m, 4, none⟩ (.int .i64 p)) m ss cd pl st p := by
  obtain ⟨hB, v, hm, ho⟩ := h
  refine ⟨hB, v, ?_, ?_⟩
  · unfold Mach at *
    rw [Joins.block_setCell hm]
    rfl
  · have hne := hm.ne' ho
    refine ⟨ho.1, ?_⟩
    rcases ho.2 with h0 | ⟨g, cap, cur, hv, hg, hh, r⟩
    · exact Or.inl h0
    · refine Or.inr ⟨g, cap, cur, hv, hg, ?_, r⟩
      rw [Below.heap_setCell w ⟨m, 4, none⟩ _ g (by rintro e; apply hne; rw [hv]; simp [Value.ownBlock, e])]
      exact hh
theorem MOk.cells {B : Nat} {w : World} {m : Nat} {ss : List ByteArray} {cd : Value} {pl st lk : Int} (h : MOk B w m ss cd pl st lk) : w.cell? ⟨m, 3, none⟩ = some (.int .i64 st) ∧ w.cell? ⟨m, 4, none⟩ = some (.int .i64 lk) ∧ w.frozen? ⟨m, 4, none⟩ = false ∧ m < w.heap.size ∧ B ≤ m := by
  obtain ⟨hB, v, hm, ho⟩ := h
  exact ⟨by rw [Lib.cell_of_heap hm]; rfl, by rw [Lib.cell_of_heap hm]; rfl, Lib.frozen_of_heap hm 4, hm.lt, hB⟩

/-- A store into a Turn's block leaves the machine as it is. -/
theorem MOk.turn {B : Nat} {w : World} {m : Nat} {ss : List ByteArray} {cd : Value} {pl st lk : Int} {b : Nat} (h : MOk B w m ss cd pl st lk ∧ ∃ cs, w.heap[b]? = some (.cells cs 49 (0, 0))) (j : Nat) (x : Value) :
    MOk B (w.setCell ⟨b, j, none⟩ x) m ss cd pl st lk ∧ ∃ cs, (w.setCell ⟨b, j, none⟩ x).heap[b]? = some (.cells cs 49 (0, 0)) := by
  obtain ⟨⟨hB, v, hm, ho⟩, cs, hb⟩ := h
  have hmb : m ≠ b := by
    rintro rfl
    unfold Mach at hm
    rw [hm] at hb
    simp at hb
  refine ⟨⟨hB, v, ?_, ho.1, ?_⟩, _, Joins.block_setCell hb x⟩
  · unfold Mach at *
    rw [Below.heap_setCell w ⟨b, j, none⟩ _ m hmb]
    exact hm
  · rcases ho.2 with h0 | ⟨g, cap, cur, hv, hg, hh, r⟩
    · exact Or.inl h0
    · refine Or.inr ⟨g, cap, cur, hv, hg, ?_, r⟩
      have hgb : g ≠ b := by
        rintro rfl
        rw [hh] at hb
        simp at hb
      rw [Below.heap_setCell w ⟨b, j, none⟩ _ g hgb]
      exact hh

set_option maxRecDepth 100000 in
set_option maxHeartbeats 1000000 in
theorem look_wait (B m : Nat) (r : List ByteArray) (x : ByteArray) (cd : Value) (pl st lk : Int) (ask : Bool) (w : World) (hM : MOk B w m (r ++ [x]) cd pl st lk) (hB : B ≤ w.heap.size) (h2 : r.length < 50) (hx : x.size ≤ 2000) (hn : NameOk x) (hl0 : 0 ≤ lk) (hl1 : lk < 200) :
    Calls Tryd.prog 79 #[.pointer (some ⟨m, 0, none⟩), .bool ask] w fun e w' => e = .returned (turnV false 0 ⟨#[]⟩ ask x st) ∧ KB B m w w' ∧ MOk B w' m r cd pl st (lk + 1) := by
  have hnb := nameB_true hn
  have d1 : (lk == 200) = false := by simp; omega
  go_enter Tryd.func79, Tryd.ntmps79
  go_wp2_with fail
  have hmw := hM.cells.2.2.2.1
  have hba : Below w.heap.size w (w.alloc (.cells #[.bool false, .int .i64 0, .string ⟨#[]⟩, .bool false, .string ⟨#[]⟩, .int .i64 0] 49)) := (Below.refl _ _).alloc (Nat.le_refl _) _
  refine (take_anyK B m r x cd pl st lk _ (hM.below hba) (by simp; omega) h2).mono ?_
  rintro e w1 ⟨rfl, hb1, hM1, hk1⟩
  have hblk : w1.heap[w.heap.size]? = some (.cells #[.bool false, .int .i64 0, .string ⟨#[]⟩, .bool false, .string ⟨#[]⟩, .int .i64 0] 49 (0, 0)) := by
    rw [hk1 _ (by omega), heap_new]
  have k0 := Lib.cell_of_heap hblk 0
  have k1 := Lib.cell_of_heap hblk 1
  have k2 := Lib.cell_of_heap hblk 2
  have k3 := Lib.cell_of_heap hblk 3
  have k4 := Lib.cell_of_heap hblk 4
  have k5 := Lib.cell_of_heap hblk 5
  simp only [List.getElem?_toArray, List.getElem?_cons_zero, List.getElem?_cons_succ] at k0 k1 k2 k3 k4 k5
  have f0 : ∀ j, w1.frozen? ⟨w.heap.size, j, none⟩ = false := fun j => Lib.frozen_of_heap hblk j
  obtain ⟨c3, c4, f4, _, hBm⟩ := hM1.cells
  have hne : m ≠ w.heap.size := by omega
  have hne' : w.heap.size ≠ m := by omega
  have HM : Hid (MOk B (w1.setCell ⟨m, 4, none⟩ (.int .i64 (lk + 1))) m r cd pl st (lk + 1) ∧ ∃ cs, (w1.setCell ⟨m, 4, none⟩ (.int .i64 (lk + 1))).heap[w.heap.size]? = some (.cells cs 49 (0, 0))) := ⟨hM1.looks _, _, by rw [Below.heap_setCell w1 ⟨m, 4, none⟩ _ _ hne']; exact hblk⟩
  have HB : Hid (KB B m w w1) := (KB.old hba hB).trans hb1
  clear hM1 hk1 hblk hM hba hb1 hmw
  go_wp2_with (first | (go_at_call 69; refine (validName_any x _ (by omega)).mono ?_; rintro e w9 ⟨rfl, rfl⟩))
  exact bodyPost_ret (v := turnV false 0 ⟨#[]⟩ ask x st) (by simp [results, Tryd.results79, go_sem, turnV, k0, k1, k2, k3, k4, k5]) rfl ⟨rfl, ((((((HB.out.setM 4 hBm _).setN 0 hB _).setN 1 hB _).setN 2 hB _).setN 3 hB _).setN 4 hB _).setN 5 hB _, (MOk.turn (MOk.turn (MOk.turn (MOk.turn (MOk.turn (MOk.turn HM.out 0 _) 1 _) 2 _) 3 _) 4 _) 5 _).1⟩

theorem P10.belowB {B : Nat} {w w' : World} (h : P10 w) (hb : Below B w w') (hB : 1 < B) : P10 w' := by
  unfold P10 Lib.TabIs World.var? at *
  rw [show Tryd.prog.globalNamed "internal/strconv.uint64pow10" = some 1 from by kernel_rfl] at *
  simp only [Option.bind_some] at *
  rw [hb.block 1 hB]
  exact h

set_option maxRecDepth 100000 in
set_option maxHeartbeats 1000000 in
theorem look_bad (B m : Nat) (r : List ByteArray) (x : ByteArray) (cd : Value) (pl st lk : Int) (ask : Bool) (w : World) (hM : MOk B w m (r ++ [x]) cd pl st lk) (hB : B ≤ w.heap.size) (h2 : r.length < 50) (hx : x.size ≤ 2000) (hP : P10 w) (hB1 : 1 < B) (hp0 : 0 ≤ pl) (hp1 : pl ≤ 2000) (hn : ¬ NameOk x) :
    Calls Tryd.prog 79 #[.pointer (some ⟨m, 0, none⟩), .bool ask] w fun e w' => e = .returned (turnV true 2 ⟨(Lib.decDigits pl.toNat).toArray⟩ false ⟨#[]⟩ st) ∧ KB B m w w' := by
  have hnb := nameB_false hn
  generalize hq : (⟨(Lib.decDigits pl.toNat).toArray⟩ : ByteArray) = q
  go_enter Tryd.func79, Tryd.ntmps79
  go_wp2_with fail
  have hmw := hM.cells.2.2.2.1
  have hba : Below w.heap.size w (w.alloc (.cells #[.bool false, .int .i64 0, .string ⟨#[]⟩, .bool false, .string ⟨#[]⟩, .int .i64 0] 49)) := (Below.refl _ _).alloc (Nat.le_refl _) _
  refine (take_anyK B m r x cd pl st lk _ (hM.below hba) (by simp; omega) h2).mono ?_
  rintro e w1 ⟨rfl, hb1, hM1, hk1⟩
  have hblk : w1.heap[w.heap.size]? = some (.cells #[.bool false, .int .i64 0, .string ⟨#[]⟩, .bool false, .string ⟨#[]⟩, .int .i64 0] 49 (0, 0)) := by
    rw [hk1 _ (by omega), heap_new]
  have HB : Hid (KB B m w w1) := (KB.old hba hB).trans hb1
  have HP : Hid (P10 w1) := hP.belowB HB.out.below hB1
  have hw1 : w.heap.size < w1.heap.size := by
    rcases Nat.lt_or_ge w.heap.size w1.heap.size with h' | h'
    · exact h'
    · rw [Array.getElem?_eq_none h'] at hblk; cases hblk
  obtain ⟨c3, c4, f4, _, hBm⟩ := hM1.cells
  obtain ⟨_, v, hm1, _⟩ := hM1
  clear hk1 hM hba hb1 hmw hP
  go_wp2_with (first | (go_at_call 69; refine (validName_any x _ (by omega)).mono ?_; rintro e w9 ⟨rfl, rfl⟩))
  refine (stuck_any m v cd pl st lk _ hm1 HP.out hp0 hp1).mono ?_
  rintro e w2 ⟨rfl, hb2⟩
  rw [hq]
  have hblk2 : w2.heap[w.heap.size]? = some (.cells #[.bool false, .int .i64 0, .string ⟨#[]⟩, .bool false, .string ⟨#[]⟩, .int .i64 0] 49 (0, 0)) := by
    rw [hb2.block _ hw1]; exact hblk
  have k0 := Lib.cell_of_heap hblk2 0
  have k1 := Lib.cell_of_heap hblk2 1
  have k2 := Lib.cell_of_heap hblk2 2
  have k3 := Lib.cell_of_heap hblk2 3
  have k4 := Lib.cell_of_heap hblk2 4
  have k5 := Lib.cell_of_heap hblk2 5
  simp only [List.getElem?_toArray, List.getElem?_cons_zero, List.getElem?_cons_succ] at k0 k1 k2 k3 k4 k5
  have f0 : ∀ j, w2.frozen? ⟨w.heap.size, j, none⟩ = false := fun j => Lib.frozen_of_heap hblk2 j
  have HB2 : Hid (KB B m w w2) := HB.out.trans (KB.old hb2 (by omega))
  clear hblk hblk2 hb2 hm1 c3 c4 f4
  unfold turnV
  go_wp2
  exact bodyPost_ret (v := turnV true 2 q false ⟨#[]⟩ st) (by simp [results, Tryd.results79, go_sem, turnV, k0, k1, k2, k3, k4, k5]) rfl ⟨rfl, (((((HB2.out.setN 0 hB _).setN 1 hB _).setN 2 hB _).setN 3 hB _).setN 4 hB _).setN 5 hB _⟩

set_option maxRecDepth 100000 in
set_option maxHeartbeats 1000000 in
theorem look_spent (B m : Nat) (r : List ByteArray) (x : ByteArray) (cd : Value) (pl st lk : Int) (ask : Bool) (w : World) (hM : MOk B w m (r ++ [x]) cd pl st lk) (hB : B ≤ w.heap.size) (h2 : r.length < 50) (hx : x.size ≤ 2000) (hP : P10 w) (hB1 : 1 < B) (hp0 : 0 ≤ pl) (hp1 : pl ≤ 2000) (hn : NameOk x) (hl : lk = 200) :
    Calls Tryd.prog 79 #[.pointer (some ⟨m, 0, none⟩), .bool ask] w fun e w' => e = .returned (turnV true 3 ⟨#[]⟩ false ⟨#[]⟩ st) ∧ KB B m w w' := by
  have hnb := nameB_true hn
  subst hl
  go_enter Tryd.func79, Tryd.ntmps79
  go_wp2_with fail
  have hmw := hM.cells.2.2.2.1
  have hba : Below w.heap.size w (w.alloc (.cells #[.bool false, .int .i64 0, .string ⟨#[]⟩, .bool false, .string ⟨#[]⟩, .int .i64 0] 49)) := (Below.refl _ _).alloc (Nat.le_refl _) _
  refine (take_anyK B m r x cd pl st 200 _ (hM.below hba) (by simp; omega) h2).mono ?_
  rintro e w1 ⟨rfl, hb1, hM1, hk1⟩
  have hblk : w1.heap[w.heap.size]? = some (.cells #[.bool false, .int .i64 0, .string ⟨#[]⟩, .bool false, .string ⟨#[]⟩, .int .i64 0] 49 (0, 0)) := by
    rw [hk1 _ (by omega), heap_new]
  have HB : Hid (KB B m w w1) := (KB.old hba hB).trans hb1
  have HP : Hid (P10 w1) := hP.belowB HB.out.below hB1
  have hw1 : w.heap.size < w1.heap.size := by
    rcases Nat.lt_or_ge w.heap.size w1.heap.size with h' | h'
    · exact h'
    · rw [Array.getElem?_eq_none h'] at hblk; cases hblk
  obtain ⟨c3, c4, f4, _, hBm⟩ := hM1.cells
  obtain ⟨_, v, hm1, _⟩ := hM1
  clear hk1 hM hba hb1 hmw hP
  go_wp2_with (first | (go_at_call 69; refine (validName_any x _ (by omega)).mono ?_; rintro e w9 ⟨rfl, rfl⟩))
  refine (over_any m v cd pl st 200 3 ⟨#[]⟩ _ hm1).mono ?_
  rintro e w2 ⟨rfl, hb2⟩
  skip
  have hblk2 : w2.heap[w.heap.size]? = some (.cells #[.bool false, .int .i64 0, .string ⟨#[]⟩, .bool false, .string ⟨#[]⟩, .int .i64 0] 49 (0, 0)) := by
    rw [hb2.block _ hw1]; exact hblk
  have k0 := Lib.cell_of_heap hblk2 0
  have k1 := Lib.cell_of_heap hblk2 1
  have k2 := Lib.cell_of_heap hblk2 2
  have k3 := Lib.cell_of_heap hblk2 3
  have k4 := Lib.cell_of_heap hblk2 4
  have k5 := Lib.cell_of_heap hblk2 5
  simp only [List.getElem?_toArray, List.getElem?_cons_zero, List.getElem?_cons_succ] at k0 k1 k2 k3 k4 k5
  have f0 : ∀ j, w2.frozen? ⟨w.heap.size, j, none⟩ = false := fun j => Lib.frozen_of_heap hblk2 j
  have HB2 : Hid (KB B m w w2) := HB.out.trans (KB.old hb2 (by omega))
  clear hblk hblk2 hb2 hm1 c3 c4 f4
  unfold turnV
  go_wp2
  exact bodyPost_ret (v := turnV true 3 ⟨#[]⟩ false ⟨#[]⟩ st) (by simp [results, Tryd.results79, go_sem, turnV, k0, k1, k2, k3, k4, k5]) rfl ⟨rfl, (((((HB2.out.setN 0 hB _).setN 1 hB _).setN 2 hB _).setN 3 hB _).setN 4 hB _).setN 5 hB _⟩

end Go.Proofs.YtmeojnaoljgieabDoor
