/-
  The walk of impl's machine.work, instruction by instruction.
-/
import Derived.Test.YtmeojnaoljgieabDoorNKeep
import Derived.Test.YtmeojnaoljgieabDoorNPiece
namespace Go.Proofs.YtmeojnaoljgieabDoor
open Go.RowKit
set_option linter.unusedVariables false

/-- The machine's place is set anew. -/
theorem MOk.place {B : Nat} {w : World} {m : Nat} {ss : List ByteArray} {cd : Value} {pl st lk : Int} (h : MOk B w m ss cd pl st lk) (p : Int) : MOk B (w.setCell ⟨m, 2, none⟩ (.int .i64 p)) m ss cd p st lk := by
  obtain ⟨hB, v, hm, ho⟩ := h
  refine ⟨hB, v, ?_, ?_⟩
  · unfold Mach at *
    rw [Joins.block_setCell hm]
    rfl
  · have hne := hm.ne' ho
    refine ⟨ho.1, ?_⟩
    rcases ho.2 with h0 | ⟨g, cap, cur, hv, hg, hh, r⟩
    · exact Or.inl h0
    · refine Or.inr ⟨g, cap, cur, hv, hg, ?_, r⟩
      rw [Below.heap_setCell w ⟨m, 2, none⟩ _ g (by rintro e; apply hne; rw [hv]; simp [Value.ownBlock, e])]
      exact hh
theorem MOk.cell2 {B : Nat} {w : World} {m : Nat} {ss : List ByteArray} {cd : Value} {pl st lk : Int} (h : MOk B w m ss cd pl st lk) : w.cell? ⟨m, 2, none⟩ = some (.int .i64 pl) ∧ w.frozen? ⟨m, 2, none⟩ = false ∧ m < w.heap.size ∧ B ≤ m := by
  obtain ⟨hB, v, hm, ho⟩ := h
  exact ⟨by rw [Lib.cell_of_heap hm]; rfl, Lib.frozen_of_heap hm 2, hm.lt, hB⟩

set_option maxRecDepth 100000 in
set_option maxHeartbeats 1000000 in
theorem work_lit_ok (B m : Nat) (ss : List ByteArray) (cd : Value) (pl st lk : Int) (t : ByteArray) (n : Int) (w : World) (hM : MOk B w m ss cd pl st lk) (hB : B ≤ w.heap.size) (h1 : t.size ≤ 2000) (h2 : ss.length < 50) (hp0 : 0 ≤ pl) (hp1 : pl ≤ 2000) :
    Calls Tryd.prog 81 #[.pointer (some ⟨m, 0, none⟩), .agg #[.int .i64 1, .string t, .int .i64 n]] w fun e w' => e = .returned (.bool true) ∧ KB B m w w' ∧ MOk B w' m (ss ++ [t]) cd (pl + 1) st lk := by
  have hba : Below w.heap.size w (w.alloc (.cells #[.int .i64 1, .string t, .int .i64 n] 61)) := (Below.refl _ _).alloc (Nat.le_refl _) _
  have hM1 := hM.below hba
  obtain ⟨c2, f2, hml, hBm⟩ := hM1.cell2
  go_enter Tryd.func81, Tryd.ntmps81
  go_wp2_with fail
  go_region_with (first | (go_at_call 83; refine (put_okK B m ss cd pl st lk t _ ?_ ?_ h1 h2).mono ?_; (focus (exact hM1)); (focus (simp; omega)); rintro e w1 ⟨rfl, hb1, hM2⟩))
  all_goals
    obtain ⟨d2, e2, _, _⟩ := hM2.cell2
    have HM : Hid (MOk B w1 m (ss ++ [t]) cd pl st lk) := hM2
    clear hM2 hM hM1
    go_wp2
    go_ret
    exact ⟨rfl, (((KB.old hba hB).drew).trans hb1).setM 2 hBm _, HM.out.place _⟩

set_option maxRecDepth 100000 in
set_option maxHeartbeats 4000000 in
theorem work_lit_no (B m : Nat) (ss : List ByteArray) (cd : Value) (pl st lk : Int) (t : ByteArray) (n : Nat) (w : World) (hM : MOk B w m (ss) cd pl st lk) (hB : B ≤ w.heap.size) (hp0 : 0 ≤ pl) (hp1 : pl ≤ 2000) (hn : n ≤ 2000) (h1 : t.size ≤ 2000) (h2 : ss.length = 50) :
    Calls Tryd.prog 81 #[.pointer (some ⟨m, 0, none⟩), .agg #[.int .i64 1, .string t, .int .i64 n]] w fun e w' => e = .returned (.bool false) ∧ KB B m w w' ∧ MOk B w' m (ss) cd pl st lk := by
  have hba : Below w.heap.size w (w.alloc (.cells #[.int .i64 1, .string t, .int .i64 n] 61)) := (Below.refl _ _).alloc (Nat.le_refl _) _
  have hmw := hM.cell2.2.2.1
  have hM1 := hM.below hba
  obtain ⟨c2, f2, hml, hBm⟩ := hM1.cell2
  have hs1 : B ≤ (w.alloc (.cells #[.int .i64 1, .string t, .int .i64 n] 61)).heap.size := by simp; omega
  go_enter Tryd.func81, Tryd.ntmps81
  go_wp2_with fail
  go_region_with (first | (go_at_call 83; refine (put_no B m (ss) cd pl st lk (t) _ ?_ ?_ ?_ ?_).mono ?_; (focus (exact hM1)); (focus (first | omega | (simp; omega))); (focus (first | omega | (simp; omega))); (focus (exact Or.inr h2)); rintro e w1 ⟨rfl, rfl⟩))
  all_goals
    go_wp2
    go_ret
    exact ⟨rfl, (KB.old hba hB).drew, hM1⟩

set_option maxRecDepth 100000 in
set_option maxHeartbeats 4000000 in
theorem work_jump (B m : Nat) (ss : List ByteArray) (cd : Value) (pl st lk : Int) (t : ByteArray) (n : Nat) (w : World) (hM : MOk B w m (ss) cd pl st lk) (hB : B ≤ w.heap.size) (hp0 : 0 ≤ pl) (hp1 : pl ≤ 2000) (hn : n ≤ 2000)  :
    Calls Tryd.prog 81 #[.pointer (some ⟨m, 0, none⟩), .agg #[.int .i64 10, .string t, .int .i64 n]] w fun e w' => e = .returned (.bool true) ∧ KB B m w w' ∧ MOk B w' m (ss) cd n st lk := by
  have hba : Below w.heap.size w (w.alloc (.cells #[.int .i64 10, .string t, .int .i64 n] 61)) := (Below.refl _ _).alloc (Nat.le_refl _) _
  have hM1 := hM.below hba
  obtain ⟨c2, f2, hml, hBm⟩ := hM1.cell2
  have hs1 : B ≤ (w.alloc (.cells #[.int .i64 10, .string t, .int .i64 n] 61)).heap.size := by simp; omega
  go_enter Tryd.func81, Tryd.ntmps81
  go_wp2
  go_ret
  exact ⟨rfl, (KB.old hba hB).setM 2 hBm _, hM1.place _⟩

end Go.Proofs.YtmeojnaoljgieabDoor
