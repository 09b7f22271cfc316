/-
  The walk of impl's machine.work, instruction by instruction.
-/
import Derived.Test.YtmpgajfccaoboaeGreatDoorNKeep
import Derived.Test.YtmpgajfccaoboaeGreatDoorNPiece
import Derived.Deep.RegionHeld3
import Derived.Test.YtmpgajfccaoboaeGreatDoorNPlain
namespace Go.Proofs.YtmpgajfccaoboaeGreatDoor
open Go.RowKit
set_option linter.unusedVariables false

/-- The machine's place is set anew. -/
theorem MOk.place {B : Nat} {w : World} {m : Nat} {ss : List ByteArray} {cd : Value} {pl st lk : Int} (h : MOk B w m ss cd pl st lk) (p : Int) : MOk B (w.setCell ⟨m, 2, none⟩ (.int .i64 p)) m ss cd p st lk := by
  obtain ⟨hB, v, hm, ho⟩ := h
  refine ⟨hB, v, ?_, ?_⟩
  · unfold Mach at *
    rw [Joins.block_setCell hm]
    rfl
  · have hne := hm.ne' ho
    refine ⟨ho.1, ?_⟩
    rcases ho.2 with h0 | ⟨g, cap, cur, hv, hg, hh, r⟩
    · exact Or.inl h0
    · refine Or.inr ⟨g, cap, cur, hv, hg, ?_, r⟩
      rw [Below.heap_setCell w ⟨m, 2, none⟩ _ g (by rintro e; apply hne; rw [hv]; simp [Value.ownBlock, e])]
      exact hh
theorem MOk.cell2 {B : Nat} {w : World} {m : Nat} {ss : List ByteArray} {cd : Value} {pl st lk : Int} (h : MOk B w m ss cd pl st lk) : w.cell? ⟨m, 2, none⟩ = some (.int .i64 pl) ∧ w.frozen? ⟨m, 2, none⟩ = false ∧ m < w.heap.size ∧ B ≤ m := by
  obtain ⟨hB, v, hm, ho⟩ := h
  exact ⟨by rw [Lib.cell_of_heap hm]; rfl, Lib.frozen_of_heap hm 2, hm.lt, hB⟩

set_option maxRecDepth 100000 in
set_option maxHeartbeats 1000000 in
theorem work_lit_ok (B m : Nat) (ss : List ByteArray) (cd : Value) (pl st lk : Int) (t : ByteArray) (n : Int) (w : World) (hM : MOk B w m ss cd pl st lk) (hB : B ≤ w.heap.size) (h1 : t.size ≤ 2000) (h2 : ss.length < 50) (hp0 : 0 ≤ pl) (hp1 : pl ≤ 2000) :
    Calls Tryz.prog 193 #[.pointer (some ⟨m, 0, none⟩), .agg #[.int .i64 1, .string t, .int .i64 n]] w fun e w' => e = .returned (.bool true) ∧ KB B m w w' ∧ MOk B w' m (ss ++ [t]) cd (pl + 1) st lk := by
  have hba : Below w.heap.size w (w.alloc (.cells #[.int .i64 1, .string t, .int .i64 n] 190)) := (Below.refl _ _).alloc (Nat.le_refl _) _
  have hM1 := hM.below hba
  obtain ⟨c2, f2, hml, hBm⟩ := hM1.cell2
  go_enter Tryz.func193, Tryz.ntmps193
  go_wp2_with fail
  go_region_with (first | (go_at_call 194; refine (put_okK B m ss cd pl st lk t _ ?_ ?_ h1 h2).mono ?_; (focus (exact hM1)); (focus (simp; omega)); rintro e w1 ⟨rfl, hb1, hM2⟩))
  all_goals
    obtain ⟨d2, e2, _, _⟩ := hM2.cell2
    have HM : Hid (MOk B w1 m (ss ++ [t]) cd pl st lk) := hM2
    clear hM2 hM hM1
    go_wp2
    go_ret
    exact ⟨rfl, (((KB.old hba hB).drew).trans hb1).setM 2 hBm _, HM.out.place _⟩

set_option maxRecDepth 100000 in
set_option maxHeartbeats 4000000 in
theorem work_lit_no (B m : Nat) (ss : List ByteArray) (cd : Value) (pl st lk : Int) (t : ByteArray) (n : Nat) (w : World) (hM : MOk B w m (ss) cd pl st lk) (hB : B ≤ w.heap.size) (hp0 : 0 ≤ pl) (hp1 : pl ≤ 2000) (hn : n ≤ 2000) (h1 : t.size ≤ 2000) (h2 : ss.length = 50) :
    Calls Tryz.prog 193 #[.pointer (some ⟨m, 0, none⟩), .agg #[.int .i64 1, .string t, .int .i64 n]] w fun e w' => e = .returned (.bool false) ∧ KB B m w w' ∧ MOk B w' m (ss) cd pl st lk := by
  have hba : Below w.heap.size w (w.alloc (.cells #[.int .i64 1, .string t, .int .i64 n] 190)) := (Below.refl _ _).alloc (Nat.le_refl _) _
  have hmw := hM.cell2.2.2.1
  have hM1 := hM.below hba
  obtain ⟨c2, f2, hml, hBm⟩ := hM1.cell2
  have hs1 : B ≤ (w.alloc (.cells #[.int .i64 1, .string t, .int .i64 n] 190)).heap.size := by simp; omega
  go_enter Tryz.func193, Tryz.ntmps193
  go_wp2_with fail
  go_region_with (first | (go_at_call 194; refine (put_no B m (ss) cd pl st lk (t) _ ?_ ?_ ?_ ?_).mono ?_; (focus (exact hM1)); (focus (first | omega | (simp; omega))); (focus (first | omega | (simp; omega))); (focus (exact Or.inr h2)); rintro e w1 ⟨rfl, rfl⟩))
  all_goals
    go_wp2
    go_ret
    exact ⟨rfl, (KB.old hba hB).drew, hM1⟩

set_option maxRecDepth 100000 in
set_option maxHeartbeats 4000000 in
theorem work_jump (B m : Nat) (ss : List ByteArray) (cd : Value) (pl st lk : Int) (t : ByteArray) (n : Nat) (w : World) (hM : MOk B w m (ss) cd pl st lk) (hB : B ≤ w.heap.size) (hp0 : 0 ≤ pl) (hp1 : pl ≤ 2000) (hn : n ≤ 2000)  :
    Calls Tryz.prog 193 #[.pointer (some ⟨m, 0, none⟩), .agg #[.int .i64 10, .string t, .int .i64 n]] w fun e w' => e = .returned (.bool true) ∧ KB B m w w' ∧ MOk B w' m (ss) cd n st lk := by
  have hba : Below w.heap.size w (w.alloc (.cells #[.int .i64 10, .string t, .int .i64 n] 190)) := (Below.refl _ _).alloc (Nat.le_refl _) _
  have hM1 := hM.below hba
  obtain ⟨c2, f2, hml, hBm⟩ := hM1.cell2
  have hs1 : B ≤ (w.alloc (.cells #[.int .i64 10, .string t, .int .i64 n] 190)).heap.size := by simp; omega
  go_enter Tryz.func193, Tryz.ntmps193
  go_wp2
  go_ret
  exact ⟨rfl, (KB.old hba hB).setM 2 hBm _, hM1.place _⟩

open Go.RowKit
set_option linter.unusedVariables false

set_option maxRecDepth 100000 in
set_option maxHeartbeats 4000000 in
theorem work_drop (B m : Nat) (r : List ByteArray) (x : ByteArray) (cd : Value) (pl st lk : Int) (t : ByteArray) (n : Nat) (w : World) (hM : MOk B w m (r ++ [x]) cd pl st lk) (hB : B ≤ w.heap.size) (hp0 : 0 ≤ pl) (hp1 : pl ≤ 2000) (hn : n ≤ 2000) (h2 : r.length < 50) :
    Calls Tryz.prog 193 #[.pointer (some ⟨m, 0, none⟩), .agg #[.int .i64 9, .string t, .int .i64 n]] w fun e w' => e = .returned (.bool true) ∧ KB B m w w' ∧ MOk B w' m (r) cd (pl + 1) st lk := by
  have hba : Below w.heap.size w (w.alloc (.cells #[.int .i64 9, .string t, .int .i64 n] 190)) := (Below.refl _ _).alloc (Nat.le_refl _) _
  have hmw := hM.cell2.2.2.1
  have hM1 := hM.below hba
  obtain ⟨c2, f2, hml, hBm⟩ := hM1.cell2
  have hs1 : B ≤ (w.alloc (.cells #[.int .i64 9, .string t, .int .i64 n] 190)).heap.size := by simp; omega
  go_enter Tryz.func193, Tryz.ntmps193
  go_wp2_with (first | (go_at_call 192; refine (take_anyK B m (r) x cd pl st lk _ ?_ ?_ ?_).mono ?_; (focus (exact hM1)); (focus (exact hs1)); (focus (first | omega | (simp; omega))); rintro e w1 ⟨rfl, hb1, hM2, hk1⟩; have hs2 : B ≤ w1.heap.size := (Nat.le_trans hs1 hb1.size); obtain ⟨dd1, ee1, _, _⟩ := hM2.cell2; clear hk1))
  go_ret
  exact ⟨rfl, ((KB.old hba hB).trans hb1).setM 2 hBm _, hM2.place _⟩

set_option maxRecDepth 100000 in
set_option maxHeartbeats 4000000 in
theorem work_unless_0 (B m : Nat) (r : List ByteArray) (x : ByteArray) (cd : Value) (pl st lk : Int) (t : ByteArray) (n : Nat) (w : World) (hM : MOk B w m (r ++ [x]) cd pl st lk) (hB : B ≤ w.heap.size) (hp0 : 0 ≤ pl) (hp1 : pl ≤ 2000) (hn : n ≤ 2000) (h2 : r.length < 50) (hx : x.toList.isEmpty = true) :
    Calls Tryz.prog 193 #[.pointer (some ⟨m, 0, none⟩), .agg #[.int .i64 11, .string t, .int .i64 n]] w fun e w' => e = .returned (.bool true) ∧ KB B m w w' ∧ MOk B w' m (r) cd n st lk := by
  have hba : Below w.heap.size w (w.alloc (.cells #[.int .i64 11, .string t, .int .i64 n] 190)) := (Below.refl _ _).alloc (Nat.le_refl _) _
  have hmw := hM.cell2.2.2.1
  have hM1 := hM.below hba
  obtain ⟨c2, f2, hml, hBm⟩ := hM1.cell2
  have hs1 : B ≤ (w.alloc (.cells #[.int .i64 11, .string t, .int .i64 n] 190)).heap.size := by simp; omega
  go_enter Tryz.func193, Tryz.ntmps193
  go_wp2_with (first | (go_at_call 192; refine (take_anyK B m (r) x cd pl st lk _ ?_ ?_ ?_).mono ?_; (focus (exact hM1)); (focus (exact hs1)); (focus (first | omega | (simp; omega))); rintro e w1 ⟨rfl, hb1, hM2, hk1⟩; have hs2 : B ≤ w1.heap.size := (Nat.le_trans hs1 hb1.size); obtain ⟨dd1, ee1, _, _⟩ := hM2.cell2; have cn : w1.cell? ⟨w.heap.size, 2, none⟩ = some (.int .i64 (n : Int)) := (by rw [World.cell?_of_block (hk1 w.heap.size (by omega))]; simp [go_sem]); clear hk1))
  go_ret
  exact ⟨rfl, ((KB.old hba hB).trans hb1).setM 2 hBm _, hM2.place _⟩

set_option maxRecDepth 100000 in
set_option maxHeartbeats 4000000 in
theorem work_unless_1 (B m : Nat) (r : List ByteArray) (x : ByteArray) (cd : Value) (pl st lk : Int) (t : ByteArray) (n : Nat) (w : World) (hM : MOk B w m (r ++ [x]) cd pl st lk) (hB : B ≤ w.heap.size) (hp0 : 0 ≤ pl) (hp1 : pl ≤ 2000) (hn : n ≤ 2000) (h2 : r.length < 50) (hx : x.toList.isEmpty = false) (hx2 : (x.toList == [48]) = true) :
    Calls Tryz.prog 193 #[.pointer (some ⟨m, 0, none⟩), .agg #[.int .i64 11, .string t, .int .i64 n]] w fun e w' => e = .returned (.bool true) ∧ KB B m w w' ∧ MOk B w' m (r) cd n st lk := by
  have hba : Below w.heap.size w (w.alloc (.cells #[.int .i64 11, .string t, .int .i64 n] 190)) := (Below.refl _ _).alloc (Nat.le_refl _) _
  have hmw := hM.cell2.2.2.1
  have hM1 := hM.below hba
  obtain ⟨c2, f2, hml, hBm⟩ := hM1.cell2
  have hs1 : B ≤ (w.alloc (.cells #[.int .i64 11, .string t, .int .i64 n] 190)).heap.size := by simp; omega
  go_enter Tryz.func193, Tryz.ntmps193
  go_wp2_with (first | (go_at_call 192; refine (take_anyK B m (r) x cd pl st lk _ ?_ ?_ ?_).mono ?_; (focus (exact hM1)); (focus (exact hs1)); (focus (first | omega | (simp; omega))); rintro e w1 ⟨rfl, hb1, hM2, hk1⟩; have hs2 : B ≤ w1.heap.size := (Nat.le_trans hs1 hb1.size); obtain ⟨dd1, ee1, _, _⟩ := hM2.cell2; have cn : w1.cell? ⟨w.heap.size, 2, none⟩ = some (.int .i64 (n : Int)) := (by rw [World.cell?_of_block (hk1 w.heap.size (by omega))]; simp [go_sem]); clear hk1))
  go_ret
  exact ⟨rfl, ((KB.old hba hB).trans hb1).setM 2 hBm _, hM2.place _⟩

set_option maxRecDepth 100000 in
set_option maxHeartbeats 4000000 in
theorem work_unless_2 (B m : Nat) (r : List ByteArray) (x : ByteArray) (cd : Value) (pl st lk : Int) (t : ByteArray) (n : Nat) (w : World) (hM : MOk B w m (r ++ [x]) cd pl st lk) (hB : B ≤ w.heap.size) (hp0 : 0 ≤ pl) (hp1 : pl ≤ 2000) (hn : n ≤ 2000) (h2 : r.length < 50) (hx : x.toList.isEmpty = false) (hx2 : (x.toList == [48]) = false) :
    Calls Tryz.prog 193 #[.pointer (some ⟨m, 0, none⟩), .agg #[.int .i64 11, .string t, .int .i64 n]] w fun e w' => e = .returned (.bool true) ∧ KB B m w w' ∧ MOk B w' m (r) cd (pl + 1) st lk := by
  have hba : Below w.heap.size w (w.alloc (.cells #[.int .i64 11, .string t, .int .i64 n] 190)) := (Below.refl _ _).alloc (Nat.le_refl _) _
  have hmw := hM.cell2.2.2.1
  have hM1 := hM.below hba
  obtain ⟨c2, f2, hml, hBm⟩ := hM1.cell2
  have hs1 : B ≤ (w.alloc (.cells #[.int .i64 11, .string t, .int .i64 n] 190)).heap.size := by simp; omega
  go_enter Tryz.func193, Tryz.ntmps193
  go_wp2_with (first | (go_at_call 192; refine (take_anyK B m (r) x cd pl st lk _ ?_ ?_ ?_).mono ?_; (focus (exact hM1)); (focus (exact hs1)); (focus (first | omega | (simp; omega))); rintro e w1 ⟨rfl, hb1, hM2, hk1⟩; have hs2 : B ≤ w1.heap.size := (Nat.le_trans hs1 hb1.size); obtain ⟨dd1, ee1, _, _⟩ := hM2.cell2; have cn : w1.cell? ⟨w.heap.size, 2, none⟩ = some (.int .i64 (n : Int)) := (by rw [World.cell?_of_block (hk1 w.heap.size (by omega))]; simp [go_sem]); clear hk1))
  go_ret
  exact ⟨rfl, ((KB.old hba hB).trans hb1).setM 2 hBm _, hM2.place _⟩

open Go.RowKit
set_option linter.unusedVariables false

set_option maxRecDepth 100000 in
set_option maxHeartbeats 4000000 in
theorem work_cat_ok (B m : Nat) (r : List ByteArray) (x y : ByteArray) (cd : Value) (pl st lk : Int) (t : ByteArray) (n : Nat) (w : World) (hM : MOk B w m (r ++ [x] ++ [y]) cd pl st lk) (hB : B ≤ w.heap.size) (hp0 : 0 ≤ pl) (hp1 : pl ≤ 2000) (hn : n ≤ 2000) (h2 : r.length + 2 ≤ 50) (hx : x.size ≤ 2000) (hy : y.size ≤ 2000) (hxy : (x ++ y).size ≤ 2000) :
    Calls Tryz.prog 193 #[.pointer (some ⟨m, 0, none⟩), .agg #[.int .i64 2, .string t, .int .i64 n]] w fun e w' => e = .returned (.bool true) ∧ KB B m w w' ∧ MOk B w' m (r ++ [x ++ y]) cd (pl + 1) st lk := by
  have hba : Below w.heap.size w (w.alloc (.cells #[.int .i64 2, .string t, .int .i64 n] 190)) := (Below.refl _ _).alloc (Nat.le_refl _) _
  have hmw := hM.cell2.2.2.1
  have hM1 := hM.below hba
  obtain ⟨c2, f2, hml, hBm⟩ := hM1.cell2
  have hs1 : B ≤ (w.alloc (.cells #[.int .i64 2, .string t, .int .i64 n] 190)).heap.size := by simp; omega
  go_enter Tryz.func193, Tryz.ntmps193
  go_wp2_with fail
  go_region_with (first | (go_at_call 192; refine (take_anyK B m (r) x cd pl st lk _ ?_ ?_ ?_).mono ?_; (focus (exact hM2)); (focus (exact hs2)); (focus (first | omega | (simp; omega))); rintro e w2 ⟨rfl, hb2, hM3, hk2⟩; have hs3 : B ≤ w2.heap.size := (Nat.le_trans hs2 hb2.size); obtain ⟨dd2, ee2, _, _⟩ := hM3.cell2; clear hk2) | (go_at_call 192; refine (take_anyK B m (r ++ [x]) y cd pl st lk _ ?_ ?_ ?_).mono ?_; (focus (exact hM1)); (focus (exact hs1)); (focus (first | omega | (simp; omega))); rintro e w1 ⟨rfl, hb1, hM2, hk1⟩; have hs2 : B ≤ w1.heap.size := (Nat.le_trans hs1 hb1.size); obtain ⟨dd1, ee1, _, _⟩ := hM2.cell2; clear hk1))
  all_goals
    go_wp2_with (first | (go_at_call 194; refine (put_okK B m (r) cd pl st lk (x ++ y) _ ?_ ?_ hxy ?_).mono ?_; (focus (exact hM3)); (focus (exact hs3)); (focus (first | omega | (simp; omega))); rintro e w3 ⟨rfl, hb3, hM4⟩; have hs4 : B ≤ w3.heap.size := (Nat.le_trans hs3 hb3.size); obtain ⟨dd3, ee3, _, _⟩ := hM4.cell2))
    go_ret
    exact ⟨rfl, (((KB.old hba hB).drew.trans hb1).trans (hb2.trans hb3)).setM 2 hBm _, hM4.place _⟩

set_option maxRecDepth 100000 in
set_option maxHeartbeats 4000000 in
theorem work_cat_no (B m : Nat) (r : List ByteArray) (x y : ByteArray) (cd : Value) (pl st lk : Int) (t : ByteArray) (n : Nat) (w : World) (hM : MOk B w m (r ++ [x] ++ [y]) cd pl st lk) (hB : B ≤ w.heap.size) (hp0 : 0 ≤ pl) (hp1 : pl ≤ 2000) (hn : n ≤ 2000) (h2 : r.length + 2 ≤ 50) (hx : x.size ≤ 2000) (hy : y.size ≤ 2000) (hxy : 2000 < (x ++ y).size) (hxy2 : (x ++ y).size ≤ 4000) :
    Calls Tryz.prog 193 #[.pointer (some ⟨m, 0, none⟩), .agg #[.int .i64 2, .string t, .int .i64 n]] w fun e w' => e = .returned (.bool false) ∧ KB B m w w' ∧ MOk B w' m (r) cd pl st lk := by
  have hba : Below w.heap.size w (w.alloc (.cells #[.int .i64 2, .string t, .int .i64 n] 190)) := (Below.refl _ _).alloc (Nat.le_refl _) _
  have hmw := hM.cell2.2.2.1
  have hM1 := hM.below hba
  obtain ⟨c2, f2, hml, hBm⟩ := hM1.cell2
  have hs1 : B ≤ (w.alloc (.cells #[.int .i64 2, .string t, .int .i64 n] 190)).heap.size := by simp; omega
  go_enter Tryz.func193, Tryz.ntmps193
  go_wp2_with fail
  go_region_with (first | (go_at_call 192; refine (take_anyK B m (r) x cd pl st lk _ ?_ ?_ ?_).mono ?_; (focus (exact hM2)); (focus (exact hs2)); (focus (first | omega | (simp; omega))); rintro e w2 ⟨rfl, hb2, hM3, hk2⟩; have hs3 : B ≤ w2.heap.size := (Nat.le_trans hs2 hb2.size); obtain ⟨dd2, ee2, _, _⟩ := hM3.cell2; clear hk2) | (go_at_call 192; refine (take_anyK B m (r ++ [x]) y cd pl st lk _ ?_ ?_ ?_).mono ?_; (focus (exact hM1)); (focus (exact hs1)); (focus (first | omega | (simp; omega))); rintro e w1 ⟨rfl, hb1, hM2, hk1⟩; have hs2 : B ≤ w1.heap.size := (Nat.le_trans hs1 hb1.size); obtain ⟨dd1, ee1, _, _⟩ := hM2.cell2; clear hk1))
  all_goals
    go_wp2_with (first | (go_at_call 194; refine (put_no B m (r) cd pl st lk (x ++ y) _ ?_ ?_ ?_ ?_).mono ?_; (focus (exact hM3)); (focus (first | omega | (simp; omega))); (focus (first | omega | (simp; omega))); (focus (exact Or.inl hxy)); rintro e w3 ⟨rfl, rfl⟩))
    go_ret
    exact ⟨rfl, ((KB.old hba hB).drew.trans hb1).trans hb2, hM3⟩

open Go.RowKit
set_option linter.unusedVariables false

theorem put_keep (b : Nat) (cs : Array Value) (B m : Nat) (ss : List ByteArray) (cd : Value) (pl st lk : Int) (t : ByteArray) (w : World) (hM : MOk B w m ss cd pl st lk) (hB : B ≤ w.heap.size) (h1 : t.size ≤ 2000) (h2 : ss.length < 50) (hbk : w.heap[b]? = some (.cells cs 190 (0, 0))) (hbm : b ≠ m) :
    Calls Tryz.prog 194 #[.pointer (some ⟨m, 0, none⟩), .string t] w fun e w' => e = .returned (.bool true) ∧ KB B m w w' ∧ MOk B w' m (ss ++ [t]) cd pl st lk ∧ w'.heap[b]? = some (.cells cs 190 (0, 0)) :=
  (put_okK B m ss cd pl st lk t w hM hB h1 h2).mono fun e w' ⟨k1, k2, k3⟩ => ⟨k1, k2, k3, k2.keep b cs 190 (by decide) hbm hbk⟩

set_option maxRecDepth 100000 in
set_option maxHeartbeats 4000000 in
theorem work_cut (B m : Nat) (r : List ByteArray) (x : ByteArray) (cd : Value) (pl st lk : Int) (t : ByteArray) (n : Nat) (w : World) (hM : MOk B w m (r ++ [x]) cd pl st lk) (hB : B ≤ w.heap.size) (hp0 : 0 ≤ pl) (hp1 : pl ≤ 2000) (hn : n ≤ 2000) (h2 : r.length + 1 ≤ 50) (hx : x.size ≤ 2000) (z : Nat) (hmin : min (n : Int) (x.size : Int) = (z : Int)) (hpc : (x.extract 0 z).size ≤ 2000) :
    Calls Tryz.prog 193 #[.pointer (some ⟨m, 0, none⟩), .agg #[.int .i64 3, .string t, .int .i64 n]] w fun e w' => e = .returned (.bool true) ∧ KB B m w w' ∧ MOk B w' m (r ++ [x.extract 0 z]) cd (pl + 1) st lk := by
  have hba : Below w.heap.size w (w.alloc (.cells #[.int .i64 3, .string t, .int .i64 n] 190)) := (Below.refl _ _).alloc (Nat.le_refl _) _
  have hmw := hM.cell2.2.2.1
  have hM1 := hM.below hba
  obtain ⟨c2, f2, hml, hBm⟩ := hM1.cell2
  have hs1 : B ≤ (w.alloc (.cells #[.int .i64 3, .string t, .int .i64 n] 190)).heap.size := by simp; omega
  have HP : Hid (∀ W : World, MOk B W m r cd pl st lk → B ≤ W.heap.size → W.heap[w.heap.size]? = some (.cells #[.int .i64 3, .string t, .int .i64 n] 190 (0, 0)) → Calls Tryz.prog 194 #[.pointer (some ⟨m, 0, none⟩), .string (x.extract 0 z)] W fun e w' => e = .returned (.bool true) ∧ KB B m W w' ∧ MOk B w' m (r ++ [x.extract 0 z]) cd pl st lk ∧ w'.heap[w.heap.size]? = some (.cells #[.int .i64 3, .string t, .int .i64 n] 190 (0, 0))) := fun W h1 h2 h3 => put_keep w.heap.size _ B m r cd pl st lk (x.extract 0 z) W h1 h2 hpc (by omega) h3 (by omega)
  have HT : Hid (Calls Tryz.prog 192 #[.pointer (some ⟨m, 0, none⟩)] (w.alloc (.cells #[.int .i64 3, .string t, .int .i64 n] 190)) fun e w' => e = .returned (.string x) ∧ KB B m (w.alloc (.cells #[.int .i64 3, .string t, .int .i64 n] 190)) w' ∧ MOk B w' m r cd pl st lk ∧ ∀ b, b ≠ m → w'.heap[b]? = (w.alloc (.cells #[.int .i64 3, .string t, .int .i64 n] 190)).heap[b]?) := take_anyK B m r x cd pl st lk _ hM1 hs1 (by omega)
  have HBA : Hid (Below w.heap.size w (w.alloc (.cells #[.int .i64 3, .string t, .int .i64 n] 190))) := hba
  clear hM hM1 hba hpc
  go_enter Tryz.func193, Tryz.ntmps193
  go_wp2_with (first | (go_at_call 192; refine (HT.out).mono ?_; rintro e w1 ⟨rfl, hb1, hM2, hk1⟩))
  have hs2 : B ≤ w1.heap.size := Nat.le_trans hs1 hb1.size
  have hbk1 : w1.heap[w.heap.size]? = some (.cells #[.int .i64 3, .string t, .int .i64 n] 190 (0, 0)) := by rw [hk1 w.heap.size (by omega), heap_new]
  have cn : w1.cell? ⟨w.heap.size, 2, none⟩ = some (.int .i64 (n : Int)) := by rw [Lib.cell_of_heap hbk1]; rfl
  have HK1 : Hid (w1.heap[w.heap.size]? = some (.cells #[.int .i64 3, .string t, .int .i64 n] 190 (0, 0))) := hbk1
  have HM2 : Hid (MOk B w1 m r cd pl st lk) := hM2
  have hz1 : z ≤ x.size := by omega
  have hz2 : z ≤ n := by omega
  clear hk1 hM2 HT hbk1
  have hn0 : (0 : Int) ≤ (n : Int) := by omega
  have hnI : (z : Int) ≤ (x.size : Int) := by omega
  go_region_held3 (fun w' => w'.cell? ⟨w.heap.size, 2, none⟩ = some (.int .i64 (n : Int)))
    (first | assumption | (simp [*]; done) | (rw [Lib.cell_of_heap hkk]; rfl))
    (first | (go_at_call 194; refine (HP.out _ ?_ ?_ ?_).mono ?_; (focus (exact HM2.out.below (Below.refl _ _).drew)); (focus (simpa using hs2)); (focus (exact HK1.out)); rintro e w2 ⟨rfl, hb2, hM3, hkk⟩))
  all_goals
    obtain ⟨d2, e2, _, _⟩ := hM3.cell2
    have HM3 : Hid (MOk B w2 m (r ++ [x.extract 0 z]) cd pl st lk) := hM3
    clear hM3 hkk
    go_wp2
    go_ret
    exact ⟨rfl, (((KB.old HBA.out hB).trans hb1).drew.trans hb2).setM 2 hBm _, HM3.out.place _⟩

set_option maxRecDepth 100000 in
set_option maxHeartbeats 4000000 in
theorem work_rest (B m : Nat) (r : List ByteArray) (x : ByteArray) (cd : Value) (pl st lk : Int) (t : ByteArray) (n : Nat) (w : World) (hM : MOk B w m (r ++ [x]) cd pl st lk) (hB : B ≤ w.heap.size) (hp0 : 0 ≤ pl) (hp1 : pl ≤ 2000) (hn : n ≤ 2000) (h2 : r.length + 1 ≤ 50) (hx : x.size ≤ 2000) (z : Nat) (hmin : min (n : Int) (x.size : Int) = (z : Int)) (hpc : (x.extract z x.size).size ≤ 2000) :
    Calls Tryz.prog 193 #[.pointer (some ⟨m, 0, none⟩), .agg #[.int .i64 4, .string t, .int .i64 n]] w fun e w' => e = .returned (.bool true) ∧ KB B m w w' ∧ MOk B w' m (r ++ [x.extract z x.size]) cd (pl + 1) st lk := by
  have hba : Below w.heap.size w (w.alloc (.cells #[.int .i64 4, .string t, .int .i64 n] 190)) := (Below.refl _ _).alloc (Nat.le_refl _) _
  have hmw := hM.cell2.2.2.1
  have hM1 := hM.below hba
  obtain ⟨c2, f2, hml, hBm⟩ := hM1.cell2
  have hs1 : B ≤ (w.alloc (.cells #[.int .i64 4, .string t, .int .i64 n] 190)).heap.size := by simp; omega
  have HP : Hid (∀ W : World, MOk B W m r cd pl st lk → B ≤ W.heap.size → W.heap[w.heap.size]? = some (.cells #[.int .i64 4, .string t, .int .i64 n] 190 (0, 0)) → Calls Tryz.prog 194 #[.pointer (some ⟨m, 0, none⟩), .string (x.extract z x.size)] W fun e w' => e = .returned (.bool true) ∧ KB B m W w' ∧ MOk B w' m (r ++ [x.extract z x.size]) cd pl st lk ∧ w'.heap[w.heap.size]? = some (.cells #[.int .i64 4, .string t, .int .i64 n] 190 (0, 0))) := fun W h1 h2 h3 => put_keep w.heap.size _ B m r cd pl st lk (x.extract z x.size) W h1 h2 hpc (by omega) h3 (by omega)
  have HT : Hid (Calls Tryz.prog 192 #[.pointer (some ⟨m, 0, none⟩)] (w.alloc (.cells #[.int .i64 4, .string t, .int .i64 n] 190)) fun e w' => e = .returned (.string x) ∧ KB B m (w.alloc (.cells #[.int .i64 4, .string t, .int .i64 n] 190)) w' ∧ MOk B w' m r cd pl st lk ∧ ∀ b, b ≠ m → w'.heap[b]? = (w.alloc (.cells #[.int .i64 4, .string t, .int .i64 n] 190)).heap[b]?) := take_anyK B m r x cd pl st lk _ hM1 hs1 (by omega)
  have HBA : Hid (Below w.heap.size w (w.alloc (.cells #[.int .i64 4, .string t, .int .i64 n] 190))) := hba
  clear hM hM1 hba hpc
  go_enter Tryz.func193, Tryz.ntmps193
  go_wp2_with (first | (go_at_call 192; refine (HT.out).mono ?_; rintro e w1 ⟨rfl, hb1, hM2, hk1⟩))
  have hs2 : B ≤ w1.heap.size := Nat.le_trans hs1 hb1.size
  have hbk1 : w1.heap[w.heap.size]? = some (.cells #[.int .i64 4, .string t, .int .i64 n] 190 (0, 0)) := by rw [hk1 w.heap.size (by omega), heap_new]
  have cn : w1.cell? ⟨w.heap.size, 2, none⟩ = some (.int .i64 (n : Int)) := by rw [Lib.cell_of_heap hbk1]; rfl
  have HK1 : Hid (w1.heap[w.heap.size]? = some (.cells #[.int .i64 4, .string t, .int .i64 n] 190 (0, 0))) := hbk1
  have HM2 : Hid (MOk B w1 m r cd pl st lk) := hM2
  have hz1 : z ≤ x.size := by omega
  have hz2 : z ≤ n := by omega
  clear hk1 hM2 HT hbk1
  have hn0 : (0 : Int) ≤ (n : Int) := by omega
  have hnI : (z : Int) ≤ (x.size : Int) := by omega
  go_region_held3 (fun w' => w'.cell? ⟨w.heap.size, 2, none⟩ = some (.int .i64 (n : Int)))
    (first | assumption | (simp [*]; done) | (rw [Lib.cell_of_heap hkk]; rfl))
    (first | (go_at_call 194; refine (HP.out _ ?_ ?_ ?_).mono ?_; (focus (exact HM2.out.below (Below.refl _ _).drew)); (focus (simpa using hs2)); (focus (exact HK1.out)); rintro e w2 ⟨rfl, hb2, hM3, hkk⟩))
  all_goals
    obtain ⟨d2, e2, _, _⟩ := hM3.cell2
    have HM3 : Hid (MOk B w2 m (r ++ [x.extract z x.size]) cd pl st lk) := hM3
    clear hM3 hkk
    go_wp2
    go_ret
    exact ⟨rfl, (((KB.old HBA.out hB).trans hb1).drew.trans hb2).setM 2 hBm _, HM3.out.place _⟩

open Go.RowKit
set_option linter.unusedVariables false

set_option maxRecDepth 100000 in
set_option maxHeartbeats 4000000 in
theorem work_word (B m : Nat) (r : List ByteArray) (x : ByteArray) (cd : Value) (pl st lk : Int) (t : ByteArray) (n : Nat) (w : World) (hM : MOk B w m (r ++ [x]) cd pl st lk) (hB : B ≤ w.heap.size) (hp0 : 0 ≤ pl) (hp1 : pl ≤ 2000) (hn : n ≤ 2000) (h2 : r.length + 1 ≤ 50) (hx : x.size ≤ 2000) (hpc : (pieceP x n).size ≤ 2000) :
    Calls Tryz.prog 193 #[.pointer (some ⟨m, 0, none⟩), .agg #[.int .i64 5, .string t, .int .i64 n]] w fun e w' => e = .returned (.bool true) ∧ KB B m w w' ∧ MOk B w' m (r ++ [pieceP x n]) cd (pl + 1) st lk := by
  have hba : Below w.heap.size w (w.alloc (.cells #[.int .i64 5, .string t, .int .i64 n] 190)) := (Below.refl _ _).alloc (Nat.le_refl _) _
  have hmw := hM.cell2.2.2.1
  have hM1 := hM.below hba
  obtain ⟨c2, f2, hml, hBm⟩ := hM1.cell2
  have hs1 : B ≤ (w.alloc (.cells #[.int .i64 5, .string t, .int .i64 n] 190)).heap.size := by simp; omega
  go_enter Tryz.func193, Tryz.ntmps193
  go_wp2_with fail
  go_region_with (first | (go_at_call 210; refine (wordAt_any x n _ hx hn).mono ?_; rintro e w9 ⟨rfl, rfl⟩) | (go_at_call 192; refine (take_anyK B m (r) x cd pl st lk _ ?_ ?_ ?_).mono ?_; (focus (exact hM1)); (focus (exact hs1)); (focus (first | omega | (simp; omega))); rintro e w1 ⟨rfl, hb1, hM2, hk1⟩; have hs2 : B ≤ w1.heap.size := (Nat.le_trans hs1 hb1.size); obtain ⟨dd1, ee1, _, _⟩ := hM2.cell2; have cn : w1.cell? ⟨w.heap.size, 2, none⟩ = some (.int .i64 (n : Int)) := (by rw [World.cell?_of_block (hk1 w.heap.size (by omega))]; simp [go_sem]); clear hk1) | (go_at_call 194; refine (put_okK B m (r) cd pl st lk (pieceP x n) _ ?_ ?_ hpc ?_).mono ?_; (focus (exact hM2)); (focus (exact hs2)); (focus (first | omega | (simp; omega))); rintro e w2 ⟨rfl, hb2, hM3⟩; have hs3 : B ≤ w2.heap.size := (Nat.le_trans hs2 hb2.size); obtain ⟨dd2, ee2, _, _⟩ := hM3.cell2))
  all_goals
    go_wp2
    go_ret
    exact ⟨rfl, (((KB.old hba hB).drew.trans hb1).trans hb2).setM 2 hBm _, hM3.place _⟩

set_option maxRecDepth 100000 in
set_option maxHeartbeats 4000000 in
theorem work_same (B m : Nat) (r : List ByteArray) (x y : ByteArray) (cd : Value) (pl st lk : Int) (t : ByteArray) (n : Nat) (w : World) (hM : MOk B w m (r ++ [x] ++ [y]) cd pl st lk) (hB : B ≤ w.heap.size) (hp0 : 0 ≤ pl) (hp1 : pl ≤ 2000) (hn : n ≤ 2000) (h2 : r.length + 2 ≤ 50) (hx : x.size ≤ 2000) (hy : y.size ≤ 2000) (hf : (flagB (x.toList == y.toList)).size ≤ 2000) :
    Calls Tryz.prog 193 #[.pointer (some ⟨m, 0, none⟩), .agg #[.int .i64 6, .string t, .int .i64 n]] w fun e w' => e = .returned (.bool true) ∧ KB B m w w' ∧ MOk B w' m (r ++ [flagB (x.toList == y.toList)]) cd (pl + 1) st lk := by
  have hba : Below w.heap.size w (w.alloc (.cells #[.int .i64 6, .string t, .int .i64 n] 190)) := (Below.refl _ _).alloc (Nat.le_refl _) _
  have hmw := hM.cell2.2.2.1
  have hM1 := hM.below hba
  obtain ⟨c2, f2, hml, hBm⟩ := hM1.cell2
  have hs1 : B ≤ (w.alloc (.cells #[.int .i64 6, .string t, .int .i64 n] 190)).heap.size := by simp; omega
  go_enter Tryz.func193, Tryz.ntmps193
  go_wp2_with fail
  go_region_with (first | (go_at_call 192; refine (take_anyK B m (r) x cd pl st lk _ ?_ ?_ ?_).mono ?_; (focus (exact hM2)); (focus (exact hs2)); (focus (first | omega | (simp; omega))); rintro e w2 ⟨rfl, hb2, hM3, hk2⟩; have hs3 : B ≤ w2.heap.size := (Nat.le_trans hs2 hb2.size); obtain ⟨dd2, ee2, _, _⟩ := hM3.cell2; clear hk2) | (go_at_call 192; refine (take_anyK B m (r ++ [x]) y cd pl st lk _ ?_ ?_ ?_).mono ?_; (focus (exact hM1)); (focus (exact hs1)); (focus (first | omega | (simp; omega))); rintro e w1 ⟨rfl, hb1, hM2, hk1⟩; have hs2 : B ≤ w1.heap.size := (Nat.le_trans hs1 hb1.size); obtain ⟨dd1, ee1, _, _⟩ := hM2.cell2; clear hk1))
  all_goals
    go_wp2_with fail
    go_region_with (first | (go_at_call 162; refine (oneIf_any _ _).mono ?_; rintro e w9 ⟨rfl, rfl⟩) | (go_at_call 194; refine (put_okK B m (r) cd pl st lk (flagB (x.toList == y.toList)) _ ?_ ?_ hf ?_).mono ?_; (focus (exact hM3)); (focus (exact hs3)); (focus (first | omega | (simp; omega))); rintro e w3 ⟨rfl, hb3, hM4⟩; have hs4 : B ≤ w3.heap.size := (Nat.le_trans hs3 hb3.size); obtain ⟨dd3, ee3, _, _⟩ := hM4.cell2))
    all_goals
      go_wp2
      go_ret
      exact ⟨rfl, (((KB.old hba hB).drew.trans hb1).trans (hb2.trans ((KB.refl _ _ _).drew.trans hb3))).setM 2 hBm _, hM4.place _⟩

open Go.RowKit
set_option linter.unusedVariables false

set_option maxRecDepth 100000 in
set_option maxHeartbeats 4000000 in
theorem work_dup_ok (B m : Nat) (r : List ByteArray) (x : ByteArray) (cd : Value) (pl st lk : Int) (t : ByteArray) (n : Nat) (w : World) (hM : MOk B w m (r ++ [x]) cd pl st lk) (hB : B ≤ w.heap.size) (hp0 : 0 ≤ pl) (hp1 : pl ≤ 2000) (hn : n ≤ 2000) (h2 : r.length + 2 ≤ 50) (hx : x.size ≤ 2000) :
    Calls Tryz.prog 193 #[.pointer (some ⟨m, 0, none⟩), .agg #[.int .i64 7, .string t, .int .i64 n]] w fun e w' => e = .returned (.bool true) ∧ KB B m w w' ∧ MOk B w' m (r ++ [x] ++ [x]) cd (pl + 1) st lk := by
  have hba : Below w.heap.size w (w.alloc (.cells #[.int .i64 7, .string t, .int .i64 n] 190)) := (Below.refl _ _).alloc (Nat.le_refl _) _
  have hmw := hM.cell2.2.2.1
  have hM1 := hM.below hba
  obtain ⟨c2, f2, hml, hBm⟩ := hM1.cell2
  have hs1 : B ≤ (w.alloc (.cells #[.int .i64 7, .string t, .int .i64 n] 190)).heap.size := by simp; omega
  go_enter Tryz.func193, Tryz.ntmps193
  go_wp2_with (first | (go_at_call 192; refine (take_anyK B m (r) x cd pl st lk _ ?_ ?_ ?_).mono ?_; (focus (exact hM1)); (focus (exact hs1)); (focus (first | omega | (simp; omega))); rintro e w1 ⟨rfl, hb1, hM2, hk1⟩; have hs2 : B ≤ w1.heap.size := (Nat.le_trans hs1 hb1.size); obtain ⟨dd1, ee1, _, _⟩ := hM2.cell2; clear hk1) | (go_at_call 194; refine (put_okK B m (r ++ [x]) cd pl st lk (x) _ ?_ ?_ hx ?_).mono ?_; (focus (exact hM3)); (focus (exact hs3)); (focus (first | omega | (simp; omega))); rintro e w3 ⟨rfl, hb3, hM4⟩; have hs4 : B ≤ w3.heap.size := (Nat.le_trans hs3 hb3.size); obtain ⟨dd3, ee3, _, _⟩ := hM4.cell2) | (go_at_call 194; refine (put_okK B m (r) cd pl st lk (x) _ ?_ ?_ hx ?_).mono ?_; (focus (exact hM2)); (focus (exact hs2)); (focus (first | omega | (simp; omega))); rintro e w2 ⟨rfl, hb2, hM3⟩; have hs3 : B ≤ w2.heap.size := (Nat.le_trans hs2 hb2.size); obtain ⟨dd2, ee2, _, _⟩ := hM3.cell2))
  go_ret
  exact ⟨rfl, (((KB.old hba hB).trans hb1).trans (hb2.trans hb3)).setM 2 hBm _, hM4.place _⟩

set_option maxRecDepth 100000 in
set_option maxHeartbeats 4000000 in
theorem work_dup_no (B m : Nat) (r : List ByteArray) (x : ByteArray) (cd : Value) (pl st lk : Int) (t : ByteArray) (n : Nat) (w : World) (hM : MOk B w m (r ++ [x]) cd pl st lk) (hB : B ≤ w.heap.size) (hp0 : 0 ≤ pl) (hp1 : pl ≤ 2000) (hn : n ≤ 2000) (h2 : r.length + 1 = 50) (hx : x.size ≤ 2000) :
    Calls Tryz.prog 193 #[.pointer (some ⟨m, 0, none⟩), .agg #[.int .i64 7, .string t, .int .i64 n]] w fun e w' => e = .returned (.bool false) ∧ KB B m w w' ∧ MOk B w' m (r ++ [x]) cd pl st lk := by
  have hba : Below w.heap.size w (w.alloc (.cells #[.int .i64 7, .string t, .int .i64 n] 190)) := (Below.refl _ _).alloc (Nat.le_refl _) _
  have hmw := hM.cell2.2.2.1
  have hM1 := hM.below hba
  obtain ⟨c2, f2, hml, hBm⟩ := hM1.cell2
  have hs1 : B ≤ (w.alloc (.cells #[.int .i64 7, .string t, .int .i64 n] 190)).heap.size := by simp; omega
  go_enter Tryz.func193, Tryz.ntmps193
  go_wp2_with (first | (go_at_call 192; refine (take_anyK B m (r) x cd pl st lk _ ?_ ?_ ?_).mono ?_; (focus (exact hM1)); (focus (exact hs1)); (focus (first | omega | (simp; omega))); rintro e w1 ⟨rfl, hb1, hM2, hk1⟩; have hs2 : B ≤ w1.heap.size := (Nat.le_trans hs1 hb1.size); obtain ⟨dd1, ee1, _, _⟩ := hM2.cell2; clear hk1) | (go_at_call 194; refine (put_no B m (r ++ [x]) cd pl st lk (x) _ ?_ ?_ ?_ ?_).mono ?_; (focus (exact hM3)); (focus (first | omega | (simp; omega))); (focus (first | omega | (simp; omega))); (focus (right; simp; omega)); rintro e w3 ⟨rfl, rfl⟩) | (go_at_call 194; refine (put_okK B m (r) cd pl st lk (x) _ ?_ ?_ hx ?_).mono ?_; (focus (exact hM2)); (focus (exact hs2)); (focus (first | omega | (simp; omega))); rintro e w2 ⟨rfl, hb2, hM3⟩; have hs3 : B ≤ w2.heap.size := (Nat.le_trans hs2 hb2.size); obtain ⟨dd2, ee2, _, _⟩ := hM3.cell2))
  go_ret
  exact ⟨rfl, (((KB.old hba hB).trans hb1).trans hb2), hM3⟩

open Go.RowKit
set_option linter.unusedVariables false

set_option maxRecDepth 100000 in
set_option maxHeartbeats 4000000 in
theorem work_swap (B m : Nat) (r : List ByteArray) (x y : ByteArray) (cd : Value) (pl st lk : Int) (t : ByteArray) (n : Nat) (w : World) (hM : MOk B w m (r ++ [x] ++ [y]) cd pl st lk) (hB : B ≤ w.heap.size) (hp0 : 0 ≤ pl) (hp1 : pl ≤ 2000) (hn : n ≤ 2000) (h2 : r.length + 2 ≤ 50) (hx : x.size ≤ 2000) (hy : y.size ≤ 2000) :
    Calls Tryz.prog 193 #[.pointer (some ⟨m, 0, none⟩), .agg #[.int .i64 8, .string t, .int .i64 n]] w fun e w' => e = .returned (.bool true) ∧ KB B m w w' ∧ MOk B w' m (r ++ [y] ++ [x]) cd (pl + 1) st lk := by
  have hba : Below w.heap.size w (w.alloc (.cells #[.int .i64 8, .string t, .int .i64 n] 190)) := (Below.refl _ _).alloc (Nat.le_refl _) _
  have hM1 := hM.below hba
  obtain ⟨c2, f2, hml, hBm⟩ := hM1.cell2
  have hs1 : B ≤ (w.alloc (.cells #[.int .i64 8, .string t, .int .i64 n] 190)).heap.size := by simp; omega
  have HBA : Hid (Below w.heap.size w (w.alloc (.cells #[.int .i64 8, .string t, .int .i64 n] 190))) := hba
  have HM1 : Hid (MOk B (w.alloc (.cells #[.int .i64 8, .string t, .int .i64 n] 190)) m (r ++ [x] ++ [y]) cd pl st lk) := hM1
  clear hM hM1 hba
  go_enter Tryz.func193, Tryz.ntmps193
  go_wp2_with fail
  go_region_held3 (fun w' => B ≤ w'.heap.size)
    (first | assumption | (simpa using hs1) | exact Nat.le_trans hs2 hb2.size | exact Nat.le_trans hs1 (by simpa using hb1.size))
    (first | (go_at_call 192; refine (take_anyK B m (r) x cd pl st lk _ ?_ ?_ ?_).mono ?_; (focus (exact HM2.out)); (focus (exact hs2)); (focus (omega)); rintro e w2 ⟨rfl, hb2, hM3, hk2⟩; have HM3 : Hid (MOk B w2 m r cd pl st lk) := hM3; clear hM3 hk2) | (go_at_call 192; refine (take_anyK B m (r ++ [x]) y cd pl st lk _ ?_ ?_ ?_).mono ?_; (focus (exact HM1.out.below (Below.refl _ _).drew)); (focus (simpa using hs1)); (focus (simp; omega)); rintro e w1 ⟨rfl, hb1, hM2, hk1⟩; have hs2 : B ≤ w1.heap.size := (Nat.le_trans hs1 (by simpa using hb1.size)); have HM2 : Hid (MOk B w1 m (r ++ [x]) cd pl st lk) := hM2; clear hM2 hk1))
  have hs3 : B ≤ w2.heap.size := Nat.le_trans hs2 hb2.size
  have hB2 : KB B m w w2 := ((KB.old HBA.out hB).drew.trans hb1).trans hb2
  clear hb1 hb2 HM1 HM2
  go_wp2_with fail
  refine (put_okK B m r cd pl st lk y _ HM3.out hs3 hy (by omega)).mono ?_
  rintro e w3 ⟨rfl, hb3, hM4⟩
  have HM4 : Hid (MOk B w3 m (r ++ [y]) cd pl st lk) := hM4
  have hs4 : B ≤ w3.heap.size := Nat.le_trans hs3 hb3.size
  have hB3 := hB2.trans hb3
  clear hM4 HM3 hb3 hB2
  go_wp2_with fail
  refine (put_okK B m (r ++ [y]) cd pl st lk x _ HM4.out hs4 hx (by simp; omega)).mono ?_
  rintro e w4 ⟨rfl, hb4, hM5⟩
  obtain ⟨d2, e2, _, _⟩ := hM5.cell2
  have HM5 : Hid (MOk B w4 m (r ++ [y] ++ [x]) cd pl st lk) := hM5
  have hB4 := hB3.trans hb4
  clear hM5 HM4 hb4 hB3
  go_wp2
  go_ret
  exact ⟨rfl, hB4.setM 2 hBm _, HM5.out.place _⟩

open Go.RowKit
set_option linter.unusedVariables false

theorem extract_le (x : ByteArray) (a b : Nat) : (x.extract a b).size ≤ x.size := by rw [ByteArray.size_extract]; omega
theorem piece_le (s : ByteArray) : ∀ (d n st i : Nat), s.size - i ≤ d → (pieceFrom s n st i).size ≤ s.size
  | 0, n, st, i, h => by
    rw [pf_end (by omega)]
    split
    · exact extract_le _ _ _
    · exact Nat.zero_le _
  | d + 1, n, st, i, h => by
    by_cases hi : i < s.size
    · by_cases hg : gapB s[i] = true
      · by_cases hst : st < i
        · by_cases hn : n = 0
          · subst hn; rw [pf_gap0 hi hg hst]; exact extract_le _ _ _
          · rw [pf_gapS hi hg hst hn]; exact piece_le s d _ _ _ (by omega)
        · rw [pf_none hi hg hst]; exact piece_le s d _ _ _ (by omega)
      · rw [pf_in hi (by simpa using hg)]; exact piece_le s d _ _ _ (by omega)
    · rw [pf_end hi]
      split
      · exact extract_le _ _ _
      · exact Nat.zero_le _
theorem flagB_size (b : Bool) : (flagB b).size = 1 := by cases b <;> rfl

theorem split0 (l : List ByteArray) : restL l 0 = l := by simp [restL]
theorem split1 {l : List ByteArray} (h : 1 ≤ l.length) : l = restL l 1 ++ [topB l] := by
  unfold restL topB
  have e : l.take (l.length - 1 + 1) = l.take (l.length - 1) ++ [l[l.length - 1]] := List.take_succ_eq_append_getElem (by omega)
  rw [List.getD_eq_getElem?_getD, List.getElem?_eq_getElem (show l.length - 1 < l.length by omega), Option.getD_some, ← e, List.take_of_length_le (by omega)]
theorem split2 {l : List ByteArray} (h : 2 ≤ l.length) : l = restL l 2 ++ [subB l] ++ [topB l] := by
  have h1 := split1 (l := l) (by omega)
  have e : l.take (l.length - 2 + 1) = l.take (l.length - 2) ++ [l[l.length - 2]] := List.take_succ_eq_append_getElem (by omega)
  have h2 : restL l 1 = restL l 2 ++ [subB l] := by
    unfold restL subB
    rw [List.getD_eq_getElem?_getD, List.getElem?_eq_getElem (show l.length - 2 < l.length by omega), Option.getD_some, ← e]
    congr 1; omega
  rw [← h2]; exact h1
theorem restL_length (l : List ByteArray) (k : Nat) : (restL l k).length = l.length - k := by simp [restL]
theorem top_mem {l : List ByteArray} (h : 1 ≤ l.length) : topB l ∈ l := by
  unfold topB
  rw [List.getD_eq_getElem?_getD, List.getElem?_eq_getElem (show l.length - 1 < l.length by omega), Option.getD_some]
  exact List.getElem_mem _
theorem sub_mem {l : List ByteArray} (h : 2 ≤ l.length) : subB l ∈ l := by
  unfold subB
  rw [List.getD_eq_getElem?_getD, List.getElem?_eq_getElem (show l.length - 2 < l.length by omega), Option.getD_some]
  exact List.getElem_mem _

def Bad (o : Nat) (t : ByteArray) (n : Nat) (l : List ByteArray) : Prop := 50 < (restL l (takesN o)).length + (outP o t n (topB l) (subB l)).length ∨ ∃ x ∈ outP o t n (topB l) (subB l), 2000 < x.size

def WorkPost (o : Nat) (t : ByteArray) (n : Nat) (l : List ByteArray) (B m : Nat) (cd : Value) (pl : Nat) (st lk : Int) (w : World) (e : Ending) (w' : World) : Prop :=
  KB B m w w' ∧ ((e = .returned (.bool true) ∧ ¬ Bad o t n l ∧ MOk B w' m (restL l (takesN o) ++ outP o t n (topB l) (subB l)) cd (nextP o n pl (topB l) : Nat) st lk) ∨ (e = .returned (.bool false) ∧ Bad o t n l ∧ ∃ ss, MOk B w' m ss cd pl st lk))

variable (B m : Nat) (l : List ByteArray) (cd : Value) (pl : Nat) (st lk : Int) (t : ByteArray) (n : Nat) (w : World)

theorem nextP_plain {o n pl : Nat} {a : ByteArray} (h : o ≠ 10) (h2 : o ≠ 11) : nextP o n pl a = pl + 1 := by simp [nextP, h, h2]

theorem work_1 (hM : MOk B w m l cd pl st lk) (hB : B ≤ w.heap.size) (hp1 : pl ≤ 200) (hn : n ≤ 2000) (hlen : l.length ≤ 50) (hsz : ∀ x ∈ l, x.size ≤ 2000) (ht : t.size ≤ 2000) :
    Calls Tryz.prog 193 #[.pointer (some ⟨m, 0, none⟩), .agg #[.int .i64 1, .string t, .int .i64 n]] w fun e w' => WorkPost 1 t n l B m cd pl st lk w e w' := by
  unfold WorkPost Bad
  rw [show takesN 1 = 0 from rfl, split0]
  by_cases h : l.length < 50
  · refine (work_lit_ok B m l cd pl st lk t n w hM hB ht h (by omega) (by omega)).mono fun e w' ⟨h1, h2, h3⟩ => ⟨h2, Or.inl ⟨h1, ?_, by rw [nextP_plain (by decide) (by decide)]; exact h3⟩⟩
    simp [outP]; omega
  · refine (work_lit_no B m l cd pl st lk t n w hM hB (by omega) (by omega) hn ht (by omega)).mono fun e w' ⟨h1, h2, h3⟩ => ⟨h2, Or.inr ⟨h1, ?_, _, h3⟩⟩
    simp [outP]; omega

theorem work_2 (hM : MOk B w m l cd pl st lk) (hB : B ≤ w.heap.size) (hp1 : pl ≤ 200) (hn : n ≤ 2000) (hlen : l.length ≤ 50) (hsz : ∀ x ∈ l, x.size ≤ 2000) (htk : 2 ≤ l.length) :
    Calls Tryz.prog 193 #[.pointer (some ⟨m, 0, none⟩), .agg #[.int .i64 2, .string t, .int .i64 n]] w fun e w' => WorkPost 2 t n l B m cd pl st lk w e w' := by
  have hs := split2 htk
  have hr := restL_length l 2
  have hx := hsz _ (top_mem (show 1 ≤ l.length by omega))
  have hy := hsz _ (sub_mem htk)
  unfold WorkPost Bad
  rw [show takesN 2 = 2 from rfl]
  rw [hs] at hM
  revert hM hr hx hy
  generalize restL l 2 = r
  generalize topB l = y
  generalize subB l = x
  intro hM hr hx hy
  have hc : (x ++ y).size = x.size + y.size := ByteArray.size_append
  by_cases h : (x ++ y).size ≤ 2000
  · refine (work_cat_ok B m r x y cd pl st lk t n w hM hB (by omega) (by omega) hn (by omega) hy hx h).mono fun e w' ⟨h1, h2, h3⟩ => ⟨h2, Or.inl ⟨h1, ?_, by rw [nextP_plain (by decide) (by decide)]; exact h3⟩⟩
    simp [outP]; omega
  · refine (work_cat_no B m r x y cd pl st lk t n w hM hB (by omega) (by omega) hn (by omega) hy hx (by omega) (by omega)).mono fun e w' ⟨h1, h2, h3⟩ => ⟨h2, Or.inr ⟨h1, ?_, _, h3⟩⟩
    simp [outP]; omega

theorem work_3 (hM : MOk B w m l cd pl st lk) (hB : B ≤ w.heap.size) (hp1 : pl ≤ 200) (hn : n ≤ 2000) (hlen : l.length ≤ 50) (hsz : ∀ x ∈ l, x.size ≤ 2000) (htk : 1 ≤ l.length) :
    Calls Tryz.prog 193 #[.pointer (some ⟨m, 0, none⟩), .agg #[.int .i64 3, .string t, .int .i64 n]] w fun e w' => WorkPost 3 t n l B m cd pl st lk w e w' := by
  have hs := split1 htk
  have hr := restL_length l 1
  have hx := hsz _ (top_mem htk)
  unfold WorkPost Bad
  rw [show takesN 3 = 1 from rfl]
  rw [hs] at hM
  revert hM hr hx
  generalize restL l 1 = r
  generalize topB l = x
  intro hM hr hx
  have hpc := extract_le x 0 (min n x.size)
  refine (work_cut B m r x cd pl st lk t n w hM hB (by omega) (by omega) hn (by omega) hx (min n x.size) (by omega) (by omega)).mono fun e w' ⟨h1, h2, h3⟩ => ⟨h2, Or.inl ⟨h1, ?_, by rw [nextP_plain (by decide) (by decide)]; exact h3⟩⟩
  simp only [outP, List.length_singleton, List.mem_singleton, exists_eq_left]; omega

theorem work_4 (hM : MOk B w m l cd pl st lk) (hB : B ≤ w.heap.size) (hp1 : pl ≤ 200) (hn : n ≤ 2000) (hlen : l.length ≤ 50) (hsz : ∀ x ∈ l, x.size ≤ 2000) (htk : 1 ≤ l.length) :
    Calls Tryz.prog 193 #[.pointer (some ⟨m, 0, none⟩), .agg #[.int .i64 4, .string t, .int .i64 n]] w fun e w' => WorkPost 4 t n l B m cd pl st lk w e w' := by
  have hs := split1 htk
  have hr := restL_length l 1
  have hx := hsz _ (top_mem htk)
  unfold WorkPost Bad
  rw [show takesN 4 = 1 from rfl]
  rw [hs] at hM
  revert hM hr hx
  generalize restL l 1 = r
  generalize topB l = x
  intro hM hr hx
  have hpc := extract_le x (min n x.size) x.size
  refine (work_rest B m r x cd pl st lk t n w hM hB (by omega) (by omega) hn (by omega) hx (min n x.size) (by omega) (by omega)).mono fun e w' ⟨h1, h2, h3⟩ => ⟨h2, Or.inl ⟨h1, ?_, by rw [nextP_plain (by decide) (by decide)]; exact h3⟩⟩
  simp only [outP, List.length_singleton, List.mem_singleton, exists_eq_left]; omega

theorem work_5 (hM : MOk B w m l cd pl st lk) (hB : B ≤ w.heap.size) (hp1 : pl ≤ 200) (hn : n ≤ 2000) (hlen : l.length ≤ 50) (hsz : ∀ x ∈ l, x.size ≤ 2000) (htk : 1 ≤ l.length) :
    Calls Tryz.prog 193 #[.pointer (some ⟨m, 0, none⟩), .agg #[.int .i64 5, .string t, .int .i64 n]] w fun e w' => WorkPost 5 t n l B m cd pl st lk w e w' := by
  have hs := split1 htk
  have hr := restL_length l 1
  have hx := hsz _ (top_mem htk)
  unfold WorkPost Bad
  rw [show takesN 5 = 1 from rfl]
  rw [hs] at hM
  revert hM hr hx
  generalize restL l 1 = r
  generalize topB l = x
  intro hM hr hx
  have hpc : (pieceP x n).size ≤ x.size := piece_le x x.size n 0 0 (by omega)
  refine (work_word B m r x cd pl st lk t n w hM hB (by omega) (by omega) hn (by omega) hx (by omega)).mono fun e w' ⟨h1, h2, h3⟩ => ⟨h2, Or.inl ⟨h1, ?_, by rw [nextP_plain (by decide) (by decide)]; exact h3⟩⟩
  simp only [outP, List.length_singleton, List.mem_singleton, exists_eq_left]; omega

theorem work_6 (hM : MOk B w m l cd pl st lk) (hB : B ≤ w.heap.size) (hp1 : pl ≤ 200) (hn : n ≤ 2000) (hlen : l.length ≤ 50) (hsz : ∀ x ∈ l, x.size ≤ 2000) (htk : 2 ≤ l.length) :
    Calls Tryz.prog 193 #[.pointer (some ⟨m, 0, none⟩), .agg #[.int .i64 6, .string t, .int .i64 n]] w fun e w' => WorkPost 6 t n l B m cd pl st lk w e w' := by
  have hs := split2 htk
  have hr := restL_length l 2
  have hx := hsz _ (top_mem (show 1 ≤ l.length by omega))
  have hy := hsz _ (sub_mem htk)
  unfold WorkPost Bad
  rw [show takesN 6 = 2 from rfl]
  rw [hs] at hM
  revert hM hr hx hy
  generalize restL l 2 = r
  generalize topB l = y
  generalize subB l = x
  intro hM hr hx hy
  have hf := flagB_size (x.toList == y.toList)
  refine (work_same B m r x y cd pl st lk t n w hM hB (by omega) (by omega) hn (by omega) hy hx (by omega)).mono fun e w' ⟨h1, h2, h3⟩ => ⟨h2, Or.inl ⟨h1, ?_, by rw [nextP_plain (by decide) (by decide)]; exact h3⟩⟩
  simp only [outP, List.length_singleton, List.mem_singleton, exists_eq_left]; omega

theorem work_7 (hM : MOk B w m l cd pl st lk) (hB : B ≤ w.heap.size) (hp1 : pl ≤ 200) (hn : n ≤ 2000) (hlen : l.length ≤ 50) (hsz : ∀ x ∈ l, x.size ≤ 2000) (htk : 1 ≤ l.length) :
    Calls Tryz.prog 193 #[.pointer (some ⟨m, 0, none⟩), .agg #[.int .i64 7, .string t, .int .i64 n]] w fun e w' => WorkPost 7 t n l B m cd pl st lk w e w' := by
  have hs := split1 htk
  have hr := restL_length l 1
  have hx := hsz _ (top_mem htk)
  unfold WorkPost Bad
  rw [show takesN 7 = 1 from rfl]
  rw [hs] at hM
  revert hM hr hx
  generalize restL l 1 = r
  generalize topB l = x
  intro hM hr hx
  by_cases h : r.length + 2 ≤ 50
  · refine (work_dup_ok B m r x cd pl st lk t n w hM hB (by omega) (by omega) hn h hx).mono fun e w' ⟨h1, h2, h3⟩ => ⟨h2, Or.inl ⟨h1, ?_, by rw [nextP_plain (by decide) (by decide)]; simpa [outP] using h3⟩⟩
    simp [outP]; omega
  · refine (work_dup_no B m r x cd pl st lk t n w hM hB (by omega) (by omega) hn (by omega) hx).mono fun e w' ⟨h1, h2, h3⟩ => ⟨h2, Or.inr ⟨h1, ?_, _, h3⟩⟩
    simp [outP]; omega

theorem work_8 (hM : MOk B w m l cd pl st lk) (hB : B ≤ w.heap.size) (hp1 : pl ≤ 200) (hn : n ≤ 2000) (hlen : l.length ≤ 50) (hsz : ∀ x ∈ l, x.size ≤ 2000) (htk : 2 ≤ l.length) :
    Calls Tryz.prog 193 #[.pointer (some ⟨m, 0, none⟩), .agg #[.int .i64 8, .string t, .int .i64 n]] w fun e w' => WorkPost 8 t n l B m cd pl st lk w e w' := by
  have hs := split2 htk
  have hr := restL_length l 2
  have hx := hsz _ (top_mem (show 1 ≤ l.length by omega))
  have hy := hsz _ (sub_mem htk)
  unfold WorkPost Bad
  rw [show takesN 8 = 2 from rfl]
  rw [hs] at hM
  revert hM hr hx hy
  generalize restL l 2 = r
  generalize topB l = y
  generalize subB l = x
  intro hM hr hx hy
  refine (work_swap B m r x y cd pl st lk t n w hM hB (by omega) (by omega) hn (by omega) hy hx).mono fun e w' ⟨h1, h2, h3⟩ => ⟨h2, Or.inl ⟨h1, ?_, by rw [nextP_plain (by decide) (by decide)]; simpa [outP] using h3⟩⟩
  simp [outP]; omega

theorem work_9 (hM : MOk B w m l cd pl st lk) (hB : B ≤ w.heap.size) (hp1 : pl ≤ 200) (hn : n ≤ 2000) (hlen : l.length ≤ 50) (hsz : ∀ x ∈ l, x.size ≤ 2000) (htk : 1 ≤ l.length) :
    Calls Tryz.prog 193 #[.pointer (some ⟨m, 0, none⟩), .agg #[.int .i64 9, .string t, .int .i64 n]] w fun e w' => WorkPost 9 t n l B m cd pl st lk w e w' := by
  have hs := split1 htk
  have hr := restL_length l 1
  have hx := hsz _ (top_mem htk)
  unfold WorkPost Bad
  rw [show takesN 9 = 1 from rfl]
  rw [hs] at hM
  revert hM hr hx
  generalize restL l 1 = r
  generalize topB l = x
  intro hM hr hx
  refine (work_drop B m r x cd pl st lk t n w hM hB (by omega) (by omega) hn (by omega)).mono fun e w' ⟨h1, h2, h3⟩ => ⟨h2, Or.inl ⟨h1, ?_, by rw [nextP_plain (by decide) (by decide)]; simpa [outP] using h3⟩⟩
  simp [outP]; omega

theorem work_10 (hM : MOk B w m l cd pl st lk) (hB : B ≤ w.heap.size) (hp1 : pl ≤ 200) (hn : n ≤ 2000) (hlen : l.length ≤ 50) (hsz : ∀ x ∈ l, x.size ≤ 2000) :
    Calls Tryz.prog 193 #[.pointer (some ⟨m, 0, none⟩), .agg #[.int .i64 10, .string t, .int .i64 n]] w fun e w' => WorkPost 10 t n l B m cd pl st lk w e w' := by
  unfold WorkPost Bad
  rw [show takesN 10 = 0 from rfl, split0]
  refine (work_jump B m l cd pl st lk t n w hM hB (by omega) (by omega) hn).mono fun e w' ⟨h1, h2, h3⟩ => ⟨h2, Or.inl ⟨h1, ?_, by simpa [outP, nextP] using h3⟩⟩
  simp [outP]; omega

theorem work_11 (hM : MOk B w m l cd pl st lk) (hB : B ≤ w.heap.size) (hp1 : pl ≤ 200) (hn : n ≤ 2000) (hlen : l.length ≤ 50) (hsz : ∀ x ∈ l, x.size ≤ 2000) (htk : 1 ≤ l.length) :
    Calls Tryz.prog 193 #[.pointer (some ⟨m, 0, none⟩), .agg #[.int .i64 11, .string t, .int .i64 n]] w fun e w' => WorkPost 11 t n l B m cd pl st lk w e w' := by
  have hs := split1 htk
  have hr := restL_length l 1
  have hx := hsz _ (top_mem htk)
  unfold WorkPost Bad
  rw [show takesN 11 = 1 from rfl]
  rw [hs] at hM
  revert hM hr hx
  generalize restL l 1 = r
  generalize topB l = x
  intro hM hr hx
  by_cases hx1 : x.toList.isEmpty = true
  · refine (work_unless_0 B m r x cd pl st lk t n w hM hB (by omega) (by omega) hn (by omega) hx1).mono fun e w' ⟨h1, h2, h3⟩ => ⟨h2, Or.inl ⟨h1, ?_, by simpa [outP, nextP, emptyB, hx1] using h3⟩⟩
    simp [outP]; omega
  · have hx1' : x.toList.isEmpty = false := by simpa using hx1
    by_cases hx2 : (x.toList == [48]) = true
    · refine (work_unless_1 B m r x cd pl st lk t n w hM hB (by omega) (by omega) hn (by omega) hx1' hx2).mono fun e w' ⟨h1, h2, h3⟩ => ⟨h2, Or.inl ⟨h1, ?_, by
        have e1 : emptyB x = true := by simp only [emptyB, hx2, Bool.or_true]
        simpa [outP, nextP, e1] using h3⟩⟩
      simp [outP]; omega
    · have hx2' : (x.toList == [48]) = false := by simpa using hx2
      refine (work_unless_2 B m r x cd pl st lk t n w hM hB (by omega) (by omega) hn (by omega) hx1' hx2').mono fun e w' ⟨h1, h2, h3⟩ => ⟨h2, Or.inl ⟨h1, ?_, by
        have e1 : emptyB x = false := by simp only [emptyB, hx1', hx2', Bool.or_false]
        simpa [outP, nextP, e1] using h3⟩⟩
      simp [outP]; omega

theorem work_any (o : Nat) (hM : MOk B w m l cd pl st lk) (hB : B ≤ w.heap.size) (hp1 : pl ≤ 200) (hn : n ≤ 2000) (hlen : l.length ≤ 50) (hsz : ∀ x ∈ l, x.size ≤ 2000) (ht : t.size ≤ 2000) (h1 : 1 ≤ o) (h2 : o ≤ 11) (htk : takesN o ≤ l.length) :
    Calls Tryz.prog 193 #[.pointer (some ⟨m, 0, none⟩), .agg #[.int .i64 (o : Int), .string t, .int .i64 n]] w fun e w' => WorkPost o t n l B m cd pl st lk w e w' := by
  rcases (show o = 1 ∨ o = 2 ∨ o = 3 ∨ o = 4 ∨ o = 5 ∨ o = 6 ∨ o = 7 ∨ o = 8 ∨ o = 9 ∨ o = 10 ∨ o = 11 by omega) with rfl | rfl | rfl | rfl | rfl | rfl | rfl | rfl | rfl | rfl | rfl
  · exact work_1 B m l cd pl st lk t n w hM hB hp1 hn hlen hsz ht
  · exact work_2 B m l cd pl st lk t n w hM hB hp1 hn hlen hsz htk
  · exact work_3 B m l cd pl st lk t n w hM hB hp1 hn hlen hsz htk
  · exact work_4 B m l cd pl st lk t n w hM hB hp1 hn hlen hsz htk
  · exact work_5 B m l cd pl st lk t n w hM hB hp1 hn hlen hsz htk
  · exact work_6 B m l cd pl st lk t n w hM hB hp1 hn hlen hsz htk
  · exact work_7 B m l cd pl st lk t n w hM hB hp1 hn hlen hsz htk
  · exact work_8 B m l cd pl st lk t n w hM hB hp1 hn hlen hsz htk
  · exact work_9 B m l cd pl st lk t n w hM hB hp1 hn hlen hsz htk
  · exact work_10 B m l cd pl st lk t n w hM hB hp1 hn hlen hsz
  · exact work_11 B m l cd pl st lk t n w hM hB hp1 hn hlen hsz htk

end Go.Proofs.YtmpgajfccaoboaeGreatDoor
