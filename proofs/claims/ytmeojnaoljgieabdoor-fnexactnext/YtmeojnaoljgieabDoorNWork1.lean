/-
  The walk of impl's machine.work, instruction by instruction.
-/
import Derived.Test.YtmeojnaoljgieabDoorNWork
namespace Go.Proofs.YtmeojnaoljgieabDoor
open Go.RowKit
set_option linter.unusedVariables false

set_option maxRecDepth 100000 in
set_option maxHeartbeats 4000000 in
theorem work_drop (B m : Nat) (r : List ByteArray) (x : ByteArray) (cd : Value) (pl st lk : Int) (t : ByteArray) (n : Nat) (w : World) (hM : MOk B w m (r ++ [x]) cd pl st lk) (hB : B ≤ w.heap.size) (hp0 : 0 ≤ pl) (hp1 : pl ≤ 2000) (hn : n ≤ 2000) (h2 : r.length < 50) :
    Calls Tryd.prog 81 #[.pointer (some ⟨m, 0, none⟩), .agg #[.int .i64 9, .string t, .int .i64 n]] w fun e w' => e = .returned (.bool true) ∧ KB B m w w' ∧ MOk B w' m (r) cd (pl + 1) st lk := by
  have hba : Below w.heap.size w (w.alloc (.cells #[.int .i64 9, .string t, .int .i64 n] 61)) := (Below.refl _ _).alloc (Nat.le_refl _) _
  have hmw := hM.cell2.2.2.1
  have hM1 := hM.below hba
  obtain ⟨c2, f2, hml, hBm⟩ := hM1.cell2
  have hs1 : B ≤ (w.alloc (.cells #[.int .i64 9, .string t, .int .i64 n] 61)).heap.size := by simp; omega
  go_enter Tryd.func81, Tryd.ntmps81
  go_wp2_with (first | (go_at_call 80; refine (take_anyK B m (r) x cd pl st lk _ ?_ ?_ ?_).mono ?_; (focus (exact hM1)); (focus (exact hs1)); (focus (first | omega | (simp; omega))); rintro e w1 ⟨rfl, hb1, hM2, hk1⟩; have hs2 : B ≤ w1.heap.size := (Nat.le_trans hs1 hb1.size); obtain ⟨dd1, ee1, _, _⟩ := hM2.cell2; clear hk1))
  go_ret
  exact ⟨rfl, ((KB.old hba hB).trans hb1).setM 2 hBm _, hM2.place _⟩

set_option maxRecDepth 100000 in
set_option maxHeartbeats 4000000 in
theorem work_unless_0 (B m : Nat) (r : List ByteArray) (x : ByteArray) (cd : Value) (pl st lk : Int) (t : ByteArray) (n : Nat) (w : World) (hM : MOk B w m (r ++ [x]) cd pl st lk) (hB : B ≤ w.heap.size) (hp0 : 0 ≤ pl) (hp1 : pl ≤ 2000) (hn : n ≤ 2000) (h2 : r.length < 50) (hx : x.toList.isEmpty = true) :
    Calls Tryd.prog 81 #[.pointer (some ⟨m, 0, none⟩), .agg #[.int .i64 11, .string t, .int .i64 n]] w fun e w' => e = .returned (.bool true) ∧ KB B m w w' ∧ MOk B w' m (r) cd n st lk := by
  have hba : Below w.heap.size w (w.alloc (.cells #[.int .i64 11, .string t, .int .i64 n] 61)) := (Below.refl _ _).alloc (Nat.le_refl _) _
  have hmw := hM.cell2.2.2.1
  have hM1 := hM.below hba
  obtain ⟨c2, f2, hml, hBm⟩ := hM1.cell2
  have hs1 : B ≤ (w.alloc (.cells #[.int .i64 11, .string t, .int .i64 n] 61)).heap.size := by simp; omega
  go_enter Tryd.func81, Tryd.ntmps81
  go_wp2_with (first | (go_at_call 80; refine (take_anyK B m (r) x cd pl st lk _ ?_ ?_ ?_).mono ?_; (focus (exact hM1)); (focus (exact hs1)); (focus (first | omega | (simp; omega))); rintro e w1 ⟨rfl, hb1, hM2, hk1⟩; have hs2 : B ≤ w1.heap.size := (Nat.le_trans hs1 hb1.size); obtain ⟨dd1, ee1, _, _⟩ := hM2.cell2; have cn : w1.cell? ⟨w.heap.size, 2, none⟩ = some (.int .i64 (n : Int)) := (by rw [World.cell?_of_block (hk1 w.heap.size (by omega))]; simp [go_sem]); clear hk1))
  go_ret
  exact ⟨rfl, ((KB.old hba hB).trans hb1).setM 2 hBm _, hM2.place _⟩

set_option maxRecDepth 100000 in
set_option maxHeartbeats 4000000 in
theorem work_unless_1 (B m : Nat) (r : List ByteArray) (x : ByteArray) (cd : Value) (pl st lk : Int) (t : ByteArray) (n : Nat) (w : World) (hM : MOk B w m (r ++ [x]) cd pl st lk) (hB : B ≤ w.heap.size) (hp0 : 0 ≤ pl) (hp1 : pl ≤ 2000) (hn : n ≤ 2000) (h2 : r.length < 50) (hx : x.toList.isEmpty = false) (hx2 : (x.toList == [48]) = true) :
    Calls Tryd.prog 81 #[.pointer (some ⟨m, 0, none⟩), .agg #[.int .i64 11, .string t, .int .i64 n]] w fun e w' => e = .returned (.bool true) ∧ KB B m w w' ∧ MOk B w' m (r) cd n st lk := by
  have hba : Below w.heap.size w (w.alloc (.cells #[.int .i64 11, .string t, .int .i64 n] 61)) := (Below.refl _ _).alloc (Nat.le_refl _) _
  have hmw := hM.cell2.2.2.1
  have hM1 := hM.below hba
  obtain ⟨c2, f2, hml, hBm⟩ := hM1.cell2
  have hs1 : B ≤ (w.alloc (.cells #[.int .i64 11, .string t, .int .i64 n] 61)).heap.size := by simp; omega
  go_enter Tryd.func81, Tryd.ntmps81
  go_wp2_with (first | (go_at_call 80; refine (take_anyK B m (r) x cd pl st lk _ ?_ ?_ ?_).mono ?_; (focus (exact hM1)); (focus (exact hs1)); (focus (first | omega | (simp; omega))); rintro e w1 ⟨rfl, hb1, hM2, hk1⟩; have hs2 : B ≤ w1.heap.size := (Nat.le_trans hs1 hb1.size); obtain ⟨dd1, ee1, _, _⟩ := hM2.cell2; have cn : w1.cell? ⟨w.heap.size, 2, none⟩ = some (.int .i64 (n : Int)) := (by rw [World.cell?_of_block (hk1 w.heap.size (by omega))]; simp [go_sem]); clear hk1))
  go_ret
  exact ⟨rfl, ((KB.old hba hB).trans hb1).setM 2 hBm _, hM2.place _⟩

set_option maxRecDepth 100000 in
set_option maxHeartbeats 4000000 in
theorem work_unless_2 (B m : Nat) (r : List ByteArray) (x : ByteArray) (cd : Value) (pl st lk : Int) (t : ByteArray) (n : Nat) (w : World) (hM : MOk B w m (r ++ [x]) cd pl st lk) (hB : B ≤ w.heap.size) (hp0 : 0 ≤ pl) (hp1 : pl ≤ 2000) (hn : n ≤ 2000) (h2 : r.length < 50) (hx : x.toList.isEmpty = false) (hx2 : (x.toList == [48]) = false) :
    Calls Tryd.prog 81 #[.pointer (some ⟨m, 0, none⟩), .agg #[.int .i64 11, .string t, .int .i64 n]] w fun e w' => e = .returned (.bool true) ∧ KB B m w w' ∧ MOk B w' m (r) cd (pl + 1) st lk := by
  have hba : Below w.heap.size w (w.alloc (.cells #[.int .i64 11, .string t, .int .i64 n] 61)) := (Below.refl _ _).alloc (Nat.le_refl _) _
  have hmw := hM.cell2.2.2.1
  have hM1 := hM.below hba
  obtain ⟨c2, f2, hml, hBm⟩ := hM1.cell2
  have hs1 : B ≤ (w.alloc (.cells #[.int .i64 11, .string t, .int .i64 n] 61)).heap.size := by simp; omega
  go_enter Tryd.func81, Tryd.ntmps81
  go_wp2_with (first | (go_at_call 80; refine (take_anyK B m (r) x cd pl st lk _ ?_ ?_ ?_).mono ?_; (focus (exact hM1)); (focus (exact hs1)); (focus (first | omega | (simp; omega))); rintro e w1 ⟨rfl, hb1, hM2, hk1⟩; have hs2 : B ≤ w1.heap.size := (Nat.le_trans hs1 hb1.size); obtain ⟨dd1, ee1, _, _⟩ := hM2.cell2; have cn : w1.cell? ⟨w.heap.size, 2, none⟩ = some (.int .i64 (n : Int)) := (by rw [World.cell?_of_block (hk1 w.heap.size (by omega))]; simp [go_sem]); clear hk1))
  go_ret
  exact ⟨rfl, ((KB.old hba hB).trans hb1).setM 2 hBm _, hM2.place _⟩

end Go.Proofs.YtmeojnaoljgieabDoor
