/-
  The walk of impl's machine.work, instruction by instruction.
-/
import Derived.Test.YtmeojnaoljgieabDoorNWork
namespace Go.Proofs.YtmeojnaoljgieabDoor
open Go.RowKit
set_option linter.unusedVariables false

set_option maxRecDepth 100000 in
set_option maxHeartbeats 4000000 in
theorem work_dup_ok (B m : Nat) (r : List ByteArray) (x : ByteArray) (cd : Value) (pl st lk : Int) (t : ByteArray) (n : Nat) (w : World) (hM : MOk B w m (r ++ [x]) cd pl st lk) (hB : B ≤ w.heap.size) (hp0 : 0 ≤ pl) (hp1 : pl ≤ 2000) (hn : n ≤ 2000) (h2 : r.length + 2 ≤ 50) (hx : x.size ≤ 2000) :
    Calls Tryd.prog 81 #[.pointer (some ⟨m, 0, none⟩), .agg #[.int .i64 7, .string t, .int .i64 n]] w fun e w' => e = .returned (.bool true) ∧ KB B m w w' ∧ MOk B w' m (r ++ [x] ++ [x]) cd (pl + 1) st lk := by
  have hba : Below w.heap.size w (w.alloc (.cells #[.int .i64 7, .string t, .int .i64 n] 61)) := (Below.refl _ _).alloc (Nat.le_refl _) _
  have hmw := hM.cell2.2.2.1
  have hM1 := hM.below hba
  obtain ⟨c2, f2, hml, hBm⟩ := hM1.cell2
  have hs1 : B ≤ (w.alloc (.cells #[.int .i64 7, .string t, .int .i64 n] 61)).heap.size := by simp; omega
  go_enter Tryd.func81, Tryd.ntmps81
  go_wp2_with (first | (go_at_call 80; refine (take_anyK B m (r) x cd pl st lk _ ?_ ?_ ?_).mono ?_; (focus (exact hM1)); (focus (exact hs1)); (focus (first | omega | (simp; omega))); rintro e w1 ⟨rfl, hb1, hM2, hk1⟩; have hs2 : B ≤ w1.heap.size := (Nat.le_trans hs1 hb1.size); obtain ⟨dd1, ee1, _, _⟩ := hM2.cell2; clear hk1) | (go_at_call 83; refine (put_okK B m (r ++ [x]) cd pl st lk (x) _ ?_ ?_ hx ?_).mono ?_; (focus (exact hM3)); (focus (exact hs3)); (focus (first | omega | (simp; omega))); rintro e w3 ⟨rfl, hb3, hM4⟩; have hs4 : B ≤ w3.heap.size := (Nat.le_trans hs3 hb3.size); obtain ⟨dd3, ee3, _, _⟩ := hM4.cell2) | (go_at_call 83; refine (put_okK B m (r) cd pl st lk (x) _ ?_ ?_ hx ?_).mono ?_; (focus (exact hM2)); (focus (exact hs2)); (focus (first | omega | (simp; omega))); rintro e w2 ⟨rfl, hb2, hM3⟩; have hs3 : B ≤ w2.heap.size := (Nat.le_trans hs2 hb2.size); obtain ⟨dd2, ee2, _, _⟩ := hM3.cell2))
  go_ret
  exact ⟨rfl, (((KB.old hba hB).trans hb1).trans (hb2.trans hb3)).setM 2 hBm _, hM4.place _⟩

set_option maxRecDepth 100000 in
set_option maxHeartbeats 4000000 in
theorem work_dup_no (B m : Nat) (r : List ByteArray) (x : ByteArray) (cd : Value) (pl st lk : Int) (t : ByteArray) (n : Nat) (w : World) (hM : MOk B w m (r ++ [x]) cd pl st lk) (hB : B ≤ w.heap.size) (hp0 : 0 ≤ pl) (hp1 : pl ≤ 2000) (hn : n ≤ 2000) (h2 : r.length + 1 = 50) (hx : x.size ≤ 2000) :
    Calls Tryd.prog 81 #[.pointer (some ⟨m, 0, none⟩), .agg #[.int .i64 7, .string t, .int .i64 n]] w fun e w' => e = .returned (.bool false) ∧ KB B m w w' ∧ MOk B w' m (r ++ [x]) cd pl st lk := by
  have hba : Below w.heap.size w (w.alloc (.cells #[.int .i64 7, .string t, .int .i64 n] 61)) := (Below.refl _ _).alloc (Nat.le_refl _) _
  have hmw := hM.cell2.2.2.1
  have hM1 := hM.below hba
  obtain ⟨c2, f2, hml, hBm⟩ := hM1.cell2
  have hs1 : B ≤ (w.alloc (.cells #[.int .i64 7, .string t, .int .i64 n] 61)).heap.size := by simp; omega
  go_enter Tryd.func81, Tryd.ntmps81
  go_wp2_with (first | (go_at_call 80; refine (take_anyK B m (r) x cd pl st lk _ ?_ ?_ ?_).mono ?_; (focus (exact hM1)); (focus (exact hs1)); (focus (first | omega | (simp; omega))); rintro e w1 ⟨rfl, hb1, hM2, hk1⟩; have hs2 : B ≤ w1.heap.size := (Nat.le_trans hs1 hb1.size); obtain ⟨dd1, ee1, _, _⟩ := hM2.cell2; clear hk1) | (go_at_call 83; refine (put_no B m (r ++ [x]) cd pl st lk (x) _ ?_ ?_ ?_ ?_).mono ?_; (focus (exact hM3)); (focus (first | omega | (simp; omega))); (focus (first | omega | (simp; omega))); (focus (right; simp; omega)); rintro e w3 ⟨rfl, rfl⟩) | (go_at_call 83; refine (put_okK B m (r) cd pl st lk (x) _ ?_ ?_ hx ?_).mono ?_; (focus (exact hM2)); (focus (exact hs2)); (focus (first | omega | (simp; omega))); rintro e w2 ⟨rfl, hb2, hM3⟩; have hs3 : B ≤ w2.heap.size := (Nat.le_trans hs2 hb2.size); obtain ⟨dd2, ee2, _, _⟩ := hM3.cell2))
  go_ret
  exact ⟨rfl, (((KB.old hba hB).trans hb1).trans hb2), hM3⟩

end Go.Proofs.YtmeojnaoljgieabDoor
