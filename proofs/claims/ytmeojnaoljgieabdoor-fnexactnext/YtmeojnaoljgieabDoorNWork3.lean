/-
  The walk of impl's machine.work: cut, rest, swap.
-/
import Derived.Test.YtmeojnaoljgieabDoorNWork
import Derived.Deep.RegionHeld3
namespace Go.Proofs.YtmeojnaoljgieabDoor
open Go.RowKit
set_option linter.unusedVariables false

theorem put_keep (b : Nat) (cs : Array Value) (B m : Nat) (ss : List ByteArray) (cd : Value) (pl st lk : Int) (t : ByteArray) (w : World) (hM : MOk B w m ss cd pl st lk) (hB : B ≤ w.heap.size) (h1 : t.size ≤ 2000) (h2 : ss.length < 50) (hbk : w.heap[b]? = some (.cells cs 61 (0, 0))) (hbm : b ≠ m) :
    Calls Tryd.prog 83 #[.pointer (some ⟨m, 0, none⟩), .string t] w fun e w' => e = .returned (.bool true) ∧ KB B m w w' ∧ MOk B w' m (ss ++ [t]) cd pl st lk ∧ w'.heap[b]? = some (.cells cs 61 (0, 0)) :=
  (put_okK B m ss cd pl st lk t w hM hB h1 h2).mono fun e w' ⟨k1, k2, k3⟩ => ⟨k1, k2, k3, k2.keep b cs 61 (by decide) hbm hbk⟩

set_option maxRecDepth 100000 in
set_option maxHeartbeats 4000000 in
theorem work_cut (B m : Nat) (r : List ByteArray) (x : ByteArray) (cd : Value) (pl st lk : Int) (t : ByteArray) (n : Nat) (w : World) (hM : MOk B w m (r ++ [x]) cd pl st lk) (hB : B ≤ w.heap.size) (hp0 : 0 ≤ pl) (hp1 : pl ≤ 2000) (hn : n ≤ 2000) (h2 : r.length + 1 ≤ 50) (hx : x.size ≤ 2000) (z : Nat) (hmin : min (n : Int) (x.size : Int) = (z : Int)) (hpc : (x.extract 0 z).size ≤ 2000) :
    Calls Tryd.prog 81 #[.pointer (some ⟨m, 0, none⟩), .agg #[.int .i64 3, .string t, .int .i64 n]] w fun e w' => e = .returned (.bool true) ∧ KB B m w w' ∧ MOk B w' m (r ++ [x.extract 0 z]) cd (pl + 1) st lk := by
  have hba : Below w.heap.size w (w.alloc (.cells #[.int .i64 3, .string t, .int .i64 n] 61)) := (Below.refl _ _).alloc (Nat.le_refl _) _
  have hmw := hM.cell2.2.2.1
  have hM1 := hM.below hba
  obtain ⟨c2, f2, hml, hBm⟩ := hM1.cell2
  have hs1 : B ≤ (w.alloc (.cells #[.int .i64 3, .string t, .int .i64 n] 61)).heap.size := by simp; omega
  have HP : Hid (∀ W : World, MOk B W m r cd pl st lk → B ≤ W.heap.size → W.heap[w.heap.size]? = some (.cells #[.int .i64 3, .string t, .int .i64 n] 61 (0, 0)) → Calls Tryd.prog 83 #[.pointer (some ⟨m, 0, none⟩), .string (x.extract 0 z)] W fun e w' => e = .returned (.bool true) ∧ KB B m W w' ∧ MOk B w' m (r ++ [x.extract 0 z]) cd pl st lk ∧ w'.heap[w.heap.size]? = some (.cells #[.int .i64 3, .string t, .int .i64 n] 61 (0, 0))) := fun W h1 h2 h3 => put_keep w.heap.size _ B m r cd pl st lk (x.extract 0 z) W h1 h2 hpc (by omega) h3 (by omega)
  have HT : Hid (Calls Tryd.prog 80 #[.pointer (some ⟨m, 0, none⟩)] (w.alloc (.cells #[.int .i64 3, .string t, .int .i64 n] 61)) fun e w' => e = .returned (.string x) ∧ KB B m (w.alloc (.cells #[.int .i64 3, .string t, .int .i64 n] 61)) w' ∧ MOk B w' m r cd pl st lk ∧ ∀ b, b ≠ m → w'.heap[b]? = (w.alloc (.cells #[.int .i64 3, .string t, .int .i64 n] 61)).heap[b]?) := take_anyK B m r x cd pl st lk _ hM1 hs1 (by omega)
  have HBA : Hid (Below w.heap.size w (w.alloc (.cells #[.int .i64 3, .string t, .int .i64 n] 61))) := hba
  clear hM hM1 hba hpc
  go_enter Tryd.func81, Tryd.ntmps81
  go_wp2_with (first | (go_at_call 80; refine (HT.out).mono ?_; rintro e w1 ⟨rfl, hb1, hM2, hk1⟩))
  have hs2 : B ≤ w1.heap.size := Nat.le_trans hs1 hb1.size
  have hbk1 : w1.heap[w.heap.size]? = some (.cells #[.int .i64 3, .string t, .int .i64 n] 61 (0, 0)) := by rw [hk1 w.heap.size (by omega), heap_new]
  have cn : w1.cell? ⟨w.heap.size, 2, none⟩ = some (.int .i64 (n : Int)) := by rw [Lib.cell_of_heap hbk1]; rfl
  have HK1 : Hid (w1.heap[w.heap.size]? = some (.cells #[.int .i64 3, .string t, .int .i64 n] 61 (0, 0))) := hbk1
  have HM2 : Hid (MOk B w1 m r cd pl st lk) := hM2
  have hz1 : z ≤ x.size := by omega
  have hz2 : z ≤ n := by omega
  clear hk1 hM2 HT hbk1
  have hn0 : (0 : Int) ≤ (n : Int) := by omega
  have hnI : (z : Int) ≤ (x.size : Int) := by omega
  go_region_held3 (fun w' => w'.cell? ⟨w.heap.size, 2, none⟩ = some (.int .i64 (n : Int)))
    (first | assumption | (simp [*]; done) | (rw [Lib.cell_of_heap hkk]; rfl))
    (first | (go_at_call 83; refine (HP.out _ ?_ ?_ ?_).mono ?_; (focus (exact HM2.out.below (Below.refl _ _).drew)); (focus (simpa using hs2)); (focus (exact HK1.out)); rintro e w2 ⟨rfl, hb2, hM3, hkk⟩))
  all_goals
    obtain ⟨d2, e2, _, _⟩ := hM3.cell2
    have HM3 : Hid (MOk B w2 m (r ++ [x.extract 0 z]) cd pl st lk) := hM3
    clear hM3 hkk
    go_wp2
    go_ret
    exact ⟨rfl, (((KB.old HBA.out hB).trans hb1).drew.trans hb2).setM 2 hBm _, HM3.out.place _⟩

set_option maxRecDepth 100000 in
set_option maxHeartbeats 4000000 in
theorem work_rest (B m : Nat) (r : List ByteArray) (x : ByteArray) (cd : Value) (pl st lk : Int) (t : ByteArray) (n : Nat) (w : World) (hM : MOk B w m (r ++ [x]) cd pl st lk) (hB : B ≤ w.heap.size) (hp0 : 0 ≤ pl) (hp1 : pl ≤ 2000) (hn : n ≤ 2000) (h2 : r.length + 1 ≤ 50) (hx : x.size ≤ 2000) (z : Nat) (hmin : min (n : Int) (x.size : Int) = (z : Int)) (hpc : (x.extract z x.size).size ≤ 2000) :
    Calls Tryd.prog 81 #[.pointer (some ⟨m, 0, none⟩), .agg #[.int .i64 4, .string t, .int .i64 n]] w fun e w' => e = .returned (.bool true) ∧ KB B m w w' ∧ MOk B w' m (r ++ [x.extract z x.size]) cd (pl + 1) st lk := by
  have hba : Below w.heap.size w (w.alloc (.cells #[.int .i64 4, .string t, .int .i64 n] 61)) := (Below.refl _ _).alloc (Nat.le_refl _) _
  have hmw := hM.cell2.2.2.1
  have hM1 := hM.below hba
  obtain ⟨c2, f2, hml, hBm⟩ := hM1.cell2
  have hs1 : B ≤ (w.alloc (.cells #[.int .i64 4, .string t, .int .i64 n] 61)).heap.size := by simp; omega
  have HP : Hid (∀ W : World, MOk B W m r cd pl st lk → B ≤ W.heap.size → W.heap[w.heap.size]? = some (.cells #[.int .i64 4, .string t, .int .i64 n] 61 (0, 0)) → Calls Tryd.prog 83 #[.pointer (some ⟨m, 0, none⟩), .string (x.extract z x.size)] W fun e w' => e = .returned (.bool true) ∧ KB B m W w' ∧ MOk B w' m (r ++ [x.extract z x.size]) cd pl st lk ∧ w'.heap[w.heap.size]? = some (.cells #[.int .i64 4, .string t, .int .i64 n] 61 (0, 0))) := fun W h1 h2 h3 => put_keep w.heap.size _ B m r cd pl st lk (x.extract z x.size) W h1 h2 hpc (by omega) h3 (by omega)
  have HT : Hid (Calls Tryd.prog 80 #[.pointer (some ⟨m, 0, none⟩)] (w.alloc (.cells #[.int .i64 4, .string t, .int .i64 n] 61)) fun e w' => e = .returned (.string x) ∧ KB B m (w.alloc (.cells #[.int .i64 4, .string t, .int .i64 n] 61)) w' ∧ MOk B w' m r cd pl st lk ∧ ∀ b, b ≠ m → w'.heap[b]? = (w.alloc (.cells #[.int .i64 4, .string t, .int .i64 n] 61)).heap[b]?) := take_anyK B m r x cd pl st lk _ hM1 hs1 (by omega)
  have HBA : Hid (Below w.heap.size w (w.alloc (.cells #[.int .i64 4, .string t, .int .i64 n] 61))) := hba
  clear hM hM1 hba hpc
  go_enter Tryd.func81, Tryd.ntmps81
  go_wp2_with (first | (go_at_call 80; refine (HT.out).mono ?_; rintro e w1 ⟨rfl, hb1, hM2, hk1⟩))
  have hs2 : B ≤ w1.heap.size := Nat.le_trans hs1 hb1.size
  have hbk1 : w1.heap[w.heap.size]? = some (.cells #[.int .i64 4, .string t, .int .i64 n] 61 (0, 0)) := by rw [hk1 w.heap.size (by omega), heap_new]
  have cn : w1.cell? ⟨w.heap.size, 2, none⟩ = some (.int .i64 (n : Int)) := by rw [Lib.cell_of_heap hbk1]; rfl
  have HK1 : Hid (w1.heap[w.heap.size]? = some (.cells #[.int .i64 4, .string t, .int .i64 n] 61 (0, 0))) := hbk1
  have HM2 : Hid (MOk B w1 m r cd pl st lk) := hM2
  have hz1 : z ≤ x.size := by omega
  have hz2 : z ≤ n := by omega
  clear hk1 hM2 HT hbk1
  have hn0 : (0 : Int) ≤ (n : Int) := by omega
  have hnI : (z : Int) ≤ (x.size : Int) := by omega
  go_region_held3 (fun w' => w'.cell? ⟨w.heap.size, 2, none⟩ = some (.int .i64 (n : Int)))
    (first | assumption | (simp [*]; done) | (rw [Lib.cell_of_heap hkk]; rfl))
    (first | (go_at_call 83; refine (HP.out _ ?_ ?_ ?_).mono ?_; (focus (exact HM2.out.below (Below.refl _ _).drew)); (focus (simpa using hs2)); (focus (exact HK1.out)); rintro e w2 ⟨rfl, hb2, hM3, hkk⟩))
  all_goals
    obtain ⟨d2, e2, _, _⟩ := hM3.cell2
    have HM3 : Hid (MOk B w2 m (r ++ [x.extract z x.size]) cd pl st lk) := hM3
    clear hM3 hkk
    go_wp2
    go_ret
    exact ⟨rfl, (((KB.old HBA.out hB).trans hb1).drew.trans hb2).setM 2 hBm _, HM3.out.place _⟩

end Go.Proofs.YtmeojnaoljgieabDoor
