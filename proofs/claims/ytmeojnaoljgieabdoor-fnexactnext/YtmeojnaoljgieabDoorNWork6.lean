/-
  The walk of impl's machine.work: swap.
-/
import Derived.Test.YtmeojnaoljgieabDoorNWork
import Derived.Deep.RegionHeld3
namespace Go.Proofs.YtmeojnaoljgieabDoor
open Go.RowKit
set_option linter.unusedVariables false

set_option maxRecDepth 100000 in
set_option maxHeartbeats 4000000 in
theorem work_swap (B m : Nat) (r : List ByteArray) (x y : ByteArray) (cd : Value) (pl st lk : Int) (t : ByteArray) (n : Nat) (w : World) (hM : MOk B w m (r ++ [x] ++ [y]) cd pl st lk) (hB : B ≤ w.heap.size) (hp0 : 0 ≤ pl) (hp1 : pl ≤ 2000) (hn : n ≤ 2000) (h2 : r.length + 2 ≤ 50) (hx : x.size ≤ 2000) (hy : y.size ≤ 2000) :
    Calls Tryd.prog 81 #[.pointer (some ⟨m, 0, none⟩), .agg #[.int .i64 8, .string t, .int .i64 n]] w fun e w' => e = .returned (.bool true) ∧ KB B m w w' ∧ MOk B w' m (r ++ [y] ++ [x]) cd (pl + 1) st lk := by
  have hba : Below w.heap.size w (w.alloc (.cells #[.int .i64 8, .string t, .int .i64 n] 61)) := (Below.refl _ _).alloc (Nat.le_refl _) _
  have hM1 := hM.below hba
  obtain ⟨c2, f2, hml, hBm⟩ := hM1.cell2
  have hs1 : B ≤ (w.alloc (.cells #[.int .i64 8, .string t, .int .i64 n] 61)).heap.size := by simp; omega
  have HBA : Hid (Below w.heap.size w (w.alloc (.cells #[.int .i64 8, .string t, .int .i64 n] 61))) := hba
  have HM1 : Hid (MOk B (w.alloc (.cells #[.int .i64 8, .string t, .int .i64 n] 61)) m (r ++ [x] ++ [y]) cd pl st lk) := hM1
  clear hM hM1 hba
  go_enter Tryd.func81, Tryd.ntmps81
  go_wp2_with fail
  go_region_held3 (fun w' => B ≤ w'.heap.size)
    (first | assumption | (simpa using hs1) | exact Nat.le_trans hs2 hb2.size | exact Nat.le_trans hs1 (by simpa using hb1.size))
    (first | (go_at_call 80; refine (take_anyK B m (r) x cd pl st lk _ ?_ ?_ ?_).mono ?_; (focus (exact HM2.out)); (focus (exact hs2)); (focus (omega)); rintro e w2 ⟨rfl, hb2, hM3, hk2⟩; have HM3 : Hid (MOk B w2 m r cd pl st lk) := hM3; clear hM3 hk2) | (go_at_call 80; refine (take_anyK B m (r ++ [x]) y cd pl st lk _ ?_ ?_ ?_).mono ?_; (focus (exact HM1.out.below (Below.refl _ _).drew)); (focus (simpa using hs1)); (focus (simp; omega)); rintro e w1 ⟨rfl, hb1, hM2, hk1⟩; have hs2 : B ≤ w1.heap.size := (Nat.le_trans hs1 (by simpa using hb1.size)); have HM2 : Hid (MOk B w1 m (r ++ [x]) cd pl st lk) := hM2; clear hM2 hk1))
  have hs3 : B ≤ w2.heap.size := Nat.le_trans hs2 hb2.size
  have hB2 : KB B m w w2 := ((KB.old HBA.out hB).drew.trans hb1).trans hb2
  clear hb1 hb2 HM1 HM2
  go_wp2_with fail
  refine (put_okK B m r cd pl st lk y _ HM3.out hs3 hy (by omega)).mono ?_
  rintro e w3 ⟨rfl, hb3, hM4⟩
  have HM4 : Hid (MOk B w3 m (r ++ [y]) cd pl st lk) := hM4
  have hs4 : B ≤ w3.heap.size := Nat.le_trans hs3 hb3.size
  have hB3 := hB2.trans hb3
  clear hM4 HM3 hb3 hB2
  go_wp2_with fail
  refine (put_okK B m (r ++ [y]) cd pl st lk x _ HM4.out hs4 hx (by simp; omega)).mono ?_
  rintro e w4 ⟨rfl, hb4, hM5⟩
  obtain ⟨d2, e2, _, _⟩ := hM5.cell2
  have HM5 : Hid (MOk B w4 m (r ++ [y] ++ [x]) cd pl st lk) := hM5
  have hB4 := hB3.trans hb4
  clear hM5 HM4 hb4 hB3
  go_wp2
  go_ret
  exact ⟨rfl, hB4.setM 2 hBm _, HM5.out.place _⟩

end Go.Proofs.YtmeojnaoljgieabDoor
