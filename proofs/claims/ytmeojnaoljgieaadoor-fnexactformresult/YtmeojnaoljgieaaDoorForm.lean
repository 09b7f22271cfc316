/-
  The contracts of spec.FormResult and impl.FormResult.
-/
import Derived.Test.YtmeojnaoljgieaaDoorStrs
import Derived.Deep.RegionWith
import Derived.Deep.RegionHeld3
namespace Go.Proofs.YtmeojnaoljgieaaDoor
open Go.RowKit
set_option linter.unusedVariables false

def digB (n : Nat) : ByteArray := ⟨#[UInt8.ofNat (48 + n)]⟩
theorem digB_size (n : Nat) : (digB n).size = 1 := rfl

theorem itoa_in (n : Nat) (hn : n ≤ 5) (w : World) : Calls Tryd.prog 18 #[.int .i64 n] w fun e w' => e = .returned (.string (digB n)) ∧ w = w' := by
  rcases (show n = 0 ∨ n = 1 ∨ n = 2 ∨ n = 3 ∨ n = 4 ∨ n = 5 by omega) with rfl | rfl | rfl | rfl | rfl | rfl
  all_goals
    go_enter Tryd.func18, Tryd.ntmps18
    go_wp2
    go_ret
    exact ⟨rfl, rfl⟩

theorem conv_one (W : World) (g : Nat) (c : Int) (u : UInt8) (hu : (u.toNat : Int) = c) (h : W.cell? ⟨g, 0, none⟩ = some (.int .u8 c)) : (convert 52 9 (.slice (some ⟨g, 0, none⟩) 1 1)).run Tryd.prog W = .ok (.string ⟨#[u]⟩) W := by
  subst hu
  exact run_convert_bytes_back (P := Tryd.prog) W 52 9 5 ⟨g, 0, none⟩ 1 [u] Tryd.underlying52 Tryd.underlying5 Tryd.underlying9 (fun t ht => by
    obtain rfl : t = 0 := by simp at ht; omega
    simpa [Addr.add] using h)

theorem dig_byte (d : Nat) (h : d < 10) : ((UInt8.ofNat (48 + d)).toNat : Int) = 48 + d := by rw [UInt8.toNat_ofNat']; omega

set_option maxRecDepth 100000 in
theorem l2Dec_in (n : Nat) (hn : n ≤ 5) (w : World) : Calls Tryd.prog 16 #[.int .i64 n] w fun e w' => e = .returned (.string (digB n)) ∧ Below w.heap.size w w' := by
  have hu := dig_byte n (by omega)
  unfold digB
  generalize UInt8.ofNat (48 + n) = u at *
  have hcv := conv_one (w.alloc (.cells #[.int .u8 (48 + n)] 5)) w.heap.size (48 + n) u hu (by simp [go_sem])
  clear hu
  go_enter Tryd.func16, Tryd.ntmps16
  go_wp2
  go_ret
  exact ⟨rfl, (Below.refl _ _).alloc (Nat.le_refl _) _⟩

theorem cell_below {w w' : World} {p : Addr} {v : Value} (hb : Below w.heap.size w w') (h : w.cell? p = some v) : w'.cell? p = some v :=
  (hb.cell (p := p) (World.block_lt_of_cell? w _ h)).trans h
theorem below_trans {w a b : World} (h : Below w.heap.size w a) (k : Below a.heap.size a b) : Below w.heap.size w b := h.trans (k.mono h.size)

set_option maxHeartbeats 1000000 in
theorem specForm_no (c : Int) (t : ByteArray) (a : Option Addr) (n cap : Nat) (w : World) (ht : t.size ≤ 1048576) (hn : n ≤ 1048576) (h : c < 0 ∨ 5 < c ∨ 2000 < t.size ∨ 0 < n) :
    Calls Tryd.prog 6 #[.agg #[.int .i64 c, .string t, .slice a n cap]] w fun e w' => e = .returned (.string ⟨#[]⟩) ∧ Below w.heap.size w w' := by
  go_enter Tryd.func6, Tryd.ntmps6
  go_wp2
  all_goals first
    | (exfalso; omega)
    | (go_ret; exact ⟨rfl, (Below.refl _ _).alloc (Nat.le_refl _) _⟩)

set_option maxHeartbeats 1000000 in
theorem specForm_yes (m : Nat) (t : ByteArray) (a : Option Addr) (cap : Nat) (w : World) (hm : m ≤ 5) (ht : t.size ≤ 2000) :
    Calls Tryd.prog 6 #[.agg #[.int .i64 m, .string t, .slice a 0 cap]] w fun e w' => e = .returned (.string (digB m ++ (⟨#[58]⟩ : ByteArray) ++ t)) ∧ Below w.heap.size w w' := by
  have hd : (digB m).size ≤ 1 := Nat.le_of_eq (digB_size m)
  have HC : Hid (∀ W : World, Calls Tryd.prog 16 #[.int .i64 m] W fun e w' => e = .returned (.string (digB m)) ∧ Below W.heap.size W w') := fun W => l2Dec_in m hm W
  generalize digB m = d at *
  have HD : Hid (∀ W : World, W.cell? ⟨w.heap.size, 1, none⟩ = some (.string t) → Calls Tryd.prog 16 #[.int .i64 m] W fun e w' => e = .returned (.string d) ∧ Below W.heap.size W w' ∧ w'.cell? ⟨w.heap.size, 1, none⟩ = some (.string t)) := fun W hW => (HC.out W).mono fun e w' ⟨he, hb⟩ => ⟨he, hb, cell_below hb hW⟩
  have hx0 : (w.alloc (.cells #[.int .i64 m, .string t, .slice a 0 cap] 27)).cell? ⟨w.heap.size, 0, none⟩ = some (.int .i64 m) := by simp [go_sem]
  have hx1 : (w.alloc (.cells #[.int .i64 m, .string t, .slice a 0 cap] 27)).cell? ⟨w.heap.size, 1, none⟩ = some (.string t) := by simp [go_sem]
  go_enter Tryd.func6, Tryd.ntmps6
  go_wp2
  go_region_with (first | (go_at_call 16; refine (HD.out _ ?_).mono ?_; (focus (simp [go_sem]; done)); rintro e w1 ⟨rfl, hb1, hcc⟩))
  all_goals
    go_wp2
    go_ret
    exact ⟨rfl, (((Below.refl _ _).alloc (Nat.le_refl _) _).drew.trans (hb1.mono (by simp)))⟩

set_option maxHeartbeats 1000000 in
theorem implForm_no (c : Int) (t : ByteArray) (a : Option Addr) (n cap : Nat) (w : World) (ht : t.size ≤ 1048576) (hn : n ≤ 1048576) (h : c < 0 ∨ 5 < c ∨ 2000 < t.size ∨ 0 < n) :
    Calls Tryd.prog 8 #[.agg #[.int .i64 c, .string t, .slice a n cap]] w fun e w' => e = .returned (.string ⟨#[]⟩) ∧ Below w.heap.size w w' := by
  go_enter Tryd.func8, Tryd.ntmps8
  go_wp2
  all_goals first
    | (exfalso; omega)
    | (go_ret; exact ⟨rfl, (Below.refl _ _).alloc (Nat.le_refl _) _⟩)

set_option maxHeartbeats 1000000 in
theorem implForm_yes (m : Nat) (t : ByteArray) (a : Option Addr) (cap : Nat) (w : World) (hm : m ≤ 5) (ht : t.size ≤ 2000) :
    Calls Tryd.prog 8 #[.agg #[.int .i64 m, .string t, .slice a 0 cap]] w fun e w' => e = .returned (.string (digB m ++ (⟨#[58]⟩ : ByteArray) ++ t)) ∧ Below w.heap.size w w' := by
  have hd : (digB m).size ≤ 1 := Nat.le_of_eq (digB_size m)
  have HC : Hid (∀ W : World, Calls Tryd.prog 18 #[.int .i64 m] W fun e w' => e = .returned (.string (digB m)) ∧ W = w') := fun W => itoa_in m hm W
  generalize digB m = d at *
  have hx0 : (w.alloc (.cells #[.int .i64 m, .string t, .slice a 0 cap] 27)).cell? ⟨w.heap.size, 0, none⟩ = some (.int .i64 m) := by simp [go_sem]
  have hx1 : (w.alloc (.cells #[.int .i64 m, .string t, .slice a 0 cap] 27)).cell? ⟨w.heap.size, 1, none⟩ = some (.string t) := by simp [go_sem]
  go_enter Tryd.func8, Tryd.ntmps8
  go_wp2
  go_region_with (first | (go_at_call 18; refine (HC.out _).mono ?_; rintro e w1 ⟨rfl, rfl⟩))
  all_goals
    go_wp2
    go_ret
    exact ⟨rfl, ((Below.refl _ _).alloc (Nat.le_refl _) _).drew⟩

end Go.Proofs.YtmeojnaoljgieaaDoor
