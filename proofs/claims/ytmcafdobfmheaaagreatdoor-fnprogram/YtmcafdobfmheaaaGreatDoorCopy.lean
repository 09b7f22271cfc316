/-
  The walks of laws.szIns, szInsS, szProgram, toIns, toInsS, toProgram, eqIns, eqInsS, eqProgram.
-/
import Derived.Test.YtmcafdobfmheaaaGreatDoorPlain
import Derived.Deep.RegionHeld3
namespace Go.Proofs.YtmcafdobfmheaaaGreatDoor
open Go.RowKit

set_option maxHeartbeats 400000 in
theorem Tryz.info47 : (Tryz.prog.info? 47).map (fun i => (i.zero, i.size, i.bytes)) = some (some (.agg #[.int .i64 0, .string ByteArray.empty, .int .i64 0]), 3, 32) := by kernel_rfl

theorem cell_of_length {w : World} {B g n cap j : Nat} {xs : List Value} (h : w.ownsRow B 47 3 (.slice (some ⟨g, 0, none⟩) n cap) n xs) (hj : j < n * 3) : ∃ v, w.cell? ⟨g, j, none⟩ = some v := by
  have hl := h.1
  exact ⟨xs[j]'(by omega), by rw [h.cellAt j hj]; exact List.getElem?_eq_getElem _⟩

set_option maxHeartbeats 400000 in
theorem Row3.setCell {w : World} {g : Nat} {is : List I3} (h : Row3 w (some ⟨g, 0, none⟩) is) {b j : Nat} (hb : b ≠ g) (v : Value) : Row3 (w.setCell ⟨b, j, none⟩ v) (some ⟨g, 0, none⟩) is := by
  intro i hi
  obtain ⟨b', off, ha, h1, h2, h3⟩ := h i hi
  cases ha
  have e : ∀ o, (w.setCell ⟨b, j, none⟩ v).cell? ⟨g, o, none⟩ = w.cell? ⟨g, o, none⟩ := fun o => World.cell?_of_block (w := w) (Below.heap_setCell w ⟨b, j, none⟩ v g (fun e => hb e.symm))
  exact ⟨g, 0, rfl, by rw [e]; exact h1, by rw [e]; exact h2, by rw [e]; exact h3⟩

theorem setCell_below {w w1 : World} {b j : Nat} (h : Below w.heap.size w w1) (hb : w.heap.size ≤ b) (v : Value) : Below w.heap.size w (w1.setCell ⟨b, j, none⟩ v) := h.setCell hb v

set_option maxHeartbeats 400000 in
theorem eqIns_same (i : I3) (w : World) :
    Calls Tryz.prog 53 #[.agg #[.int .i64 i.op, .string i.text, .int .i64 i.n], .agg #[.int .i64 i.op, .string i.text, .int .i64 i.n]] w fun e w' => Below w.heap.size w w' ∧ e = .returned (.bool true) := by
  have e1 := str_eq (rfl : i.text = i.text)
  go_enter Tryz.func53, Tryz.ntmps53
  go_wp2
  go_ret
  exact ⟨((Below.refl _ _).alloc (Nat.le_refl _) _).alloc (by simp) _, rfl⟩

set_option maxHeartbeats 400000 in
theorem eqInsS_same (a a' : Option Addr) (cap cap' : Nat) (is : List I3) (w : World) (hc : Row3 w a is) (hc' : Row3 w a' is) (hl : is.length ≤ 1048576) :
    Calls Tryz.prog 30 #[.slice a is.length cap, .slice a' is.length cap'] w fun e w' => Below w.heap.size w w' ∧ e = .returned (.bool true) := by
  go_enter Tryz.func30, Tryz.ntmps30
  go_wp2
  go_loopw [5] (fun i wr => ∃ k : Nat, k ≤ is.length ∧ i = .int .i64 k ∧ Below w.heap.size w wr) (fun i _ => is.length - (intOf i).toNat)
  case atStart => exact ⟨0, Nat.zero_le _, rfl, Below.refl _ _⟩
  case round =>
    obtain ⟨k, hk, rfl, hbel⟩ := hrel
    by_cases hlt : k < is.length
    · obtain ⟨b, off, rfl, c1, c2, c3⟩ := (hc.below hbel) k hlt
      obtain ⟨b', off', rfl, d1, d2, d3⟩ := (hc'.below hbel) k hlt
      generalize ix is k = i at *
      clear hc hc'
      have hkI : (k : Int) < (is.length : Int) := by omega
      have hk0 : (0 : Int) ≤ (k : Int) := by omega
      go_wp2_with fail
      go_region_held3 (fun w' => (w'.cell? ⟨b, off + k * 3, none⟩ = some (.int .i64 i.op) ∧ w'.cell? ⟨b, off + k * 3 + 1, none⟩ = some (.string i.text) ∧ w'.cell? ⟨b, off + k * 3 + 2, none⟩ = some (.int .i64 i.n)) ∧ (w'.cell? ⟨b', off' + k * 3, none⟩ = some (.int .i64 i.op) ∧ w'.cell? ⟨b', off' + k * 3 + 1, none⟩ = some (.string i.text) ∧ w'.cell? ⟨b', off' + k * 3 + 2, none⟩ = some (.int .i64 i.n)))
        (first | assumption | (simp [*]; done) | exact ⟨⟨cell_below hb1 (by simp [*]), cell_below hb1 (by simp [*]), cell_below hb1 (by simp [*])⟩, cell_below hb1 (by simp [*]), cell_below hb1 (by simp [*]), cell_below hb1 (by simp [*])⟩)
        (first | (go_at_call 53; refine (eqIns_same i _).mono ?_; rintro e w1 ⟨hb1, rfl⟩))
      all_goals
        go_wp2
        go_roundw
        case rel => exact ⟨k + 1, by omega, by go_num, hbel.trans (Below.trans (Below.drew (Below.refl _ _)) (hb1.mono (by simpa using hbel.size)))⟩
        case measure => simp [intOf]; omega
    · go_wp2
      go_ret
      exact ⟨hbel, rfl⟩

set_option maxHeartbeats 400000 in
theorem eqProgram_same (a a' : Option Addr) (cap cap' : Nat) (is : List I3) (w : World) (hc : Row3 w a is) (hc' : Row3 w a' is) (hl : is.length ≤ 1048576) :
    Calls Tryz.prog 12 #[.agg #[.slice a is.length cap], .agg #[.slice a' is.length cap']] w fun e w' => Below w.heap.size w w' ∧ e = .returned (.bool true) := by
  go_enter Tryz.func12, Tryz.ntmps12
  go_wp2_with fail
  have hb0 : Below w.heap.size w ((w.alloc (.cells #[.slice a is.length cap] 25)).alloc (.cells #[.slice a' is.length cap'] 25)) := ((Below.refl _ _).alloc (Nat.le_refl _) _).alloc (by simp) _
  refine (eqInsS_same a a' cap cap' is _ (hc.below hb0) (hc'.below hb0) hl).mono ?_
  rintro e w1 ⟨hb1, rfl⟩
  go_wp2
  go_ret
  exact ⟨hb0.trans (hb1.mono hb0.size), rfl⟩

end Go.Proofs.YtmcafdobfmheaaaGreatDoor
