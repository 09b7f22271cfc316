import Derived.Test.YtikdgmmloiegjaaGreatDoorGRow
import Derived.Test.YtikdgmmloiegjaaGreatDoorProg
import Derived.WalkKit
import Derived.WalkSpells
import Derived.WalkLawsBesides
import Derived.ProofKit
import Derived.OpenShut
import Derived.Below
namespace Go.Proofs.YtikdgmmloiegjaaGreatDoor
open Go.RowKit
set_option linter.unusedVariables false

/-- The hypotheses on a record that its reading gives. -/
structure RecOk (w : World) (a : Option Addr) (is : List I3) (la : Option Addr) (gs : List G3) (out : ByteArray) : Prop where
  rc : Row3 w a is
  rg : RowG w la gs
  lc : is.length ≤ maxLen
  lg : gs.length ≤ maxLen
  xc : ∀ i, (ix is i).text.size ≤ maxLen
  ng : ∀ i, (gx gs i).name.size ≤ maxLen
  sg : ∀ i, (gx gs i).sum.size ≤ maxLen
  so : out.size ≤ maxLen

set_option maxHeartbeats 400000 in
theorem eqRecord_same (a a' la la' : Option Addr) (cap cap' lc lc' : Nat) (is : List I3) (gs : List G3) (out : ByteArray) (w : World) (rc : Row3 w a is) (rc' : Row3 w a' is) (rg : RowG w la gs) (rg' : RowG w la' gs) (h1 : is.length ≤ 1048576) (h2 : gs.length ≤ 1048576) :
    Calls Tryz.prog 33 #[.agg #[.slice a is.length cap, .slice la gs.length lc, .string out], .agg #[.slice a' is.length cap', .slice la' gs.length lc', .string out]] w fun e w' => Below w.heap.size w w' ∧ e = .returned (.bool true) := by
  have hb0 : Below w.heap.size w ((w.alloc (.cells #[.slice a is.length cap, .slice la gs.length lc, .string out] 54)).alloc (.cells #[.slice a' is.length cap', .slice la' gs.length lc', .string out] 54)) := ((Below.refl _ _).alloc (Nat.le_refl _) _).alloc (by simp) _
  have k1 : ((w.alloc (.cells #[.slice a is.length cap, .slice la gs.length lc, .string out] 54)).alloc (.cells #[.slice a' is.length cap', .slice la' gs.length lc', .string out] 54)).cell? ⟨w.heap.size, 1, none⟩ = some (.slice la gs.length lc) := by simp [go_sem]
  have k2 : ((w.alloc (.cells #[.slice a is.length cap, .slice la gs.length lc, .string out] 54)).alloc (.cells #[.slice a' is.length cap', .slice la' gs.length lc', .string out] 54)).cell? ⟨w.heap.size, 2, none⟩ = some (.string out) := by simp [go_sem]
  have k3 : ((w.alloc (.cells #[.slice a is.length cap, .slice la gs.length lc, .string out] 54)).alloc (.cells #[.slice a' is.length cap', .slice la' gs.length lc', .string out] 54)).cell? ⟨w.heap.size + 1, 1, none⟩ = some (.slice la' gs.length lc') := by simp [go_sem]
  have k4 : ((w.alloc (.cells #[.slice a is.length cap, .slice la gs.length lc, .string out] 54)).alloc (.cells #[.slice a' is.length cap', .slice la' gs.length lc', .string out] 54)).cell? ⟨w.heap.size + 1, 2, none⟩ = some (.string out) := by simp [go_sem]
  have e1 := str_eq (rfl : out = out)
  go_enter Tryz.func33, Tryz.ntmps33
  go_wp2_with fail
  refine (eqProgram_same a a' cap cap' is _ (rc.below hb0) (rc'.below hb0) h1).mono ?_
  rintro e w1 ⟨hb1, rfl⟩
  have hB1 := bt hb0 hb1
  have c1 := cell_below hb1 k1
  have c2 := cell_below hb1 k2
  have c3 := cell_below hb1 k3
  have c4 := cell_below hb1 k4
  clear hb0 hb1 k1 k2 k3 k4
  go_wp2_with fail
  refine (eqGlanceS_same la la' lc lc' gs _ (rg.below hB1) (rg'.below hB1) h2).mono ?_
  rintro e w2 ⟨hb2, rfl⟩
  have hB2 := bt hB1 hb2
  have d2 := cell_below hb2 c2
  have d4 := cell_below hb2 c4
  clear hb2 hB1 c1 c2 c3 c4
  go_wp2
  go_ret
  exact ⟨hB2, rfl⟩

end Go.Proofs.YtikdgmmloiegjaaGreatDoor
namespace Go.Proofs.YtikdgmmloiegjaaGreatDoor
open Go.RowKit

/-- The slice's address leads to the strings ss, in w. -/
def Strs (w : World) (a : Option Addr) (ss : List ByteArray) : Prop :=
  ∀ i, i < ss.length → ∃ b off, a = some ⟨b, off, none⟩ ∧ w.cell? ⟨b, off + i, none⟩ = some (.string (ss.getD i ByteArray.empty))

theorem Strs.below {w w' : World} {a : Option Addr} {ss : List ByteArray} (h : Strs w a ss) (hb : Below w.heap.size w w') : Strs w' a ss := by
  intro i hi
  obtain ⟨b, off, ha, hc⟩ := h i hi
  exact ⟨b, off, ha, (hb.cell (p := ⟨b, off + i, none⟩) (World.block_lt_of_cell? w _ hc)).trans hc⟩

theorem Strs.setCell {w : World} {g : Nat} {ss : List ByteArray} (h : Strs w (some ⟨g, 0, none⟩) ss) {b j : Nat} (hb : b ≠ g) (v : Value) : Strs (w.setCell ⟨b, j, none⟩ v) (some ⟨g, 0, none⟩) ss := by
  intro i hi
  obtain ⟨b', off, ha, h1⟩ := h i hi
  cases ha
  have e : ∀ o, (w.setCell ⟨b, j, none⟩ v).cell? ⟨g, o, none⟩ = w.cell? ⟨g, o, none⟩ := fun o => World.cell?_of_block (w := w) (Below.heap_setCell w ⟨b, j, none⟩ v g (fun e => hb e.symm))
  exact ⟨g, 0, rfl, by rw [e]; exact h1⟩

def total (ss : List ByteArray) : Nat := (ss.map ByteArray.size).sum

theorem total_take_succ (ss : List ByteArray) (k : Nat) (h : k < ss.length) : total (ss.take (k + 1)) = total (ss.take k) + (ss.getD k ByteArray.empty).size := by
  have e : ss.take (k + 1) = ss.take k ++ [ss[k]] := List.take_succ_eq_append_getElem h
  unfold total
  rw [e, List.map_append, List.sum_append, List.getD_eq_getElem?_getD, List.getElem?_eq_getElem h]
  simp

theorem getD_le {ss : List ByteArray} (h : ∀ s ∈ ss, s.size ≤ maxLen) (k : Nat) : (ss.getD k ByteArray.empty).size ≤ maxLen := by
  rw [List.getD_eq_getElem?_getD]
  cases hk : ss[k]? with
  | none => simp [maxLen]
  | some s => exact h s (List.mem_of_getElem? hk)

theorem Tryz.info9 : (Tryz.prog.info? 9).map (fun i => (i.zero, i.size, i.bytes)) = some (some (.string ByteArray.empty), 1, 16) := by kernel_rfl

/-- The cells of a slice of strings of which the first k are filled. -/
def filled (ss : List ByteArray) (k n : Nat) : List Value := (ss.take k).map Value.string ++ List.replicate (n - k) (Value.string ByteArray.empty)
theorem filled_length (ss : List ByteArray) (k : Nat) (h : k ≤ ss.length) : (filled ss k ss.length).length = ss.length := by
  simp [filled]; omega
theorem filled_set (ss : List ByteArray) (k : Nat) (h : k < ss.length) : (filled ss k ss.length).set k (.string (ss.getD k ByteArray.empty)) = filled ss (k + 1) ss.length := by
  unfold filled
  have e : ss.take (k + 1) = ss.take k ++ [ss[k]] := List.take_succ_eq_append_getElem h
  have hr : List.replicate (ss.length - k) (Value.string ByteArray.empty) = Value.string ByteArray.empty :: List.replicate (ss.length - (k + 1)) (Value.string ByteArray.empty) := by
    rw [show ss.length - k = (ss.length - (k + 1)) + 1 by omega, List.replicate_succ]
  rw [e, hr, List.set_append_right _ _ (by simp; omega)]
  have hk : k - ((ss.take k).map Value.string).length = 0 := by simp; omega
  rw [hk, List.getD_eq_getElem?_getD, List.getElem?_eq_getElem h, List.map_append, List.append_assoc]
  rfl
theorem filled_get (ss : List ByteArray) (i : Nat) (h : i < ss.length) : (filled ss ss.length ss.length)[i]? = some (.string (ss.getD i ByteArray.empty)) := by
  simp [filled, List.getD_eq_getElem?_getD, List.getElem?_eq_getElem h]

theorem made_strings (n : Nat) : (madeCells (Value.string ByteArray.empty).cells (n * 1)).toList = List.replicate n (.string ByteArray.empty) := by
  apply List.ext_getElem?
  intro i
  by_cases h : i < n <;> simp [madeCells, Value.cells, h, Nat.mod_one]

theorem ownsRow_strs {w : World} {B g : Nat} {cap : Nat} {ss : List ByteArray} (h : w.ownsRow B 9 1 (.slice (some ⟨g, 0, none⟩) ss.length cap) ss.length (filled ss ss.length ss.length)) : Strs w (some ⟨g, 0, none⟩) ss := by
  intro i hi
  refine ⟨g, 0, rfl, ?_⟩
  rw [Nat.zero_add, h.cellAt i (by omega), filled_get ss i hi]

set_option maxHeartbeats 400000 in
theorem eqStringS_same (a a' : Option Addr) (cap cap' : Nat) (ss : List ByteArray) (w : World) (hc : Strs w a ss) (hc' : Strs w a' ss) (hl : ss.length ≤ 1048576) :
    Calls Tryz.prog 14 #[.slice a ss.length cap, .slice a' ss.length cap'] w fun e w' => Below w.heap.size w w' ∧ e = .returned (.bool true) := by
  go_enter Tryz.func14, Tryz.ntmps14
  go_wp2
  go_loopw [5] (fun i wr => ∃ k : Nat, k ≤ ss.length ∧ i = .int .i64 k ∧ Below w.heap.size w wr) (fun i _ => ss.length - (intOf i).toNat)
  case atStart => exact ⟨0, Nat.zero_le _, rfl, Below.refl _ _⟩
  case round =>
    obtain ⟨k, hk, rfl, hbel⟩ := hrel
    by_cases hlt : k < ss.length
    · obtain ⟨b, off, rfl, hck⟩ := (hc.below hbel) k hlt
      obtain ⟨b', off', rfl, hck'⟩ := (hc'.below hbel) k hlt
      generalize ss.getD k ByteArray.empty = s at *
      clear hc hc'
      go_wp2
      go_region
      all_goals
        go_wp2
        go_roundw
        case rel => exact ⟨k + 1, by omega, by go_num, by repeat (first | exact hbel | apply Below.drew)⟩
        case measure => simp [intOf]; omega
    · go_wp2
      go_ret
      exact ⟨hbel, rfl⟩

end Go.Proofs.YtikdgmmloiegjaaGreatDoor
