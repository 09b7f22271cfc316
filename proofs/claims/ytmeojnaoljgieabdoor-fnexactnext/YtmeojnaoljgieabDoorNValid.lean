/-
  The walk of impl.validReplies.
-/
import Derived.Test.YtmeojnaoljgieabDoorReplies
namespace Go.Proofs.YtmeojnaoljgieabDoor
open Go.RowKit
set_option linter.unusedVariables false

def repOk (r : R3) : Bool := decide (r.text.size ≤ 2000) && decide (0 ≤ r.code) && decide (r.code ≤ 7)
def repsOk (rs : List R3) : Bool := decide (rs.length ≤ 200) && decide (∀ i, i < rs.length → repOk (rx rs i) = true)
theorem repsOk_at {rs : List R3} {k : Nat} (hk : k < rs.length) (h : repOk (rx rs k) = false) : repsOk rs = false := by
  rw [Bool.eq_false_iff]
  intro e
  simp only [repsOk, Bool.and_eq_true, decide_eq_true_eq] at e
  rw [e.2 k hk] at h
  cases h
theorem repOk_cases (r : R3) : (repOk r = false ∧ decide ((2000 : Int) < r.text.size) = true) ∨ (repOk r = false ∧ decide ((2000 : Int) < r.text.size) = false ∧ decide (r.code < 0) = true) ∨ (repOk r = false ∧ decide ((2000 : Int) < r.text.size) = false ∧ decide (r.code < 0) = false ∧ decide (7 < r.code) = true) ∨ (repOk r = true ∧ decide ((2000 : Int) < r.text.size) = false ∧ decide (r.code < 0) = false ∧ decide (7 < r.code) = false) := by
  unfold repOk
  by_cases h1 : 2000 < r.text.size <;> by_cases h2 : r.code < 0 <;> by_cases h3 : 7 < r.code <;> simp [h1, h2, h3] <;> omega

set_option maxHeartbeats 800000 in
theorem validReplies_any (a : Option Addr) (cap : Nat) (rs : List R3) (w : World) (hc : RowR w a rs) (hl : rs.length ≤ 1048576) (hs : ∀ i, (rx rs i).text.size ≤ 9223372036854775807) :
    Calls Tryd.prog 50 #[.slice a rs.length cap] w fun e w' => Below w.heap.size w w' ∧ e = .returned (.bool (repsOk rs)) := by
  by_cases hlen : 200 < rs.length
  · rw [show repsOk rs = false from by rw [Bool.eq_false_iff]; simp only [repsOk, ne_eq, Bool.and_eq_true, decide_eq_true_eq]; omega]
    have d2 : decide (200 < (rs.length : Int)) = true := by simp; omega
    go_enter Tryd.func50, Tryd.ntmps50
    go_wp2
    go_ret
    exact ⟨Below.refl _ _, rfl⟩
  · have d2 : decide (200 < (rs.length : Int)) = false := by simp; omega
    go_enter Tryd.func50, Tryd.ntmps50
    go_wp2
    go_loopw [10] (fun i wr => ∃ k : Nat, k ≤ rs.length ∧ i = .int .i64 k ∧ Hid (∀ i, i < k → repOk (rx rs i) = true) ∧ Below w.heap.size w wr) (fun i _ => rs.length - (intOf i).toNat)
    case atStart => exact ⟨0, Nat.zero_le _, rfl, fun i hi => by omega, Below.refl _ _⟩
    case round =>
      obtain ⟨k, hk, rfl, HK, hbr⟩ := hrel
      by_cases hlt : k < rs.length
      · obtain ⟨b, off, rfl, c1, c2, c3⟩ := (hc.below hbr) k hlt
        have hsk := hs k
        have hlw : wr.heap.size ≤ wr.heap.size := Nat.le_refl _
        have hb0 : b < wr.heap.size := World.block_lt_of_cell? wr _ c1
        have ka : ∀ x, (wr.alloc x).cell? ⟨b, off + k * 3, none⟩ = some (.bool (rx rs k).has) := fun x => by rw [World.cell?_alloc_lt _ _ _ hb0]; exact c1
        have kb : ∀ x, (wr.alloc x).cell? ⟨b, off + k * 3 + 1, none⟩ = some (.int .i64 (rx rs k).code) := fun x => by rw [World.cell?_alloc_lt _ _ _ hb0]; exact c2
        have kc : ∀ x, (wr.alloc x).cell? ⟨b, off + k * 3 + 2, none⟩ = some (.string (rx rs k).text) := fun x => by rw [World.cell?_alloc_lt _ _ _ hb0]; exact c3
        have hcs := repOk_cases (rx rs k)
        have HF : Hid (repOk (rx rs k) = false → repsOk rs = false) := fun h => repsOk_at hlt h
        have HS : Hid (repOk (rx rs k) = true → ∀ i, i < k + 1 → repOk (rx rs i) = true) := fun h i hi => by
          rcases Nat.lt_or_ge i k with h' | h'
          · exact HK.out i h'
          · obtain rfl : i = k := by omega
            exact h
        clear hc hs hb0
        generalize rx rs k = r at *
        rcases hcs with ⟨ho, d1⟩ | ⟨ho, d1, d3⟩ | ⟨ho, d1, d3, d4⟩ | ⟨ho, d1, d3, d4⟩
        · have HO : Hid (repsOk rs = false) := HF.out ho
          clear ho
          go_wp2
          go_ret
          exact ⟨hbr.alloc hbr.size _, by rw [HO.out]; rfl⟩
        · have HO : Hid (repsOk rs = false) := HF.out ho
          clear ho
          go_wp2
          go_ret
          exact ⟨hbr.alloc hbr.size _, by rw [HO.out]; rfl⟩
        · have HO : Hid (repsOk rs = false) := HF.out ho
          clear ho
          go_wp2
          go_ret
          exact ⟨hbr.alloc hbr.size _, by rw [HO.out]; rfl⟩
        · have HO : Hid (∀ i, i < k + 1 → repOk (rx rs i) = true) := HS.out ho
          clear ho
          go_wp2
          go_roundw
          case rel => exact ⟨k + 1, by omega, by go_num, HO, hbr.alloc hbr.size _⟩
          case measure => simp [intOf]; omega
      · have HO : Hid (repsOk rs = true) := by
          show repsOk rs = true
          simp only [repsOk, Bool.and_eq_true, decide_eq_true_eq]
          exact ⟨by omega, fun i hi => HK.out i (by omega)⟩
        go_wp2
        go_ret
        exact ⟨hbr, by rw [HO.out]; rfl⟩

end Go.Proofs.YtmeojnaoljgieabDoor
