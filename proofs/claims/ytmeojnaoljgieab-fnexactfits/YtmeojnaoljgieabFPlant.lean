/-
  The walk of impl.plant.
-/
import Derived.Test.YtmeojnaoljgieabFMap
import Derived.Lib.SmallJoins
namespace Go.Proofs.Ytmeojnaoljgieab
open Go.RowKit Go.Maps
set_option linter.unusedVariables false

theorem plant_round {wr wd : World} {h : Nat} {x : G3} (hz : wr.heap[h]? = some (.cells zeroQ 74 (0, 0)))
    (hg : (((((wr.setCell ⟨h, 0, none⟩ (.string x.name)).setCell ⟨h, 1, none⟩ (.bool x.ask)).alloc (.cells #[.string x.name, .bool x.ask, .string x.sum] 51)).alloc (.cells #[.string ⟨#[]⟩, .bool false, .map none] 74)).alloc (.map #[] 0)).grownBy wd (some (wr.heap.size + 1 + 1)))
    (hm : wd.ownsMap Try.prog 9 ptrE (wr.heap.size + 1 + 1) 1 (one x.sum (wr.heap.size + 1))) :
    (∀ b, b < wr.heap.size → b ≠ h → wd.heap[b]? = wr.heap[b]?) ∧ wd.heap[h]? = some (.cells #[.string x.name, .bool x.ask, .map none] 74 (0, 0)) ∧ wd.heap[wr.heap.size + 1]? = some (.cells zeroQ 74 (0, 0)) := by
  have hh := blk_of hz
  refine ⟨fun b hb hne => ?_, ?_, ?_⟩
  · rw [hg.block b (by simp; omega) (by simp; omega), Lib.alloc_old _ _ _ (by simp; omega), Lib.alloc_old _ _ _ (by simp; omega), Lib.alloc_old _ _ _ (by simp; omega), Below.heap_setCell _ ⟨h, 1, none⟩ _ _ (by simpa using hne), Below.heap_setCell _ ⟨h, 0, none⟩ _ _ (by simpa using hne)]
  · rw [hg.block h (by simp; omega) (by simp; omega), Lib.alloc_old _ _ _ (by simp; omega), Lib.alloc_old _ _ _ (by simp; omega), Lib.alloc_old _ _ _ (by simp; omega), Joins.block_setCell (Joins.block_setCell hz _)]
    rfl
  · rw [hg.block _ (by simp) (by simp), Lib.alloc_old _ _ _ (by simp)]
    have h' := heap_alloc_new (((wr.setCell ⟨h, 0, none⟩ (.string x.name)).setCell ⟨h, 1, none⟩ (.bool x.ask)).alloc (.cells #[.string x.name, .bool x.ask, .string x.sum] 51)) (.cells zeroQ 74)
    rw [show (((wr.setCell ⟨h, 0, none⟩ (.string x.name)).setCell ⟨h, 1, none⟩ (.bool x.ask)).alloc (.cells #[.string x.name, .bool x.ask, .string x.sum] 51)).heap.size = wr.heap.size + 1 from by simp] at h'
    exact h'
theorem plant_next {wr wd : World} {h : Nat} {x : G3} (hz : wr.heap[h]? = some (.cells zeroQ 74 (0, 0)))
    (hr : (∀ b, b < wr.heap.size → b ≠ h → wd.heap[b]? = wr.heap[b]?) ∧ wd.heap[h]? = some (.cells #[.string x.name, .bool x.ask, .map none] 74 (0, 0)) ∧ wd.heap[wr.heap.size + 1]? = some (.cells zeroQ 74 (0, 0)))
    (hm : wd.ownsMap Try.prog 9 ptrE (wr.heap.size + 1 + 1) 1 (one x.sum (wr.heap.size + 1))) {l : List G3} {g : Nat} (c : ChainTo wr g l h) :
    ChainTo (wd.setCell ⟨h, 2, none⟩ (.map (some (wr.heap.size + 1 + 1)))) g (l ++ [x]) (wr.heap.size + 1) := by
  have hh := blk_of hz
  obtain ⟨e0, e1, e2⟩ := hr
  refine c.snoc (fun b hb hne => ?_) (mb := wr.heap.size + 1 + 1) ?_ ?_ ?_
  · rw [Below.heap_setCell _ ⟨h, 2, none⟩ _ _ (by simpa using hne), e0 b hb hne]
  · rw [Joins.block_setCell e1]
    rfl
  · exact hm.setCell (a := ⟨h, 2, none⟩) (by simp; omega) _
  · rw [Below.heap_setCell _ ⟨h, 2, none⟩ _ _ (by simp; omega)]
    exact e2

theorem take_snocG {gs : List G3} {k : Nat} (h : k < gs.length) {x : G3} (e : gx gs k = x) : gs.take (k + 1) = gs.take k ++ [x] := by
  rw [List.take_succ_eq_append_getElem h, ← e]
  unfold gx
  rw [List.getD_eq_getElem?_getD, List.getElem?_eq_getElem h]
  rfl

set_option maxHeartbeats 2000000 in
theorem plant_any (la : Option Addr) (lc : Nat) (gs : List G3) (w : World) (hg : RowG w la gs) (hl : gs.length ≤ 1048576) (hs : ∀ i, (gx gs i).sum.size ≤ maxLen) :
    Calls Try.prog 21 #[.slice la gs.length lc] w fun e w' => Below w.heap.size w w' ∧ ∃ h, e = .returned (.pointer (some ⟨w.heap.size, 0, none⟩)) ∧ ChainTo w' w.heap.size gs h := by
  have hmm := @run_makeMap Try.prog
  go_enter Try.func21, Try.ntmps21
  go_wp2
  go_loopw [4, 13] (fun at1 i wr => ∃ k h : Nat, k ≤ gs.length ∧ i = .int .i64 k ∧ at1 = .pointer (some ⟨h, 0, none⟩) ∧ Hid (ChainTo wr w.heap.size (gs.take k) h) ∧ w.heap.size ≤ h ∧ Below w.heap.size w wr) (fun _ i _ => gs.length - (intOf i).toNat)
  case atStart => exact ⟨0, w.heap.size, Nat.zero_le _, rfl, rfl, ⟨rfl, heap_alloc_new _ _⟩, Nat.le_refl _, (Below.refl _ _).alloc (Nat.le_refl _) _⟩
  case round =>
    obtain ⟨k, h, hk, rfl, rfl, HC, hwh, hbr⟩ := hrel
    by_cases hlt : k < gs.length
    · obtain ⟨b, off, rfl, c1, c2, c3⟩ := (hg.below hbr) k hlt
      have hsk := hs k
      obtain ⟨x, ex⟩ : ∃ x, gx gs k = x := ⟨_, rfl⟩
      rw [ex] at c1 c2 c3 hsk
      have ET : Hid (gs.take (k + 1) = gs.take k ++ [x]) := take_snocG hlt ex
      have hz : wr.heap[h]? = some (.cells zeroQ 74 (0, 0)) := HC.out.last
      have HZ : Hid (wr.heap[h]? = some (.cells zeroQ 74 (0, 0))) := hz
      have hh : h < wr.heap.size := blk_of hz
      have hne0 : h ≠ wr.heap.size := by omega
      have hne1 : h ≠ wr.heap.size + 1 := by omega
      have hne2 : h ≠ wr.heap.size + 1 + 1 := by omega
      have y0 : wr.cell? ⟨h, 0, none⟩ = some (.string ⟨#[]⟩) := by rw [Lib.cell_of_heap hz]; rfl
      have y1 : wr.cell? ⟨h, 1, none⟩ = some (.bool false) := by rw [Lib.cell_of_heap hz]; rfl
      have y2 : wr.cell? ⟨h, 2, none⟩ = some (.map none) := by rw [Lib.cell_of_heap hz]; rfl
      have z0 : ∀ o1 o2, ((wr.alloc o1).alloc o2).cell? ⟨h, 0, none⟩ = some (.string ⟨#[]⟩) := fun o1 o2 => by rw [World.cell?_alloc_lt _ _ _ (by simp; omega), World.cell?_alloc_lt _ _ _ hh, Lib.cell_of_heap hz]; rfl
      have z1 : ∀ o1 o2, ((wr.alloc o1).alloc o2).cell? ⟨h, 1, none⟩ = some (.bool false) := fun o1 o2 => by rw [World.cell?_alloc_lt _ _ _ (by simp; omega), World.cell?_alloc_lt _ _ _ hh, Lib.cell_of_heap hz]; rfl
      have hkey : keyOf Try.prog 9 (.string x.sum) = some (.string x.sum.data.toList) := WideMaps.keyOf_string_mk Try.underlying9 hsk
      have hmade := World.ownsMap_made (H := Unit) ((((wr.setCell ⟨h, 0, none⟩ (.string x.name)).setCell ⟨h, 1, none⟩ (.bool x.ask)).alloc (.cells #[.string x.name, .bool x.ask, .string x.sum] 51)).alloc (.cells #[.string ⟨#[]⟩, .bool false, .map none] 74)) Try.prog 9 ptrE
      rw [show ((((wr.setCell ⟨h, 0, none⟩ (.string x.name)).setCell ⟨h, 1, none⟩ (.bool x.ask)).alloc (.cells #[.string x.name, .bool x.ask, .string x.sum] 51)).alloc (.cells #[.string ⟨#[]⟩, .bool false, .map none] 74)).heap.size = wr.heap.size + 1 + 1 from by simp] at hmade
      have HMA : Hid ((((((wr.setCell ⟨h, 0, none⟩ (.string x.name)).setCell ⟨h, 1, none⟩ (.bool x.ask)).alloc (.cells #[.string x.name, .bool x.ask, .string x.sum] 51)).alloc (.cells #[.string ⟨#[]⟩, .bool false, .map none] 74)).alloc (.map #[] 0)).ownsMap Try.prog 9 ptrE (wr.heap.size + 1 + 1) 0 (.map [])) := hmade
      have hfr : ∀ j, wr.frozen? ⟨h, j, none⟩ = false := fun j => Lib.frozen_of_heap hz j
      clear hs hg hz hmade
      have hB4 : Below w.heap.size w (((((wr.setCell ⟨h, 0, none⟩ (.string x.name)).setCell ⟨h, 1, none⟩ (.bool x.ask)).alloc (.cells #[.string x.name, .bool x.ask, .string x.sum] 51)).alloc (.cells #[.string ⟨#[]⟩, .bool false, .map none] 74)).alloc (.map #[] 0)) := ((((hbr.setCell (p := ⟨h, 0, none⟩) hwh _).setCell (p := ⟨h, 1, none⟩) hwh _).alloc (by simpa using hbr.size) _).alloc (by have := hbr.size; simp; omega) _).alloc (by have := hbr.size; simp; omega) _
      go_wp2_with (refine wpList_insert_own _ rfl (.tmp 28) (.tmp 30) (.tmp 31) 72 rfl 9 57 (string_keyed Try.underlying9) Try.underlying72 ptrE (wr.heap.size + 1 + 1) 0 (.map []) rfl HMA.out (by unfold maxLen; omega) _ _ (.string x.sum.data.toList) rfl rfl hkey (.lit (.int .i64 ((wr.heap.size + 1 : Nat) : Int))) [] (ptrE_mk _) ?_; intro wd hmd hgd; have hrd := plant_round HZ.out hgd hmd; have HRD : Hid ((∀ b, b < wr.heap.size → b ≠ h → wd.heap[b]? = wr.heap[b]?) ∧ wd.heap[h]? = some (.cells #[.string x.name, .bool x.ask, .map none] 74 (0, 0)) ∧ wd.heap[wr.heap.size + 1]? = some (.cells zeroQ 74 (0, 0))) := hrd; have HMD : Hid (wd.ownsMap Try.prog 9 ptrE (wr.heap.size + 1 + 1) 1 (one x.sum (wr.heap.size + 1))) := hmd; have hBd : Below w.heap.size w wd := hB4.grown hgd (by have := hbr.size; simp; omega) (fun k hk => by cases hk; have := hbr.size; omega); have v2 : wd.cell? ⟨h, 2, none⟩ = some (.map none) := (by rw [Lib.cell_of_heap hrd.2.1]; rfl); have fv : ∀ j, wd.frozen? ⟨h, j, none⟩ = false := (fun j => Lib.frozen_of_heap hrd.2.1 j); clear hrd hmd hgd)
      go_roundw
      case rel => exact ⟨k + 1, wr.heap.size + 1, by omega, by go_num, rfl, by show ChainTo _ _ _ _; rw [ET.out]; exact plant_next HZ.out HRD.out HMD.out HC.out, by have := hbr.size; omega, hBd.setCell (p := ⟨h, 2, none⟩) hwh _⟩
      case measure => simp [intOf]; omega
    · have ek : k = gs.length := by omega
      have HC2 : Hid (ChainTo wr w.heap.size gs h) := by have := HC.out; rw [ek, List.take_length] at this; exact this
      clear ek
      go_wp2
      go_ret
      exact ⟨hbr, h, rfl, HC2.out⟩

end Go.Proofs.Ytmeojnaoljgieab
