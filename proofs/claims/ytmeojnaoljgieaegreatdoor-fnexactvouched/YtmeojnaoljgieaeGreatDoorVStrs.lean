import Derived.Test.YtmeojnaoljgieaeGreatDoorVGRow
import Derived.Test.YtmeojnaoljgieaeGreatDoorProg
import Derived.WalkKit
import Derived.WalkSpells
import Derived.WalkLawsBesides
import Derived.ProofKit
import Derived.OpenShut
import Derived.Below
namespace Go.Proofs.YtmeojnaoljgieaeGreatDoor
open Go.RowKit
set_option linter.unusedVariables false
set_option maxHeartbeats 8000000
set_option maxRecDepth 100000
theorem szInsS_left (a : Option Addr) (cap : Nat) (is : List I3) (lft : Int) (w : World) (hf0 : 0 <= lft) (hf1 : lft <= 1048576) (hc : Row3 w a is) (hl : is.length <= maxLen) (hs : ∀ i, (ix is i).text.size <= maxLen) :
    Calls Tryz.prog 110 #[.slice a is.length cap, .int .i64 lft] w fun e w' => Below w.heap.size w w' /\ ∃ r : Int, e = .returned (.int .i64 r) /\ (r < 0 \/ ((is.length : Int) <= lft /\ 0 <= r /\ r <= lft)) := by
  unfold maxLen at hl hs
  by_cases h0 : (is.length : Int) <= lft
  · go_enter Tryz.func110, Tryz.ntmps110
    go_wp2
    go_loopw [1, 5] (fun l i wr => ∃ k : Nat, ∃ q : Int, k <= is.length /\ i = .int .i64 k /\ l = .int .i64 q /\ 0 <= q /\ q <= lft /\ Below w.heap.size w wr) (fun _ i _ => is.length - (intOf i).toNat)
    case atStart => exact ⟨0, _, Nat.zero_le _, rfl, rfl, by omega, by omega, Below.refl _ _⟩
    case round =>
      obtain ⟨k, q, hk, rfl, rfl, hq0, hq1, hbr⟩ := hrel
      by_cases hlt : k < is.length
      · obtain ⟨b, off, rfl, c1, c2, c3⟩ := (hc.below hbr) k hlt
        have hsk := hs k
        clear hs hc
        generalize ix is k = i at *
        go_wp2_with fail
        refine (szIns_any i _ _ (by omega) (by omega) hsk).mono ?_
        rintro e w1 ⟨hb1, ⟨hneg, rfl⟩ | ⟨hpos, rfl⟩⟩
        · go_wp2
          go_ret
          exact ⟨hbr.trans (hb1.mono hbr.size), -1, rfl, by omega⟩
        · go_wp2
          go_roundw
          case rel => exact ⟨k + 1, _, by omega, by go_num, rfl, by omega, by omega, hbr.trans (hb1.mono hbr.size)⟩
          case measure => simp [intOf]; omega
      · go_wp2
        go_ret
        exact ⟨hbr, _, rfl, by omega⟩
  · go_enter Tryz.func110, Tryz.ntmps110
    go_wp2
    go_ret
    exact ⟨Below.refl _ _, -1, rfl, by omega⟩
theorem szProgram_left (a : Option Addr) (cap : Nat) (is : List I3) (lft : Int) (w : World) (hf0 : 0 <= lft) (hf1 : lft <= 1048576) (hc : Row3 w a is) (hl : is.length <= maxLen) (hs : ∀ i, (ix is i).text.size <= maxLen) :
    Calls Tryz.prog 55 #[.agg #[.slice a is.length cap], .int .i64 lft] w fun e w' => Below w.heap.size w w' /\ ∃ r : Int, e = .returned (.int .i64 r) /\ (r < 0 \/ ((is.length : Int) <= lft /\ 0 <= r /\ r <= lft)) := by
  have hb0 : Below w.heap.size w (w.alloc (.cells #[.slice a is.length cap] 47)) := (Below.refl _ _).alloc (Nat.le_refl _) _
  go_enter Tryz.func55, Tryz.ntmps55
  go_wp2_with fail
  refine (szInsS_left a cap is lft _ hf0 hf1 (hc.below hb0) hl hs).mono ?_
  rintro e w1 ⟨hb1, r, rfl, hr⟩
  have hB1 := bt hb0 hb1
  clear hb0 hb1
  go_wp2
  all_goals go_ret
  · exact ⟨hB1, -1, rfl, by omega⟩
  · exact ⟨hB1, r, rfl, by omega⟩
/-- The hypotheses on a record that its reading gives. -/
structure RecOk (w : World) (a : Option Addr) (is : List I3) (la : Option Addr) (gs : List G3) (out : ByteArray) : Prop where
  rc : Row3 w a is
  rg : RowG w la gs
  lc : is.length <= maxLen
  lg : gs.length <= maxLen
  xc : ∀ i, (ix is i).text.size <= maxLen
  ng : ∀ i, (gx gs i).name.size <= maxLen
  sg : ∀ i, (gx gs i).sum.size <= maxLen
  so : out.size <= maxLen
theorem toProgram_fresh (a : Option Addr) (cap : Nat) (is : List I3) (w : World) (hc : Row3 w a is) (hl : is.length <= 1048576) :
    Calls Tryz.prog 62 #[.agg #[.slice a is.length cap]] w fun e w' => Below w.heap.size w w' /\ ∃ g : Nat, e = .returned (.agg #[.slice (some ⟨g, 0, none⟩) is.length is.length]) /\ w.heap.size <= g /\ Row3 w' (some ⟨g, 0, none⟩) is := by
  go_enter Tryz.func62, Tryz.ntmps62
  go_wp2_with fail
  have hb0 : Below w.heap.size w (((w.alloc (.cells #[.slice a is.length cap] 47)).alloc (.cells #[.slice none 0 0] 60)).alloc (.cells #[.slice none 0 0] 60)) := (((Below.refl _ _).alloc (Nat.le_refl _) _).alloc (by simp) _).alloc (by simp; omega) _
  refine (toInsS_any a cap is _ (hc.below hb0) hl).mono ?_
  rintro e w1 ⟨hb1, g, rfl, hg, hr⟩
  simp at hg
  have hb : Below w.heap.size w w1 := hb0.trans (hb1.mono hb0.size)
  have hz := hb1.size
  simp at hz
  have c1 : w1.cell? ⟨w.heap.size + 1, 0, none⟩ = some (.slice none 0 0) := cell_below hb1 (by simp [go_sem])
  have c2 : w1.cell? ⟨w.heap.size + 1 + 1, 0, none⟩ = some (.slice none 0 0) := cell_below hb1 (by simp [go_sem])
  have f1 : w1.frozen? ⟨w.heap.size + 1, 0, none⟩ = false := by rw [hb1.frozen (p := ⟨w.heap.size + 1, 0, none⟩) (by simp)]; simp [go_sem]
  have f2 : w1.frozen? ⟨w.heap.size + 1 + 1, 0, none⟩ = false := by rw [hb1.frozen (p := ⟨w.heap.size + 1 + 1, 0, none⟩) (by simp)]; simp [go_sem]
  clear hb0 hb1
  go_wp2
  exact bodyPost_ret (v := .agg #[.slice (some ⟨g, 0, none⟩) is.length is.length]) (by simp [results, Tryz.results62, go_sem, c1]) rfl ⟨setCell_below (setCell_below hb (by omega) _) (by omega) _, g, rfl, by omega, (hr.setCell (by omega) _).setCell (by omega) _⟩
theorem toRecord_any (a la : Option Addr) (cap lc : Nat) (is : List I3) (gs : List G3) (out : ByteArray) (w : World) (rc : Row3 w a is) (rg : RowG w la gs) (h1 : is.length <= 1048576) (h2 : gs.length <= 1048576) :
    Calls Tryz.prog 20 #[.agg #[.slice a is.length cap, .slice la gs.length lc, .string out]] w fun e w' => Below w.heap.size w w' /\ ∃ g1 g2 : Nat, e = .returned (.agg #[.slice (some ⟨g1, 0, none⟩) is.length is.length, .slice (some ⟨g2, 0, none⟩) gs.length gs.length, .string out]) /\ Row3 w' (some ⟨g1, 0, none⟩) is /\ RowG w' (some ⟨g2, 0, none⟩) gs := by
  go_enter Tryz.func20, Tryz.ntmps20
  go_wp2_with fail
  have hb0 : Below w.heap.size w (((w.alloc (.cells #[.slice a is.length cap, .slice la gs.length lc, .string out] 50)).alloc (.cells #[.slice none 0 0, .slice none 0 0, .string ⟨#[]⟩] 63)).alloc (.cells #[.slice none 0 0, .slice none 0 0, .string ⟨#[]⟩] 63)) := (((Below.refl _ _).alloc (Nat.le_refl _) _).alloc (by simp) _).alloc (by simp; omega) _
  refine (toProgram_fresh a cap is _ (rc.below hb0) h1).mono ?_
  rintro e w1 ⟨hb1, g, rfl, hg, hr⟩
  simp at hg
  have hb : Below w.heap.size w w1 := hb0.trans (hb1.mono hb0.size)
  have hz := hb1.size
  simp at hz
  have c01 : w1.cell? ⟨w.heap.size, 1, none⟩ = some (.slice la gs.length lc) := cell_below hb1 (by simp [go_sem])
  have c02 : w1.cell? ⟨w.heap.size, 2, none⟩ = some (.string out) := cell_below hb1 (by simp [go_sem])
  have c10 : w1.cell? ⟨w.heap.size + 1, 0, none⟩ = some (.slice none 0 0) := cell_below hb1 (by simp [go_sem])
  have c11 : w1.cell? ⟨w.heap.size + 1, 1, none⟩ = some (.slice none 0 0) := cell_below hb1 (by simp [go_sem])
  have c12 : w1.cell? ⟨w.heap.size + 1, 2, none⟩ = some (.string ⟨#[]⟩) := cell_below hb1 (by simp [go_sem])
  have c20 : w1.cell? ⟨w.heap.size + 1 + 1, 0, none⟩ = some (.slice none 0 0) := cell_below hb1 (by simp [go_sem])
  have c21 : w1.cell? ⟨w.heap.size + 1 + 1, 1, none⟩ = some (.slice none 0 0) := cell_below hb1 (by simp [go_sem])
  have c22 : w1.cell? ⟨w.heap.size + 1 + 1, 2, none⟩ = some (.string ⟨#[]⟩) := cell_below hb1 (by simp [go_sem])
  have f1 : ∀ j, w1.frozen? ⟨w.heap.size + 1, j, none⟩ = false := fun j => by rw [hb1.frozen (p := ⟨w.heap.size + 1, j, none⟩) (by simp)]; simp [go_sem]
  have f2 : ∀ j, w1.frozen? ⟨w.heap.size + 1 + 1, j, none⟩ = false := fun j => by rw [hb1.frozen (p := ⟨w.heap.size + 1 + 1, j, none⟩) (by simp)]; simp [go_sem]
  clear hb0 hb1
  go_wp2_with fail
  have hbs : Below w.heap.size w (w1.setCell ⟨w.heap.size + 1 + 1, 0, none⟩ (.slice (some ⟨g, 0, none⟩) is.length is.length)) := hb.setCell (p := ⟨w.heap.size + 1 + 1, 0, none⟩) (by simp; omega) _
  refine (toGlanceS_any la lc gs _ (rg.below hbs) h2).mono ?_
  rintro e w2 ⟨hb2, g2, rfl, hg2, hg2', hr2⟩
  have hb3 : Below w.heap.size w w2 := hbs.trans (hb2.mono hbs.size)
  have hrs := (hr.setCell (b := w.heap.size + 1 + 1) (j := 0) (by omega) (.slice (some ⟨g, 0, none⟩) is.length is.length)).below hb2
  have hz2 := hb2.size
  simp at hz2
  simp at hg2
  have d02 : w2.cell? ⟨w.heap.size, 2, none⟩ = some (.string out) := cell_below hb2 (by simp [go_sem, c02])
  have d10 : w2.cell? ⟨w.heap.size + 1, 0, none⟩ = some (.slice none 0 0) := cell_below hb2 (by simp [go_sem, c10])
  have d11 : w2.cell? ⟨w.heap.size + 1, 1, none⟩ = some (.slice none 0 0) := cell_below hb2 (by simp [go_sem, c11])
  have d12 : w2.cell? ⟨w.heap.size + 1, 2, none⟩ = some (.string ⟨#[]⟩) := cell_below hb2 (by simp [go_sem, c12])
  have d20 : w2.cell? ⟨w.heap.size + 1 + 1, 0, none⟩ = some (.slice (some ⟨g, 0, none⟩) is.length is.length) := cell_below hb2 (by simp [go_sem, c20])
  have d21 : w2.cell? ⟨w.heap.size + 1 + 1, 1, none⟩ = some (.slice none 0 0) := cell_below hb2 (by simp [go_sem, c21])
  have d22 : w2.cell? ⟨w.heap.size + 1 + 1, 2, none⟩ = some (.string ⟨#[]⟩) := cell_below hb2 (by simp [go_sem, c22])
  have e1 : ∀ j, w2.frozen? ⟨w.heap.size + 1, j, none⟩ = false := fun j => by rw [hb2.frozen (p := ⟨w.heap.size + 1, j, none⟩) (by simp; omega)]; simp [go_sem, f1]
  have e2 : ∀ j, w2.frozen? ⟨w.heap.size + 1 + 1, j, none⟩ = false := fun j => by rw [hb2.frozen (p := ⟨w.heap.size + 1 + 1, j, none⟩) (by simp; omega)]; simp [go_sem, f2]
  clear hb2 hbs hb c01 c02 c10 c11 c12 c20 c21 c22 f1 f2 hr
  go_wp2
  refine bodyPost_ret (v := .agg #[.slice (some ⟨g, 0, none⟩) is.length is.length, .slice (some ⟨g2, 0, none⟩) gs.length gs.length, .string out]) (by simp [results, Tryz.results20, go_sem, d10, d11, d12]) rfl ⟨?_, g, g2, rfl, ?_, ?_⟩
  · exact ((((hb3.setCell (p := ⟨w.heap.size + 1 + 1, 1, none⟩) (by simp; omega) _).setCell (p := ⟨w.heap.size + 1 + 1, 2, none⟩) (by simp; omega) _).setCell (p := ⟨w.heap.size + 1, 0, none⟩) (by simp) _).setCell (p := ⟨w.heap.size + 1, 1, none⟩) (by simp) _).setCell (p := ⟨w.heap.size + 1, 2, none⟩) (by simp) _
  · exact ((((hrs.setCell (by omega) _).setCell (by omega) _).setCell (by omega) _).setCell (by omega) _).setCell (by omega) _
  · exact ((((hr2.setCell (by omega) _).setCell (by omega) _).setCell (by omega) _).setCell (by omega) _).setCell (by omega) _
theorem eqRecord_same (a a' la la' : Option Addr) (cap cap' lc lc' : Nat) (is : List I3) (gs : List G3) (out : ByteArray) (w : World) (rc : Row3 w a is) (rc' : Row3 w a' is) (rg : RowG w la gs) (rg' : RowG w la' gs) (h1 : is.length <= 1048576) (h2 : gs.length <= 1048576) :
    Calls Tryz.prog 23 #[.agg #[.slice a is.length cap, .slice la gs.length lc, .string out], .agg #[.slice a' is.length cap', .slice la' gs.length lc', .string out]] w fun e w' => Below w.heap.size w w' /\ e = .returned (.bool true) := by
  have hb0 : Below w.heap.size w ((w.alloc (.cells #[.slice a is.length cap, .slice la gs.length lc, .string out] 63)).alloc (.cells #[.slice a' is.length cap', .slice la' gs.length lc', .string out] 63)) := ((Below.refl _ _).alloc (Nat.le_refl _) _).alloc (by simp) _
  have k1 : ((w.alloc (.cells #[.slice a is.length cap, .slice la gs.length lc, .string out] 63)).alloc (.cells #[.slice a' is.length cap', .slice la' gs.length lc', .string out] 63)).cell? ⟨w.heap.size, 1, none⟩ = some (.slice la gs.length lc) := by simp [go_sem]
  have k2 : ((w.alloc (.cells #[.slice a is.length cap, .slice la gs.length lc, .string out] 63)).alloc (.cells #[.slice a' is.length cap', .slice la' gs.length lc', .string out] 63)).cell? ⟨w.heap.size, 2, none⟩ = some (.string out) := by simp [go_sem]
  have k3 : ((w.alloc (.cells #[.slice a is.length cap, .slice la gs.length lc, .string out] 63)).alloc (.cells #[.slice a' is.length cap', .slice la' gs.length lc', .string out] 63)).cell? ⟨w.heap.size + 1, 1, none⟩ = some (.slice la' gs.length lc') := by simp [go_sem]
  have k4 : ((w.alloc (.cells #[.slice a is.length cap, .slice la gs.length lc, .string out] 63)).alloc (.cells #[.slice a' is.length cap', .slice la' gs.length lc', .string out] 63)).cell? ⟨w.heap.size + 1, 2, none⟩ = some (.string out) := by simp [go_sem]
  have e1 := str_eq (rfl : out = out)
  go_enter Tryz.func23, Tryz.ntmps23
  go_wp2_with fail
  refine (eqProgram_same a a' cap cap' is _ (rc.below hb0) (rc'.below hb0) h1).mono ?_
  rintro e w1 ⟨hb1, rfl⟩
  have hB1 := bt hb0 hb1
  have c1 := cell_below hb1 k1
  have c2 := cell_below hb1 k2
  have c3 := cell_below hb1 k3
  have c4 := cell_below hb1 k4
  clear hb0 hb1 k1 k2 k3 k4
  go_wp2_with fail
  refine (eqGlanceS_same la la' lc lc' gs _ (rg.below hB1) (rg'.below hB1) h2).mono ?_
  rintro e w2 ⟨hb2, rfl⟩
  have hB2 := bt hB1 hb2
  have d2 := cell_below hb2 c2
  have d4 := cell_below hb2 c4
  clear hb2 hB1 c1 c2 c3 c4
  go_wp2
  go_ret
  exact ⟨hB2, rfl⟩
/-- The slice's address leads to the strings ss, in w. -/
def Strs (w : World) (a : Option Addr) (ss : List ByteArray) : Prop :=
  ∀ i, i < ss.length -> ∃ b off, a = some ⟨b, off, none⟩ /\ w.cell? ⟨b, off + i, none⟩ = some (.string (ss.getD i ByteArray.empty))
theorem Strs.below {w w' : World} {a : Option Addr} {ss : List ByteArray} (h : Strs w a ss) (hb : Below w.heap.size w w') : Strs w' a ss := by
  intro i hi
  obtain ⟨b, off, ha, hc⟩ := h i hi
  exact ⟨b, off, ha, (hb.cell (p := ⟨b, off + i, none⟩) (World.block_lt_of_cell? w _ hc)).trans hc⟩
theorem Strs.setCell {w : World} {g : Nat} {ss : List ByteArray} (h : Strs w (some ⟨g, 0, none⟩) ss) {b j : Nat} (hb : b ≠ g) (v : Value) : Strs (w.setCell ⟨b, j, none⟩ v) (some ⟨g, 0, none⟩) ss := by
  intro i hi
  obtain ⟨b', off, ha, h1⟩ := h i hi
  cases ha
  have e : ∀ o, (w.setCell ⟨b, j, none⟩ v).cell? ⟨g, o, none⟩ = w.cell? ⟨g, o, none⟩ := fun o => World.cell?_of_block (w := w) (Below.heap_setCell w ⟨b, j, none⟩ v g (fun e => hb e.symm))
  exact ⟨g, 0, rfl, by rw [e]; exact h1⟩
def total (ss : List ByteArray) : Nat := (ss.map ByteArray.size).sum
theorem total_take_succ (ss : List ByteArray) (k : Nat) (h : k < ss.length) : total (ss.take (k + 1)) = total (ss.take k) + (ss.getD k ByteArray.empty).size := by
  have e : ss.take (k + 1) = ss.take k ++ [ss[k]] := List.take_succ_eq_append_getElem h
  unfold total
  rw [e, List.map_append, List.sum_append, List.getD_eq_getElem?_getD, List.getElem?_eq_getElem h]
  simp
theorem getD_le {ss : List ByteArray} (h : ∀ s ∈ ss, s.size <= maxLen) (k : Nat) : (ss.getD k ByteArray.empty).size <= maxLen := by
  rw [List.getD_eq_getElem?_getD]
  cases hk : ss[k]? with
  | none => simp [maxLen]
  | some s => exact h s (List.mem_of_getElem? hk)
theorem szStringS_any (a : Option Addr) (cap : Nat) (ss : List ByteArray) (w : World) (hc : Strs w a ss) (hl : ss.length <= maxLen) (hs : ∀ s ∈ ss, s.size <= maxLen) (L : Int) (hL0 : 0 <= L) (hL : L <= 1048576) :
    Calls Tryz.prog 53 #[.slice a ss.length cap, .int .i64 L] w fun e w' => w = w' /\ ∃ r : Int, e = .returned (.int .i64 r) /\ (r < 0 \/ ((ss.length + total ss : Int) <= L /\ 0 <= r /\ r <= L)) := by
  have hs' := getD_le hs
  unfold maxLen at hl hs'
  by_cases h0 : (ss.length : Int) <= L
  · go_enter Tryz.func53, Tryz.ntmps53
    go_wp2
    go_loop [1, 5] (fun l i => ∃ k : Nat, k <= ss.length /\ i = .int .i64 k /\ l = .int .i64 (L - ss.length - total (ss.take k)) /\ (ss.length + total (ss.take k) : Int) <= L) (fun _ i => ss.length - (intOf i).toNat)
    case atStart => exact ⟨0, Nat.zero_le _, rfl, by simp [total], by simpa [total] using h0⟩
    case round =>
      obtain ⟨k, hk, rfl, rfl, ht⟩ := hrel
      by_cases hlt : k < ss.length
      · obtain ⟨b, off, rfl, hck⟩ := hc k hlt
        have hts := total_take_succ ss k hlt
        have hsk := hs' k
        clear hs'
        generalize ss.getD k ByteArray.empty = s at *
        have HT : Hid (total (ss.take (k + 1)) = total (ss.take k) + s.size) := hts
        clear hts
        by_cases hneg : L - ss.length - total (ss.take k) - s.size < 0
        · go_wp2
          go_ret
          exact ⟨rfl, -1, rfl, by omega⟩
        · go_wp2
          go_round
          case rel => exact ⟨k + 1, by omega, by go_num, by rw [HT.out]; go_num, by rw [HT.out]; omega⟩
          case measure => simp [intOf]; omega
      · go_wp2
        go_ret
        rw [List.take_of_length_le (show ss.length <= k by omega)] at ht ⊢
        exact ⟨rfl, _, rfl, by omega⟩
  · go_enter Tryz.func53, Tryz.ntmps53
    go_wp2
    go_ret
    exact ⟨rfl, -1, rfl, by omega⟩
theorem Tryz.info9 : (Tryz.prog.info? 9).map (fun i => (i.zero, i.size, i.bytes)) = some (some (.string ByteArray.empty), 1, 16) := by kernel_rfl
/-- The cells of a slice of strings of which the first k are filled. -/
def filled (ss : List ByteArray) (k n : Nat) : List Value := (ss.take k).map Value.string ++ List.replicate (n - k) (Value.string ByteArray.empty)
theorem filled_length (ss : List ByteArray) (k : Nat) (h : k <= ss.length) : (filled ss k ss.length).length = ss.length := by
  simp [filled]; omega
theorem filled_set (ss : List ByteArray) (k : Nat) (h : k < ss.length) : (filled ss k ss.length).set k (.string (ss.getD k ByteArray.empty)) = filled ss (k + 1) ss.length := by
  unfold filled
  have e : ss.take (k + 1) = ss.take k ++ [ss[k]] := List.take_succ_eq_append_getElem h
  have hr : List.replicate (ss.length - k) (Value.string ByteArray.empty) = Value.string ByteArray.empty :: List.replicate (ss.length - (k + 1)) (Value.string ByteArray.empty) := by
    rw [show ss.length - k = (ss.length - (k + 1)) + 1 by omega, List.replicate_succ]
  rw [e, hr, List.set_append_right _ _ (by simp; omega)]
  have hk : k - ((ss.take k).map Value.string).length = 0 := by simp; omega
  rw [hk, List.getD_eq_getElem?_getD, List.getElem?_eq_getElem h, List.map_append, List.append_assoc]
  rfl
theorem filled_get (ss : List ByteArray) (i : Nat) (h : i < ss.length) : (filled ss ss.length ss.length)[i]? = some (.string (ss.getD i ByteArray.empty)) := by
  simp [filled, List.getD_eq_getElem?_getD, List.getElem?_eq_getElem h]
theorem made_strings (n : Nat) : (madeCells (Value.string ByteArray.empty).cells (n * 1)).toList = List.replicate n (.string ByteArray.empty) := by
  apply List.ext_getElem?
  intro i
  by_cases h : i < n <;> simp [madeCells, Value.cells, h, Nat.mod_one]
theorem ownsRow_strs {w : World} {B g : Nat} {cap : Nat} {ss : List ByteArray} (h : w.ownsRow B 9 1 (.slice (some ⟨g, 0, none⟩) ss.length cap) ss.length (filled ss ss.length ss.length)) : Strs w (some ⟨g, 0, none⟩) ss := by
  intro i hi
  refine ⟨g, 0, rfl, ?_⟩
  rw [Nat.zero_add, h.cellAt i (by omega), filled_get ss i hi]
theorem toStringS_any (a : Option Addr) (cap : Nat) (ss : List ByteArray) (w : World) (hc : Strs w a ss) (hl : ss.length <= 1048576) :
    Calls Tryz.prog 60 #[.slice a ss.length cap] w fun e w' => Below w.heap.size w w' /\ ∃ g : Nat, e = .returned (.slice (some ⟨g, 0, none⟩) ss.length ss.length) /\ w.heap.size <= g /\ Strs w' (some ⟨g, 0, none⟩) ss := by
  obtain ⟨i0, hi, hz0, hz1, hz2⟩ := info_parts Tryz.info9
  go_enter Tryz.func60, Tryz.ntmps60
  go_wp2_with (first | (at_make; refine wpList_make_full _ rfl (.tmp 6) (.tmp 6) 30 rfl w.heap.size 9 i0 (.string ByteArray.empty) 1 Tryz.underlying30 hi hz0 hz1 .i64 .i64 _ _ ss.length rfl rfl rfl rfl (by rw [hz2]; omega) (by unfold maxLen; omega) (Nat.le_refl _) ?_; intro w1 hown hgrow))
  rw [made_strings] at hown
  have hbel1 : Below w.heap.size w w1 := (Below.refl _ _).grown hgrow (Nat.le_refl _) (by simp)
  clear hgrow
  go_loopw [4] (fun i wr => ∃ k : Nat, k <= ss.length /\ i = .int .i64 k /\ wr.ownsRow w.heap.size 9 1 (.slice (some ⟨w.heap.size, 0, none⟩) ss.length ss.length) ss.length (filled ss k ss.length) /\ Below w.heap.size w wr) (fun i _ => ss.length - (intOf i).toNat)
  case atStart => exact ⟨0, Nat.zero_le _, rfl, by simpa [filled] using hown, hbel1⟩
  case round =>
    obtain ⟨k, hk, rfl, hown, hbel⟩ := hrel
    by_cases hlt : k < ss.length
    · obtain ⟨b, off, rfl, hck⟩ := (hc.below hbel) k hlt
      have hst := hown.stored k (.string (ss.getD k ByteArray.empty))
      rw [filled_set ss k hlt] at hst
      have hfr := hown.frozenAt k
      have hce : wr.cell? ⟨w.heap.size, k, none⟩ = some ((filled ss k ss.length)[k]'(by rw [filled_length ss k hk]; exact hlt)) := by
        rw [hown.cellAt k (by omega)]; exact List.getElem?_eq_getElem _
      generalize (filled ss k ss.length)[k]'(by rw [filled_length ss k hk]; exact hlt) = old at hce
      generalize ss.getD k ByteArray.empty = s at *
      have hbel2 : Below w.heap.size w (wr.setCell ⟨w.heap.size, k, none⟩ (.string s)) := hbel.setCell (Nat.le_refl _) _
      clear hown hbel hbel1 hc
      go_wp2
      go_roundw
      case rel => exact ⟨k + 1, by omega, by go_num, hst.1, hbel2⟩
      case measure => simp [intOf]; omega
    · have ek : k = ss.length := by omega
      subst ek
      go_wp2
      go_ret
      exact ⟨hbel, _, rfl, Nat.le_refl _, ownsRow_strs hown⟩
theorem eqStringS_same (a a' : Option Addr) (cap cap' : Nat) (ss : List ByteArray) (w : World) (hc : Strs w a ss) (hc' : Strs w a' ss) (hl : ss.length <= 1048576) :
    Calls Tryz.prog 67 #[.slice a ss.length cap, .slice a' ss.length cap'] w fun e w' => Below w.heap.size w w' /\ e = .returned (.bool true) := by
  go_enter Tryz.func67, Tryz.ntmps67
  go_wp2
  go_loopw [5] (fun i wr => ∃ k : Nat, k <= ss.length /\ i = .int .i64 k /\ Below w.heap.size w wr) (fun i _ => ss.length - (intOf i).toNat)
  case atStart => exact ⟨0, Nat.zero_le _, rfl, Below.refl _ _⟩
  case round =>
    obtain ⟨k, hk, rfl, hbel⟩ := hrel
    by_cases hlt : k < ss.length
    · obtain ⟨b, off, rfl, hck⟩ := (hc.below hbel) k hlt
      obtain ⟨b', off', rfl, hck'⟩ := (hc'.below hbel) k hlt
      generalize ss.getD k ByteArray.empty = s at *
      clear hc hc'
      go_wp2
      go_region
      all_goals
        go_wp2
        go_roundw
        case rel => exact ⟨k + 1, by omega, by go_num, by repeat (first | exact hbel | apply Below.drew)⟩
        case measure => simp [intOf]; omega
    · go_wp2
      go_ret
      exact ⟨hbel, rfl⟩
end Go.Proofs.YtmeojnaoljgieaeGreatDoor
