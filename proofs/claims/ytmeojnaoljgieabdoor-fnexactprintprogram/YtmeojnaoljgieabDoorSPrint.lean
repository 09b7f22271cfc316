/-
  The walk of spec.PrintProgram.
-/
import Derived.Test.YtmeojnaoljgieabDoorSLine
namespace Go.Proofs.YtmeojnaoljgieabDoor
open Go.RowKit
set_option linter.unusedVariables false

theorem str_bcells (l : List UInt8) : Lib.strCells ⟨l.toArray⟩ = bcells l := by simp [Lib.strCells, bcells]

theorem shape_ne {w : World} {B n : Nat} {v : Value} {xs : List Value} (h : w.ownsRow B 5 1 v n xs) (hne : v ≠ .slice none 0 0) : ∃ g cap, v = .slice (some ⟨g, 0, none⟩) n cap ∧ B ≤ g ∧ w.ownsRow B 5 1 (.slice (some ⟨g, 0, none⟩) n cap) n xs := by
  rcases h.2 with ⟨h0, _⟩ | ⟨g, cap, cur, hv, hg, _⟩
  · exact absurd h0 hne
  · exact ⟨g, cap, hv, hg, by rw [← hv]; exact h⟩

set_option maxRecDepth 100000 in
set_option maxHeartbeats 2000000 in
theorem specPrint_any (a : Option Addr) (cap : Nat) (is : List I3) (w : World) (hc : Row3 w a is) (hl : is.length ≤ 1048576) (hs : ∀ i, (ix is i).text.size ≤ 9223372036854775807) :
    Calls Tryd.prog 7 #[.agg #[.slice a is.length cap]] w fun e w' => e = .returned (.string (if progOk is then ⟨(printL is is.length).toArray⟩ else ⟨#[]⟩)) ∧ Below w.heap.size w w' := by
  obtain ⟨i0, hi, hz0, hz1, hz2⟩ := info_parts Tryd.info5b
  have hb0 : Below w.heap.size w (w.alloc (.cells #[.slice a is.length cap] 29)) := (Below.refl _ _).alloc (Nat.le_refl _) _
  by_cases hok : progOk is = true
  · rw [if_pos hok]
    have hok' := hok
    simp only [progOk, Bool.and_eq_true, decide_eq_true_eq] at hok'
    obtain ⟨⟨hl1, hl2⟩, hall⟩ := hok'
    have HA : Hid (∀ i, i < is.length → insOk (ix is i) = true) := hall
    have HPL : Hid (∀ k, k ≤ is.length → (printL is k).length ≤ 6101 * k) := printL_length hall
    clear hall
    go_enter Tryd.func7, Tryd.ntmps7
    go_wp2_with fail
    refine (specValid_any a cap is _ (hc.below hb0) hl hs).mono ?_
    rintro e w1 ⟨hb1, rfl⟩
    have hB1 : Below w.heap.size w w1 := hb0.trans (hb1.mono hb0.size)
    have hcs : w1.cell? ⟨w.heap.size, 0, none⟩ = some (.slice a is.length cap) := cell_below hb1 (by simp [go_sem])
    have hzw : w.heap.size < w1.heap.size := World.block_lt_of_cell? _ _ hcs
    clear hb0 hb1
    go_wp2
    go_loopw [3, 4] (fun o i wr => ∃ k g cap' : Nat, k ≤ is.length ∧ i = .int .i64 k ∧ o = .slice (some ⟨g, 0, none⟩) (printL is k).length cap' ∧ w1.heap.size ≤ g ∧
      wr.ownsRow w1.heap.size 5 1 (.slice (some ⟨g, 0, none⟩) (printL is k).length cap') (printL is k).length (bcells (printL is k)) ∧ Below w1.heap.size w1 wr) (fun _ i _ => is.length - (intOf i).toNat)
    case atStart =>
      refine ⟨0, w1.heap.size, 0, Nat.zero_le _, rfl, by simp [printL], Nat.le_refl _, ?_, (Below.refl _ _).alloc (Nat.le_refl _) _⟩
      have := World.ownsRow_lit (base := w1.heap.size) (e := 5) (size := 1) w1 #[] 0 (Nat.le_refl _) (by unfold maxLen; omega) (by simp)
      simpa [printL, bcells] using this
    case round =>
      obtain ⟨k, g, cap', hk, rfl, rfl, hg, hown, hB⟩ := hrel
      have hsr := hB.size
      have hcr := cell_below hB hcs
      by_cases hlt : k < is.length
      · obtain ⟨b, off, rfl, c1, c2, c3⟩ := (hc.below (hB1.trans (hB.mono hB1.size))) k hlt
        have hik := HA.out k hlt
        have hps := printL_succ is k
        have hll := lineL_length hik
        have hpk := HPL.out k (by omega)
        obtain ⟨i, hi'⟩ : ∃ i, i = ix is k := ⟨_, rfl⟩
        rw [← hi'] at c1 c2 c3 hik hps hll
        have HPS : Hid (printL is (k + 1) = printL is k ++ (lineL i ++ [10])) := hps
        have HLN : Hid (∀ w, Calls Tryd.prog 24 #[.agg #[.int .i64 i.op, .string i.text, .int .i64 i.n]] w fun e w' => e = .returned (.string ⟨(lineL i).toArray⟩) ∧ Below w.heap.size w w') := fun w => l2Line_any i w hik
        have hsz : (⟨(lineL i).toArray⟩ : ByteArray).size = (lineL i).length := by
          show (lineL i).toArray.size = _
          rw [List.size_toArray]
        have hsc := str_bcells (lineL i)
        generalize hL : printL is k = L at *
        clear hL hi' hps hik hc hs hcs
        go_wp2_with fail
        refine (HLN.out _).mono ?_
        rintro e w2 ⟨rfl, hb2⟩
        have hb2' : Below wr.heap.size wr w2 := hb2
        have hown1 := ownsRow_below hown hb2'
        have hB2 : Below w1.heap.size w1 w2 := hB.trans (hb2'.mono hB.size)
        have hs2 := hB2.size
        clear hb2 hb2' hown hB
        go_wp2_with (first | (at_builtin; refine Lib.wpList_append_own_string _ rfl (.tmp 16) (.tmp 22) 58 9 rfl w1.heap.size 5 i0 Tryd.underlying58 Tryd.underlying9 hi hz0 hz1 hz2 _ _ _ rfl hown1 ⟨(lineL i).toArray⟩ rfl (by rw [hsz]; unfold maxLen; omega) (by rw [hsz]; omega) hs2 ?_; intro v' w3 hown' hgrow hnil; rw [hsz, hsc, ← bcells_append] at hown'; obtain ⟨g3, cap3, hv', hg3, hown3⟩ := shape_ne hown' (by intro hh; have h9 : Value.slice (some ⟨g, 0, none⟩) L.length cap' = .slice none 0 0 := (hnil.1 hh).1; injection h9 with h9; cases h9); have hB3 := hB2.grown hgrow hs2 (by intro k hk; cases hk; exact hg); have hs3 := hB3.size; clear hown' hnil hgrow; rw [hv']; clear hv') | (at_builtin; refine wpList_append_own _ rfl (.tmp 23) (.tmp 24) 58 rfl w1.heap.size 5 i0 (.int .u8 0) 1 1 Tryd.underlying58 hi hz0 hz1 hz2 rfl (by decide) _ _ _ rfl (hown3.alloc _) ⟨w3.heap.size, 0, none⟩ 1 1 [.int .u8 10] rfl rfl (cell_one_new _ _ _) (by intro u hu; simp at hu; subst hu; rfl) (by unfold maxLen; omega) (by omega) (by simp; omega) ?_; intro v' w4 hown' hgrow hnil; obtain ⟨g4, cap4, hv', hg4, hown4⟩ := shape_of hown' (by omega); have hB4 := (hB3.alloc hs3 _).grown hgrow (by simp; omega) (by intro k hk; cases hk; exact hg3); clear hown' hnil hgrow; rw [hv']; clear hv'))
        go_roundw
        case rel =>
          refine ⟨k + 1, g4, cap4, by omega, by go_num, ?_, hg4, ?_, hB4⟩
          · rw [HPS.out]; simp [Nat.add_assoc]
          · rw [HPS.out]; simpa [bcells, Nat.add_assoc] using hown4
        case measure => simp [intOf]; omega
      · have ek : k = is.length := by omega
        subst ek
        have hcv := conv_row (W := wr) (g := g) (cap := cap') (B := w1.heap.size) _ rfl hown
        go_wp2
        go_ret
        exact ⟨rfl, hB1.trans (hB.mono hB1.size)⟩
  · rw [if_neg hok]
    have hf : progOk is = false := by simpa using hok
    clear hok
    go_enter Tryd.func7, Tryd.ntmps7
    go_wp2_with fail
    refine (specValid_any a cap is _ (hc.below hb0) hl hs).mono ?_
    rintro e w1 ⟨hb1, rfl⟩
    go_wp2
    go_ret
    exact ⟨rfl, hb0.trans (hb1.mono hb0.size)⟩

end Go.Proofs.YtmeojnaoljgieabDoor
