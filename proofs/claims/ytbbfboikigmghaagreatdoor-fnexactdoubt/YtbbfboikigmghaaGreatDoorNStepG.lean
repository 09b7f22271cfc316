import Derived.Test.YtbbfboikigmghaaGreatDoorNStepF
namespace Go.Proofs.YtbbfboikigmghaaGreatDoor
open Go.RowKit
set_option linter.unusedVariables false
set_option maxHeartbeats 32000000
set_option maxRecDepth 100000
theorem step_end (a : Option Addr) (cap : Nat) (is : List I3) (s : St) (d : Nat) (cp : Nat) (ra : Option Addr) (rcap : Nat) (ys : List R3) (w : World) (hv : progOk is = true) (hs : StOk is s) (hcode : Row3 w a is) (hpl : s.pl < is.length) (hst2 : s.steps ≠ 2000) (hsk : StrA w (some ⟨d, 0, none⟩) s.stack) (hcp : s.stack.length <= cp) (tt0 : ByteArray) (n0 : Nat) (hop : ix is s.pl = ⟨15, tt0, n0⟩) (hfew : 1 <= s.stack.length) :
    Calls Tryz.prog 119 #[.agg #[.slice a is.length cap], runV s.pl (.slice (some ⟨d, 0, none⟩) s.stack.length cp) s.steps s.looks, .slice ra ys.length rcap] w fun e w' => Below w.heap.size w w' /\ StepPost w.heap.size is ys s w' e := by
  obtain ⟨o, tt, n, q, EI, ho1, ho2, ht, hn, hn2, hplI, hst3, HT, hlen, hp200, hst, hlk, hln, hb0, hR2, hR1, hz, hr, hc, EQ, HD⟩ := stA a cap (.slice (some ⟨d, 0, none⟩) s.stack.length cp) w hv hs hpl hst2
  unfold runV
  go_enter Tryz.func119, Tryz.ntmps119
  go_wp2_with fail
  refine (HD.out _).mono ?_
  rintro e w1 ⟨rfl, hb1⟩
  obtain ⟨W1, b, off, eW1, rfl, hB1, hz1, hr1, hc1, x0, fr, hBW, hzW, hrW, hcW, hl1, e1, e2, e3, xW, a1, a2, a3⟩ := stB hb0 hb1 hz hr hc hcode hpl EI
  clear hz hr hc hb0 hb1 HD
  obtain ⟨r0, r1, r2, r3, r4, r5, r6, r7, r8, r9⟩ := c10 hr1
  obtain ⟨y0, y1, y2, y3, y4, y5, y6, y7, y8, y9⟩ := c10 hrW
  obtain ⟨b0, b1, b2, b3, b4, b5, b6, b7, b8, b9⟩ := c10a hrW
  obtain ⟨htk2, hpt2⟩ := tp_le o ho2
  have hskW := hsk.below hBW
  obtain ⟨m, em⟩ : ∃ m, s.stack.length = m + 1 := ⟨s.stack.length - 1, by omega⟩
  obtain ⟨b2, off2, eb2, hk1⟩ := hskW m (by omega)
  simp only [Option.some.injEq, Addr.mk.injEq, and_true] at eb2
  obtain ⟨rfl, rfl⟩ := eb2
  rw [Nat.zero_add] at hk1
  have eo : o = 15 := by have h := EI.out.symm.trans hop; simp at h; omega
  subst eo
  clear HT htk2 hpt2
  have a1 : ∀ x, (W1.alloc x).cell? ⟨b, off + s.pl * 3, none⟩ = some (.int .i64 15) := a1
  have e1 : W1.cell? ⟨b, off + s.pl * 3, none⟩ = some (.int .i64 15) := e1
  have hk2 : ∀ x, (W1.alloc x).cell? ⟨d, m, none⟩ = some (.string (s.stack.getD m ByteArray.empty)) := fun x => by rw [World.cell?_alloc_lt _ _ _ (World.block_lt_of_cell? _ _ hk1)]; exact hk1
  obtain ⟨top, etop⟩ : ∃ top, s.stack.getD m ByteArray.empty = top := ⟨_, rfl⟩
  have TOPE : Hid (s.stack.getD m ByteArray.empty = top) := etop
  rw [etop] at hk1 hk2
  clear etop
  have hmI : (m : Int) + 1 <= 50 := by omega
  clear hop hn2 ho1 ho2
  have c1 : ∀ x y, ((W1.alloc x).alloc y).cell? ⟨w.heap.size + 1, 1, none⟩ = some (.slice (some ⟨d, 0, none⟩) s.stack.length cp) := fun x y => by rw [World.cell?_alloc_lt _ _ _ (World.block_lt_of_cell? _ _ (b1 x))]; exact b1 x
  rw [em] at c1
  obtain ⟨i0, hi, hz0, hzz1, hzz2⟩ := info_parts Tryz.info9b
  have hWW : w.heap.size <= W1.heap.size := hBW.size
  have hne1 : w1.heap.size ≠ w.heap.size + 1 := by have := blk_lt hz1; omega
  have hne2 : w.heap.size + 1 ≠ w1.heap.size := fun h => hne1 h.symm
  have HTOP : Hid (step0 is s = .over 0 top (s.steps + 1)) := by
    have h1 := (st_ins hpl hst2 EI.out).trans (ins_end (o := 15) (by rw [show takesN 15 = 1 from rfl]; omega) rfl)
    rw [show topB s.stack = top from by unfold topB; rw [em, Nat.add_sub_cancel]; exact TOPE.out] at h1
    exact h1
  have hown0 : ((W1.alloc (.cells #[.int .i64 15, .string tt, .int .i64 n] 138)).alloc (.cells #[] 9)).ownsRow w.heap.size 9 1 (.slice (some ⟨w1.heap.size + 1, 0, none⟩) 0 0) 0 [] := by
    have h := World.ownsRow_lit (base := w.heap.size) (e := 9) (size := 1) (W1.alloc (.cells #[.int .i64 15, .string tt, .int .i64 n] 138)) #[] 0 (by simp; omega) (by unfold maxLen; omega) (by simp)
    rw [show (W1.alloc (.cells #[.int .i64 15, .string tt, .int .i64 n] 138)).heap.size = w1.heap.size + 1 from by simp [hl1]] at h
    exact h
  have hnews : ∀ j u, ((s.stack.take m).map Value.string)[j]? = some u -> ((W1.alloc (.cells #[.int .i64 15, .string tt, .int .i64 n] 138)).alloc (.cells #[] 9)).cell? ((⟨d, 0, none⟩ : Addr).add j) = some u := fun j u hu => by
    rw [List.getElem?_map] at hu
    have hj : j < m := by
      rcases Nat.lt_or_ge j m with h | h
      · exact h
      · rw [List.getElem?_eq_none (by simp; omega)] at hu; simp at hu
    obtain ⟨b3, off3, eb3, hk3⟩ := hskW j (by omega)
    simp only [Option.some.injEq, Addr.mk.injEq, and_true] at eb3
    obtain ⟨rfl, rfl⟩ := eb3
    rw [Addr.add_lit, World.cell?_alloc_lt _ _ _ (Nat.lt_trans (World.block_lt_of_cell? _ _ hk3) (by simp)), World.cell?_alloc_lt _ _ _ (World.block_lt_of_cell? _ _ hk3), hk3, <- hu, List.getElem?_take, if_pos hj, List.getD_eq_getElem?_getD, List.getElem?_eq_getElem (show j < s.stack.length by omega)]
    rfl
  have hz3 : (W1.alloc (.cells #[.int .i64 15, .string tt, .int .i64 n] 138)).heap[w.heap.size + 1 + 1]? = some zR := by rw [Lib.alloc_old _ _ _ (blk_lt hzW)]; exact hzW
  have hr3 : (W1.alloc (.cells #[.int .i64 15, .string tt, .int .i64 n] 138)).heap[w.heap.size + 1]? = some (rR s.pl d s.stack.length cp ((s.steps : Int) + 1) s.looks) := by rw [Lib.alloc_old _ _ _ (blk_lt hrW)]; exact hrW
  have hi3 : (W1.alloc (.cells #[.int .i64 15, .string tt, .int .i64 n] 138)).heap[w1.heap.size]? = some (.cells #[.int .i64 15, .string tt, .int .i64 n] 138 (0, 0)) := by rw [<- hl1]; exact heap_new _ _
  have hB3 : Below w.heap.size w (W1.alloc (.cells #[.int .i64 15, .string tt, .int .i64 n] 138)) := hBW.alloc hWW _
  have HM : Hid (∀ (b' : Nat) (cs' : Array Value) (T' : Nat), T' ≠ 9 -> (W1.alloc (.cells #[.int .i64 15, .string tt, .int .i64 n] 138)).heap[b']? = some (.cells cs' T' (0, 0)) -> some b' ≠ (Value.slice (some ⟨w1.heap.size + 1, 0, none⟩) 0 0).ownBlock) := fun b' cs' T' hT' hb' => cells_ne hT' (by rw [Lib.alloc_old _ _ _ (blk_lt hb')]; exact hb') hown0
  go_wp2_with (first | (go_at_call 133; refine (l2Takes_15 _).mono ?_; rintro e w9 ⟨rfl, rfl⟩) | (at_builtin; refine wpList_append_own _ rfl (.tmp 87) (.tmp 95) 22 rfl w.heap.size 9 i0 (.string ⟨#[]⟩) 1 16 Tryz.underlying22 hi hz0 hzz1 hzz2 rfl (by decide) _ 0 [] rfl hown0 ⟨d, 0, none⟩ m cp ((s.stack.take m).map .string) rfl (by simp; omega) hnews (by intro u hu; obtain ⟨z, _, rfl⟩ := List.mem_map.mp hu; rfl) (by unfold maxLen; omega) (by omega) (by simp; omega) ?_; intro v' w2 hown' hgrow hnil; clear hnil; have q1 := keep_grown hgrow HM.out _ _ 199 (by decide) hr3; have q2 := keep_grown hgrow HM.out _ _ 199 (by decide) hz3; have q3 := keep_grown hgrow HM.out _ _ 138 (by decide) hi3; have hbB : Below w.heap.size w w2 := (hB3.alloc (by simp; omega) _).grown hgrow (by simp; omega) (fun k hk => (hown0.lt k hk).1);  have p0 := Lib.cell_of_heap q1 0; have p1 := Lib.cell_of_heap q1 1; have p2 := Lib.cell_of_heap q1 2; have p3 := Lib.cell_of_heap q1 3; have p4 := Lib.cell_of_heap q1 4; have p5 := Lib.cell_of_heap q1 5; have p6 := Lib.cell_of_heap q1 6; have p7 := Lib.cell_of_heap q1 7; have p8 := Lib.cell_of_heap q1 8; have p9 := Lib.cell_of_heap q1 9; simp only [List.getElem?_toArray, List.getElem?_cons_zero, List.getElem?_cons_succ] at p0 p1 p2 p3 p4 p5 p6 p7 p8 p9; have p61 : w2.cell? ⟨w1.heap.size, 0, none⟩ = some (.int .i64 15) := (by rw [Lib.cell_of_heap q3]; rfl); have fq : ∀ j, w2.frozen? ⟨w.heap.size + 1, j, none⟩ = false := (fun j => Lib.frozen_of_heap q1 j); have Q1 : Hid _ := q1; have Q2 : Hid (w2.heap[w.heap.size + 1 + 1]? = some zR) := q2; clear q1 q2 q3 hown' hgrow))
  have hB5 : Below w.heap.size w (w2.setCell ⟨w.heap.size + 1, 0, none⟩ (.int .i64 ((s.pl : Int) + 1))) := hbB.setCell (p := ⟨w.heap.size + 1, 0, none⟩) hR1 _
  have hz5 : (w2.setCell ⟨w.heap.size + 1, 0, none⟩ (.int .i64 ((s.pl : Int) + 1))).heap[w.heap.size + 1 + 1]? = some zR := by rw [Below.heap_setCell w2 ⟨w.heap.size + 1, 0, none⟩ _ _ (by simp)]; exact Q2.out
  have hl := l2End_any ((s.pl : Int) + 1) (some ⟨d, 0, none⟩) (m + 1) cp ((s.steps : Int) + 1) s.looks 0 top
  unfold runV at hl
  refine (hl _).mono ?_
  rintro e w4 ⟨rfl, hb4⟩
  have hB2 : Below w.heap.size w w4 := bN hB5 hb4
  have hz2 := blkB hb4 hz5
  obtain ⟨z0, z1, z2, z3, z4, z5, z6, z7, z8, z9⟩ := c10 hz2
  have fz : ∀ j, w4.frozen? ⟨w.heap.size + 1 + 1, j, none⟩ = false := fun j => Lib.frozen_of_heap hz2 j
  clear hz2 hb4 hl
  unfold overV
  go_wp2_with fail
  exact bodyPost_ret (v := overV ((s.pl : Int) + 1) (.slice (some ⟨d, 0, none⟩) (m + 1) cp) ((s.steps : Int) + 1) s.looks 0 top) (by simp [results, Tryz.results119, go_sem, overV, z0, z1, z2, z3, z4, z5, z6, z7, z8, z9]) rfl ⟨((((((((((hB2).setCell (p := ⟨w.heap.size + 1 + 1, 0, none⟩) hR2 _).setCell (p := ⟨w.heap.size + 1 + 1, 1, none⟩) hR2 _).setCell (p := ⟨w.heap.size + 1 + 1, 2, none⟩) hR2 _).setCell (p := ⟨w.heap.size + 1 + 1, 3, none⟩) hR2 _).setCell (p := ⟨w.heap.size + 1 + 1, 4, none⟩) hR2 _).setCell (p := ⟨w.heap.size + 1 + 1, 5, none⟩) hR2 _).setCell (p := ⟨w.heap.size + 1 + 1, 6, none⟩) hR2 _).setCell (p := ⟨w.heap.size + 1 + 1, 7, none⟩) hR2 _).setCell (p := ⟨w.heap.size + 1 + 1, 8, none⟩) hR2 _).setCell (p := ⟨w.heap.size + 1 + 1, 9, none⟩) hR2 _, Or.inl ⟨0, top, s.steps + 1, HTOP.out, _, _, _, _, _, rfl⟩⟩
theorem step_fail (a : Option Addr) (cap : Nat) (is : List I3) (s : St) (d : Nat) (cp : Nat) (ra : Option Addr) (rcap : Nat) (ys : List R3) (w : World) (hv : progOk is = true) (hs : StOk is s) (hcode : Row3 w a is) (hpl : s.pl < is.length) (hst2 : s.steps ≠ 2000) (hsk : StrA w (some ⟨d, 0, none⟩) s.stack) (hcp : s.stack.length <= cp) (tt0 : ByteArray) (n0 : Nat) (hop : ix is s.pl = ⟨14, tt0, n0⟩) (hfew : 1 <= s.stack.length) :
    Calls Tryz.prog 119 #[.agg #[.slice a is.length cap], runV s.pl (.slice (some ⟨d, 0, none⟩) s.stack.length cp) s.steps s.looks, .slice ra ys.length rcap] w fun e w' => Below w.heap.size w w' /\ StepPost w.heap.size is ys s w' e := by
  obtain ⟨o, tt, n, q, EI, ho1, ho2, ht, hn, hn2, hplI, hst3, HT, hlen, hp200, hst, hlk, hln, hb0, hR2, hR1, hz, hr, hc, EQ, HD⟩ := stA a cap (.slice (some ⟨d, 0, none⟩) s.stack.length cp) w hv hs hpl hst2
  unfold runV
  go_enter Tryz.func119, Tryz.ntmps119
  go_wp2_with fail
  refine (HD.out _).mono ?_
  rintro e w1 ⟨rfl, hb1⟩
  obtain ⟨W1, b, off, eW1, rfl, hB1, hz1, hr1, hc1, x0, fr, hBW, hzW, hrW, hcW, hl1, e1, e2, e3, xW, a1, a2, a3⟩ := stB hb0 hb1 hz hr hc hcode hpl EI
  clear hz hr hc hb0 hb1 HD
  obtain ⟨r0, r1, r2, r3, r4, r5, r6, r7, r8, r9⟩ := c10 hr1
  obtain ⟨y0, y1, y2, y3, y4, y5, y6, y7, y8, y9⟩ := c10 hrW
  obtain ⟨b0, b1, b2, b3, b4, b5, b6, b7, b8, b9⟩ := c10a hrW
  obtain ⟨htk2, hpt2⟩ := tp_le o ho2
  have hskW := hsk.below hBW
  obtain ⟨m, em⟩ : ∃ m, s.stack.length = m + 1 := ⟨s.stack.length - 1, by omega⟩
  obtain ⟨b2, off2, eb2, hk1⟩ := hskW m (by omega)
  simp only [Option.some.injEq, Addr.mk.injEq, and_true] at eb2
  obtain ⟨rfl, rfl⟩ := eb2
  rw [Nat.zero_add] at hk1
  have eo : o = 14 := by have h := EI.out.symm.trans hop; simp at h; omega
  subst eo
  clear HT htk2 hpt2
  have a1 : ∀ x, (W1.alloc x).cell? ⟨b, off + s.pl * 3, none⟩ = some (.int .i64 14) := a1
  have e1 : W1.cell? ⟨b, off + s.pl * 3, none⟩ = some (.int .i64 14) := e1
  have hk2 : ∀ x, (W1.alloc x).cell? ⟨d, m, none⟩ = some (.string (s.stack.getD m ByteArray.empty)) := fun x => by rw [World.cell?_alloc_lt _ _ _ (World.block_lt_of_cell? _ _ hk1)]; exact hk1
  obtain ⟨top, etop⟩ : ∃ top, s.stack.getD m ByteArray.empty = top := ⟨_, rfl⟩
  have TOPE : Hid (s.stack.getD m ByteArray.empty = top) := etop
  rw [etop] at hk1 hk2
  clear etop
  have hmI : (m : Int) + 1 <= 50 := by omega
  clear hop hn2 ho1 ho2
  have c1 : ∀ x y, ((W1.alloc x).alloc y).cell? ⟨w.heap.size + 1, 1, none⟩ = some (.slice (some ⟨d, 0, none⟩) s.stack.length cp) := fun x y => by rw [World.cell?_alloc_lt _ _ _ (World.block_lt_of_cell? _ _ (b1 x))]; exact b1 x
  rw [em] at c1
  obtain ⟨i0, hi, hz0, hzz1, hzz2⟩ := info_parts Tryz.info9b
  have hWW : w.heap.size <= W1.heap.size := hBW.size
  have hne1 : w1.heap.size ≠ w.heap.size + 1 := by have := blk_lt hz1; omega
  have hne2 : w.heap.size + 1 ≠ w1.heap.size := fun h => hne1 h.symm
  have HTOP : Hid (step0 is s = .over 1 top (s.steps + 1)) := by
    have h1 := (st_ins hpl hst2 EI.out).trans (ins_fail (o := 14) (by rw [show takesN 14 = 1 from rfl]; omega) rfl)
    rw [show topB s.stack = top from by unfold topB; rw [em, Nat.add_sub_cancel]; exact TOPE.out] at h1
    exact h1
  have hown0 : ((W1.alloc (.cells #[.int .i64 14, .string tt, .int .i64 n] 138)).alloc (.cells #[] 9)).ownsRow w.heap.size 9 1 (.slice (some ⟨w1.heap.size + 1, 0, none⟩) 0 0) 0 [] := by
    have h := World.ownsRow_lit (base := w.heap.size) (e := 9) (size := 1) (W1.alloc (.cells #[.int .i64 14, .string tt, .int .i64 n] 138)) #[] 0 (by simp; omega) (by unfold maxLen; omega) (by simp)
    rw [show (W1.alloc (.cells #[.int .i64 14, .string tt, .int .i64 n] 138)).heap.size = w1.heap.size + 1 from by simp [hl1]] at h
    exact h
  have hnews : ∀ j u, ((s.stack.take m).map Value.string)[j]? = some u -> ((W1.alloc (.cells #[.int .i64 14, .string tt, .int .i64 n] 138)).alloc (.cells #[] 9)).cell? ((⟨d, 0, none⟩ : Addr).add j) = some u := fun j u hu => by
    rw [List.getElem?_map] at hu
    have hj : j < m := by
      rcases Nat.lt_or_ge j m with h | h
      · exact h
      · rw [List.getElem?_eq_none (by simp; omega)] at hu; simp at hu
    obtain ⟨b3, off3, eb3, hk3⟩ := hskW j (by omega)
    simp only [Option.some.injEq, Addr.mk.injEq, and_true] at eb3
    obtain ⟨rfl, rfl⟩ := eb3
    rw [Addr.add_lit, World.cell?_alloc_lt _ _ _ (Nat.lt_trans (World.block_lt_of_cell? _ _ hk3) (by simp)), World.cell?_alloc_lt _ _ _ (World.block_lt_of_cell? _ _ hk3), hk3, <- hu, List.getElem?_take, if_pos hj, List.getD_eq_getElem?_getD, List.getElem?_eq_getElem (show j < s.stack.length by omega)]
    rfl
  have hz3 : (W1.alloc (.cells #[.int .i64 14, .string tt, .int .i64 n] 138)).heap[w.heap.size + 1 + 1]? = some zR := by rw [Lib.alloc_old _ _ _ (blk_lt hzW)]; exact hzW
  have hr3 : (W1.alloc (.cells #[.int .i64 14, .string tt, .int .i64 n] 138)).heap[w.heap.size + 1]? = some (rR s.pl d s.stack.length cp ((s.steps : Int) + 1) s.looks) := by rw [Lib.alloc_old _ _ _ (blk_lt hrW)]; exact hrW
  have hi3 : (W1.alloc (.cells #[.int .i64 14, .string tt, .int .i64 n] 138)).heap[w1.heap.size]? = some (.cells #[.int .i64 14, .string tt, .int .i64 n] 138 (0, 0)) := by rw [<- hl1]; exact heap_new _ _
  have hB3 : Below w.heap.size w (W1.alloc (.cells #[.int .i64 14, .string tt, .int .i64 n] 138)) := hBW.alloc hWW _
  have HM : Hid (∀ (b' : Nat) (cs' : Array Value) (T' : Nat), T' ≠ 9 -> (W1.alloc (.cells #[.int .i64 14, .string tt, .int .i64 n] 138)).heap[b']? = some (.cells cs' T' (0, 0)) -> some b' ≠ (Value.slice (some ⟨w1.heap.size + 1, 0, none⟩) 0 0).ownBlock) := fun b' cs' T' hT' hb' => cells_ne hT' (by rw [Lib.alloc_old _ _ _ (blk_lt hb')]; exact hb') hown0
  go_wp2_with (first | (go_at_call 133; refine (l2Takes_14 _).mono ?_; rintro e w9 ⟨rfl, rfl⟩) | (at_builtin; refine wpList_append_own _ rfl (.tmp 87) (.tmp 95) 22 rfl w.heap.size 9 i0 (.string ⟨#[]⟩) 1 16 Tryz.underlying22 hi hz0 hzz1 hzz2 rfl (by decide) _ 0 [] rfl hown0 ⟨d, 0, none⟩ m cp ((s.stack.take m).map .string) rfl (by simp; omega) hnews (by intro u hu; obtain ⟨z, _, rfl⟩ := List.mem_map.mp hu; rfl) (by unfold maxLen; omega) (by omega) (by simp; omega) ?_; intro v' w2 hown' hgrow hnil; clear hnil; have q1 := keep_grown hgrow HM.out _ _ 199 (by decide) hr3; have q2 := keep_grown hgrow HM.out _ _ 199 (by decide) hz3; have q3 := keep_grown hgrow HM.out _ _ 138 (by decide) hi3; have hbB : Below w.heap.size w w2 := (hB3.alloc (by simp; omega) _).grown hgrow (by simp; omega) (fun k hk => (hown0.lt k hk).1);  have p0 := Lib.cell_of_heap q1 0; have p1 := Lib.cell_of_heap q1 1; have p2 := Lib.cell_of_heap q1 2; have p3 := Lib.cell_of_heap q1 3; have p4 := Lib.cell_of_heap q1 4; have p5 := Lib.cell_of_heap q1 5; have p6 := Lib.cell_of_heap q1 6; have p7 := Lib.cell_of_heap q1 7; have p8 := Lib.cell_of_heap q1 8; have p9 := Lib.cell_of_heap q1 9; simp only [List.getElem?_toArray, List.getElem?_cons_zero, List.getElem?_cons_succ] at p0 p1 p2 p3 p4 p5 p6 p7 p8 p9; have p61 : w2.cell? ⟨w1.heap.size, 0, none⟩ = some (.int .i64 14) := (by rw [Lib.cell_of_heap q3]; rfl); have fq : ∀ j, w2.frozen? ⟨w.heap.size + 1, j, none⟩ = false := (fun j => Lib.frozen_of_heap q1 j); have Q1 : Hid _ := q1; have Q2 : Hid (w2.heap[w.heap.size + 1 + 1]? = some zR) := q2; clear q1 q2 q3 hown' hgrow))
  have hB5 : Below w.heap.size w (w2.setCell ⟨w.heap.size + 1, 0, none⟩ (.int .i64 ((s.pl : Int) + 1))) := hbB.setCell (p := ⟨w.heap.size + 1, 0, none⟩) hR1 _
  have hz5 : (w2.setCell ⟨w.heap.size + 1, 0, none⟩ (.int .i64 ((s.pl : Int) + 1))).heap[w.heap.size + 1 + 1]? = some zR := by rw [Below.heap_setCell w2 ⟨w.heap.size + 1, 0, none⟩ _ _ (by simp)]; exact Q2.out
  have hl := l2End_any ((s.pl : Int) + 1) (some ⟨d, 0, none⟩) (m + 1) cp ((s.steps : Int) + 1) s.looks 1 top
  unfold runV at hl
  refine (hl _).mono ?_
  rintro e w4 ⟨rfl, hb4⟩
  have hB2 : Below w.heap.size w w4 := bN hB5 hb4
  have hz2 := blkB hb4 hz5
  obtain ⟨z0, z1, z2, z3, z4, z5, z6, z7, z8, z9⟩ := c10 hz2
  have fz : ∀ j, w4.frozen? ⟨w.heap.size + 1 + 1, j, none⟩ = false := fun j => Lib.frozen_of_heap hz2 j
  clear hz2 hb4 hl
  unfold overV
  go_wp2_with fail
  exact bodyPost_ret (v := overV ((s.pl : Int) + 1) (.slice (some ⟨d, 0, none⟩) (m + 1) cp) ((s.steps : Int) + 1) s.looks 1 top) (by simp [results, Tryz.results119, go_sem, overV, z0, z1, z2, z3, z4, z5, z6, z7, z8, z9]) rfl ⟨((((((((((hB2).setCell (p := ⟨w.heap.size + 1 + 1, 0, none⟩) hR2 _).setCell (p := ⟨w.heap.size + 1 + 1, 1, none⟩) hR2 _).setCell (p := ⟨w.heap.size + 1 + 1, 2, none⟩) hR2 _).setCell (p := ⟨w.heap.size + 1 + 1, 3, none⟩) hR2 _).setCell (p := ⟨w.heap.size + 1 + 1, 4, none⟩) hR2 _).setCell (p := ⟨w.heap.size + 1 + 1, 5, none⟩) hR2 _).setCell (p := ⟨w.heap.size + 1 + 1, 6, none⟩) hR2 _).setCell (p := ⟨w.heap.size + 1 + 1, 7, none⟩) hR2 _).setCell (p := ⟨w.heap.size + 1 + 1, 8, none⟩) hR2 _).setCell (p := ⟨w.heap.size + 1 + 1, 9, none⟩) hR2 _, Or.inl ⟨1, top, s.steps + 1, HTOP.out, _, _, _, _, _, rfl⟩⟩
end Go.Proofs.YtbbfboikigmghaaGreatDoor
