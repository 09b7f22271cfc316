import Derived.Test.YtbbfboikigmghaaGreatDoorNStepJ
namespace Go.Proofs.YtbbfboikigmghaaGreatDoor
open Go.RowKit
set_option linter.unusedVariables false
set_option maxHeartbeats 32000000
set_option maxRecDepth 100000
theorem step_op1 (a : Option Addr) (cap : Nat) (is : List I3) (s : St) (d : Nat) (cp : Nat) (ra : Option Addr) (rcap : Nat) (ys : List R3) (w : World) (hv : progOk is = true) (hs : StOk is s) (hcode : Row3 w a is) (hpl : s.pl < is.length) (hst2 : s.steps ≠ 2000) (hsk : StrA w (some ⟨d, 0, none⟩) s.stack) (hcp : s.stack.length <= cp) (tt0 : ByteArray) (n0 : Nat) (hop : ix is s.pl = ⟨1, tt0, n0⟩) (hfew : 0 <= s.stack.length) (hmany : s.stack.length + 1 <= 50 + 0) (hyl : ys.length <= 200) (hr0 : RowR w ra ys) :
    Calls Tryz.prog 119 #[.agg #[.slice a is.length cap], runV s.pl (.slice (some ⟨d, 0, none⟩) s.stack.length cp) s.steps s.looks, .slice ra ys.length rcap] w fun e w' => Below w.heap.size w w' /\ StepPost w.heap.size is ys s w' e := by
  obtain ⟨o, tt, n, q, EI, ho1, ho2, ht, hn, hn2, hplI, hst3, HT, hlen, hp200, hst, hlk, hln, hb0, hR2, hR1, hz, hr, hc, EQ, HD⟩ := stA a cap (.slice (some ⟨d, 0, none⟩) s.stack.length cp) w hv hs hpl hst2
  unfold runV
  go_enter Tryz.func119, Tryz.ntmps119
  go_wp2_with fail
  refine (HD.out _).mono ?_
  rintro e w1 ⟨rfl, hb1⟩
  obtain ⟨W1, b, off, eW1, rfl, hB1, hz1, hr1, hc1, x0, fr, hBW, hzW, hrW, hcW, hl1, e1, e2, e3, xW, a1, a2, a3⟩ := stB hb0 hb1 hz hr hc hcode hpl EI
  clear hz hr hc hb0 hb1 HD
  obtain ⟨r0, r1, r2, r3, r4, r5, r6, r7, r8, r9⟩ := c10 hr1
  obtain ⟨y0, y1, y2, y3, y4, y5, y6, y7, y8, y9⟩ := c10 hrW
  obtain ⟨b0, b1, b2, b3, b4, b5, b6, b7, b8, b9⟩ := c10a hrW
  obtain ⟨htk2, hpt2⟩ := tp_le o ho2
  have hskW := hsk.below hBW
  obtain ⟨m, em⟩ : ∃ m, s.stack.length = m := ⟨_, rfl⟩
  have eo : o = 1 := by have h := EI.out.symm.trans hop; simp at h; omega
  subst eo
  clear HT htk2 hpt2
  have a1 : ∀ x, (W1.alloc x).cell? ⟨b, off + s.pl * 3, none⟩ = some (.int .i64 1) := a1
  have e1 : W1.cell? ⟨b, off + s.pl * 3, none⟩ = some (.int .i64 1) := e1
  have hmI : (m : Int) <= 50 := by omega
  clear hop ho1 ho2
  have c1 : ∀ x y, ((W1.alloc x).alloc y).cell? ⟨w.heap.size + 1, 1, none⟩ = some (.slice (some ⟨d, 0, none⟩) s.stack.length cp) := fun x y => by rw [World.cell?_alloc_lt _ _ _ (World.block_lt_of_cell? _ _ (b1 x))]; exact b1 x
  rw [em] at c1
  obtain ⟨i0, hi, hz0, hzz1, hzz2⟩ := info_parts Tryz.info9b
  have hWW : w.heap.size <= W1.heap.size := hBW.size
  have hne1 : w1.heap.size ≠ w.heap.size + 1 := by have := blk_lt hz1; omega
  have hne2 : w.heap.size + 1 ≠ w1.heap.size := fun h => hne1 h.symm
  have hown0 : ((W1.alloc (.cells #[.int .i64 1, .string tt, .int .i64 n] 138)).alloc (.cells #[] 9)).ownsRow (w1.heap.size + 1) 9 1 (.slice (some ⟨w1.heap.size + 1, 0, none⟩) 0 0) 0 [] := by
    have h := World.ownsRow_lit (base := w1.heap.size + 1) (e := 9) (size := 1) (W1.alloc (.cells #[.int .i64 1, .string tt, .int .i64 n] 138)) #[] 0 (by simp [hl1]) (by unfold maxLen; omega) (by simp)
    rw [show (W1.alloc (.cells #[.int .i64 1, .string tt, .int .i64 n] 138)).heap.size = w1.heap.size + 1 from by simp [hl1]] at h
    exact h
  have hnews : ∀ j u, ((s.stack.take m).map Value.string)[j]? = some u -> ((W1.alloc (.cells #[.int .i64 1, .string tt, .int .i64 n] 138)).alloc (.cells #[] 9)).cell? ((⟨d, 0, none⟩ : Addr).add j) = some u := fun j u hu => by
    rw [List.getElem?_map] at hu
    have hj : j < m := by
      rcases Nat.lt_or_ge j m with h | h
      · exact h
      · rw [List.getElem?_eq_none (by simp; omega)] at hu; simp at hu
    obtain ⟨b3, off3, eb3, hk3⟩ := hskW j (by omega)
    simp only [Option.some.injEq, Addr.mk.injEq, and_true] at eb3
    obtain ⟨rfl, rfl⟩ := eb3
    rw [Addr.add_lit, World.cell?_alloc_lt _ _ _ (Nat.lt_trans (World.block_lt_of_cell? _ _ hk3) (by simp)), World.cell?_alloc_lt _ _ _ (World.block_lt_of_cell? _ _ hk3), hk3, <- hu, List.getElem?_take, if_pos hj, List.getD_eq_getElem?_getD, List.getElem?_eq_getElem (show j < s.stack.length by omega)]
    rfl
  have hz3 : (W1.alloc (.cells #[.int .i64 1, .string tt, .int .i64 n] 138)).heap[w.heap.size + 1 + 1]? = some zR := by rw [Lib.alloc_old _ _ _ (blk_lt hzW)]; exact hzW
  have hr3 : (W1.alloc (.cells #[.int .i64 1, .string tt, .int .i64 n] 138)).heap[w.heap.size + 1]? = some (rR s.pl d s.stack.length cp ((s.steps : Int) + 1) s.looks) := by rw [Lib.alloc_old _ _ _ (blk_lt hrW)]; exact hrW
  have hi3 : (W1.alloc (.cells #[.int .i64 1, .string tt, .int .i64 n] 138)).heap[w1.heap.size]? = some (.cells #[.int .i64 1, .string tt, .int .i64 n] 138 (0, 0)) := by rw [<- hl1]; exact heap_new _ _
  have hB3 : Below w.heap.size w (W1.alloc (.cells #[.int .i64 1, .string tt, .int .i64 n] 138)) := hBW.alloc hWW _
  have HM : Hid (∀ (b' : Nat) (cs' : Array Value) (T' : Nat), T' ≠ 9 -> (W1.alloc (.cells #[.int .i64 1, .string tt, .int .i64 n] 138)).heap[b']? = some (.cells cs' T' (0, 0)) -> some b' ≠ (Value.slice (some ⟨w1.heap.size + 1, 0, none⟩) 0 0).ownBlock) := fun b' cs' T' hT' hb' => cells_ne hT' (by rw [Lib.alloc_old _ _ _ (blk_lt hb')]; exact hb') hown0
  obtain ⟨x, ex⟩ : ∃ x, tt = x := ⟨_, rfl⟩
  have OX : Hid (outP 1 tt n (topB s.stack) (subB s.stack) = [x]) := by show outP 1 tt n (topB s.stack) (subB s.stack) = [x]; rw [<- ex]; rfl
  have HP : Hid (∀ W : World, Calls Tryz.prog 135 #[.agg #[.int .i64 1, .string tt, .int .i64 n], .string ⟨#[]⟩, .string ⟨#[]⟩] W fun e w' => Below W.heap.size W w' /\ ∃ g c, e = .returned (.slice (some ⟨g, 0, none⟩) 1 c) /\ w'.cell? ⟨g, 0, none⟩ = some (.string x)) := fun W => plain1 1 tt n ⟨#[]⟩ ⟨#[]⟩ x W (by rw [<- ex]; rfl) (by decide) (by decide) hn (by omega) (by omega)
  clear ex
  have hw1 : w.heap.size <= w1.heap.size + 1 := by have := hB1.size; omega
  have hz1s : w.heap.size + 1 + 1 < w1.heap.size + 1 := by have := blk_lt hz1; omega
  go_wp2_with (first | (go_at_call 133; refine (l2Takes_1 _).mono ?_; rintro e w9 ⟨rfl, rfl⟩) | (at_builtin; refine wpList_append_own _ rfl (.tmp 87) (.tmp 95) 22 rfl (w1.heap.size + 1) 9 i0 (.string ⟨#[]⟩) 1 16 Tryz.underlying22 hi hz0 hzz1 hzz2 rfl (by decide) _ 0 [] rfl hown0 ⟨d, 0, none⟩ m cp ((s.stack.take m).map .string) rfl (by simp; omega) hnews (by intro u hu; obtain ⟨z, _, rfl⟩ := List.mem_map.mp hu; rfl) (by unfold maxLen; omega) (by omega) (by simp [hl1]) ?_; intro v' w2 hown' hgrow hnil; obtain ⟨g, cpn, rfl, hown2⟩ := own_out hown' hnil; have q1 := keep_grown hgrow HM.out _ _ 199 (by decide) hr3; have q2 := keep_grown hgrow HM.out _ _ 199 (by decide) hz3; have q3 := keep_grown hgrow HM.out _ _ 138 (by decide) hi3; have hbB : Below w.heap.size w w2 := (hB3.alloc (by simp; omega) _).grown hgrow (by simp; omega) (fun k hk => Nat.le_trans hw1 (hown0.lt k hk).1); have p0 := Lib.cell_of_heap q1 0; have p1 := Lib.cell_of_heap q1 1; have p2 := Lib.cell_of_heap q1 2; have p3 := Lib.cell_of_heap q1 3; have p4 := Lib.cell_of_heap q1 4; have p5 := Lib.cell_of_heap q1 5; have p6 := Lib.cell_of_heap q1 6; have p7 := Lib.cell_of_heap q1 7; have p8 := Lib.cell_of_heap q1 8; have p9 := Lib.cell_of_heap q1 9; simp only [List.getElem?_toArray, List.getElem?_cons_zero, List.getElem?_cons_succ] at p0 p1 p2 p3 p4 p5 p6 p7 p8 p9; have p61 : w2.cell? ⟨w1.heap.size, 0, none⟩ = some (.int .i64 1) := (by rw [Lib.cell_of_heap q3]; rfl); have p62 : w2.cell? ⟨w1.heap.size, 1, none⟩ = some (.string tt) := (by rw [Lib.cell_of_heap q3]; rfl); have p63 : w2.cell? ⟨w1.heap.size, 2, none⟩ = some (.int .i64 n) := (by rw [Lib.cell_of_heap q3]; rfl); have fq : ∀ j, w2.frozen? ⟨w.heap.size + 1, j, none⟩ = false := (fun j => Lib.frozen_of_heap q1 j); have Q1 : Hid (w2.heap[w.heap.size + 1]? = some (rR s.pl d s.stack.length cp ((s.steps : Int) + 1) s.looks)) := q1; have Q2 : Hid (w2.heap[w.heap.size + 1 + 1]? = some zR) := q2; have Q3 : Hid (w2.heap[w1.heap.size]? = some (.cells #[.int .i64 1, .string tt, .int .i64 n] 138 (0, 0))) := q3; have HO2 : Hid (w2.ownsRow (w1.heap.size + 1) 9 1 (.slice (some ⟨g, 0, none⟩) m cpn) m (strV (s.stack.take m))) := hown2; clear q1 q2 q3 hown' hgrow hnil hown2))
  have hbW : Below w.heap.size w (w2.setCell ⟨w.heap.size + 1, 0, none⟩ (.int .i64 ((s.pl : Int) + 1))) := hbB.setCell (p := ⟨w.heap.size + 1, 0, none⟩) hR1 _
  have hrW2 : (w2.setCell ⟨w.heap.size + 1, 0, none⟩ (.int .i64 ((s.pl : Int) + 1))).heap[w.heap.size + 1]? = some (rR ((s.pl : Int) + 1) d s.stack.length cp ((s.steps : Int) + 1) s.looks) := by rw [Joins.block_setCell Q1.out]; rfl
  have hzW2 : (w2.setCell ⟨w.heap.size + 1, 0, none⟩ (.int .i64 ((s.pl : Int) + 1))).heap[w.heap.size + 1 + 1]? = some zR := by rw [Below.heap_setCell w2 ⟨w.heap.size + 1, 0, none⟩ _ _ (by simp)]; exact Q2.out
  have hiW2 : (w2.setCell ⟨w.heap.size + 1, 0, none⟩ (.int .i64 ((s.pl : Int) + 1))).heap[w1.heap.size]? = some (.cells #[.int .i64 1, .string tt, .int .i64 n] 138 (0, 0)) := by rw [Below.heap_setCell w2 ⟨w.heap.size + 1, 0, none⟩ _ _ hne1]; exact Q3.out
  have hoW2 := (own96 ⟨HO2.out, _, Q1.out⟩ 0 (.int .i64 ((s.pl : Int) + 1))).1
  obtain ⟨W2, eW2⟩ : ∃ W2, (w2.setCell ⟨w.heap.size + 1, 0, none⟩ (.int .i64 ((s.pl : Int) + 1))) = W2 := ⟨_, rfl⟩
  rw [eW2] at hbW hrW2 hzW2 hiW2 hoW2
  rw [eW2]
  clear eW2
  clear p0 p1 p2 p3 p4 p5 p6 p7 p8 p9 p61 p62 p63 fq
  clear Q1 Q2 Q3 HO2
  have i61 : W2.cell? ⟨w1.heap.size, 0, none⟩ = some (.int .i64 1) := by rw [Lib.cell_of_heap hiW2]; rfl
  have i62 : W2.cell? ⟨w1.heap.size, 1, none⟩ = some (.string tt) := by rw [Lib.cell_of_heap hiW2]; rfl
  have i63 : W2.cell? ⟨w1.heap.size, 2, none⟩ = some (.int .i64 n) := by rw [Lib.cell_of_heap hiW2]; rfl
  refine wp_loop_rounds 2 ?_
  rw [rounds_succ]
  go_wp2_with fail
  refine (HP.out _).mono ?_
  rintro e w3 ⟨hb3, g3, c3, rfl, hx0⟩
  have hB31 : Below w.heap.size w w3 := bN hbW hb3
  have hr41 := blkB hb3 hrW2
  have hz41 := blkB hb3 hzW2
  have hi41 := blkB hb3 hiW2
  have ho41 := ownsRow_below hoW2 hb3
  have hsz1 : w1.heap.size < w3.heap.size := blk_lt hi41
  clear hb3
  clear i61 i62 i63 hbW hrW2 hzW2 hiW2 hoW2
  have HM1 : Hid (∀ (b' : Nat) (cs' : Array Value) (T' : Nat), T' ≠ 9 -> w3.heap[b']? = some (.cells cs' T' (0, 0)) -> some b' ≠ (Value.slice (some ⟨g, 0, none⟩) m cpn).ownBlock) := fun b' cs' T' hT' hb' => cells_ne hT' hb' ho41
  have hown6 := ho41.alloc (.cells #[.string x] 9)
  by_cases hx : x.size <= 2000
  · have HSTEP : Hid (step0 is s = .go ⟨s.pl + 1, s.stack.take m ++ [x], s.steps + 1, s.looks⟩) := step_go hpl hst2 EI.out (by omega) (show s.stack.length = m + takesN 1 from em) OX.out (by simp; omega) (by intro z hz; simp at hz; subst hz; exact hx) rfl
    have hxI : (x.size : Int) <= 2000 := by omega
    have HRa : Hid (w3.heap[w.heap.size + 1]? = some (rR ((s.pl : Int) + 1) d s.stack.length cp ((s.steps : Int) + 1) s.looks)) := hr41
    have HZa : Hid (w3.heap[w.heap.size + 1 + 1]? = some zR) := hz41
    have HIa : Hid (w3.heap[w1.heap.size]? = some (.cells #[.int .i64 1, .string tt, .int .i64 n] 138 (0, 0))) := hi41
    clear hr41 hz41 hi41
    go_wp2_with (at_builtin; refine wpList_append_own _ rfl (.tmp 158) (.tmp 163) 22 rfl (w1.heap.size + 1) 9 i0 (.string ⟨#[]⟩) 1 16 Tryz.underlying22 hi hz0 hzz1 hzz2 rfl (by decide) _ _ _ rfl hown6 ⟨w3.heap.size, 0, none⟩ 1 1 [.string x] rfl rfl ?_ (by intro u hu; simp at hu; subst hu; rfl) (by unfold maxLen; omega) (by omega) (by simp; omega) ?_; (focus (have := cell_one_new w3 (.string x) 9; simpa using this)); intro v6 w6 hown7 hgrow6 hnil6; obtain ⟨g6, c6, rfl, hown81⟩ := own_add hown7; have HR61 := keep_grown hgrow6 HM1.out _ _ 199 (by decide) HRa.out; have HZ61 := keep_grown hgrow6 HM1.out _ _ 199 (by decide) HZa.out; have HI61 := keep_grown hgrow6 HM1.out _ _ 138 (by decide) HIa.out; have hbB61 : Below w.heap.size w w6 := (hB31.alloc (by have := blk_lt HRa.out; omega) _).grown hgrow6 (by have := blk_lt HRa.out; simp; omega) (fun k hk => Nat.le_trans hw1 (hown6.lt k hk).1); clear hnil6 hown7 hgrow6)
    obtain ⟨p0, p1, p2, p3, p4, p5, p6, p7, p8, p9⟩ := c10 HR61
    have fp : ∀ j, w6.frozen? ⟨w.heap.size + 1, j, none⟩ = false := fun j => Lib.frozen_of_heap HR61 j
    rw [em] at p1
    obtain ⟨z0, z1, z2, z3, z4, z5, z6, z7, z8, z9⟩ := c10 HZ61
    have fz : ∀ j, w6.frozen? ⟨w.heap.size + 1 + 1, j, none⟩ = false := fun j => Lib.frozen_of_heap HZ61 j
    have HB : Hid (Below w.heap.size w w6) := hbB61
    have HR : Hid (w6.heap[w.heap.size + 1]? = some (rR ((s.pl : Int) + 1) d s.stack.length cp ((s.steps : Int) + 1) s.looks)) := HR61
    have HZ : Hid (w6.heap[w.heap.size + 1 + 1]? = some zR) := HZ61
    have HOW : Hid (w6.ownsRow (w1.heap.size + 1) 9 1 (.slice (some ⟨g6, 0, none⟩) (m + 1) c6) (m + 1) (strV (s.stack.take m ++ [x]))) := hown81
    clear hbB61 HR61 HZ61 hown81 HI61 hown6 ho41
    rw [rounds_succ]
    go_wp2_with fail
    exact bodyPost_ret (v := runV ((s.pl : Int) + 1) (.slice (some ⟨g6, 0, none⟩) (m + 1) c6) ((s.steps : Int) + 1) s.looks) (by simp [results, Tryz.results119, go_sem, runV, z0, z1, z2, z3, z4, z5, z6, z7, z8, z9]) rfl ⟨((((((((((HB.out.setCell (p := ⟨w.heap.size + 1, 1, none⟩) hR1 _).setCell (p := ⟨w.heap.size + 1 + 1, 0, none⟩) hR2 _).setCell (p := ⟨w.heap.size + 1 + 1, 1, none⟩) hR2 _).setCell (p := ⟨w.heap.size + 1 + 1, 2, none⟩) hR2 _).setCell (p := ⟨w.heap.size + 1 + 1, 3, none⟩) hR2 _).setCell (p := ⟨w.heap.size + 1 + 1, 4, none⟩) hR2 _).setCell (p := ⟨w.heap.size + 1 + 1, 5, none⟩) hR2 _).setCell (p := ⟨w.heap.size + 1 + 1, 6, none⟩) hR2 _).setCell (p := ⟨w.heap.size + 1 + 1, 7, none⟩) hR2 _).setCell (p := ⟨w.heap.size + 1 + 1, 8, none⟩) hR2 _).setCell (p := ⟨w.heap.size + 1 + 1, 9, none⟩) hR2 _, (post_set10 (go_post HSTEP.out (by simp; omega) rfl (own96 ⟨HOW.out, _, HR.out⟩ 1 _).1) ⟨_, by rw [Below.heap_setCell _ ⟨w.heap.size + 1, 1, none⟩ _ _ (by simp)]; exact HZ.out⟩ _ _ _ _ _ _ _ _ _ _).mono hw1⟩
  · have HSTEP : Hid (step0 is s = .over 2 q (s.steps + 1)) := by
      have h := step_stuck hpl hst2 EI.out (by omega) (show s.stack.length = m + takesN 1 from em) OX.out (by omega)
      rw [EQ.out] at h
      exact h
    have hxI : (2000 : Int) < (x.size : Int) := by omega
    obtain ⟨p0, p1, p2, p3, p4, p5, p6, p7, p8, p9⟩ := c10 hr41
    have fp : ∀ j, w3.frozen? ⟨w.heap.size + 1, j, none⟩ = false := fun j => Lib.frozen_of_heap hr41 j
    rw [em] at p1
    have HZa : Hid (w3.heap[w.heap.size + 1 + 1]? = some zR) := hz41
    clear hr41 hz41 hi41 hown6 ho41
    go_wp2_with fail
    have hl := l2End_any ((s.pl : Int) + 1) (some ⟨d, 0, none⟩) (m) cp ((s.steps : Int) + 1) s.looks 2 q
    unfold runV at hl
    refine (hl _).mono ?_
    rintro e w4 ⟨rfl, hb4⟩
    have hB2 : Below w.heap.size w w4 := bN hB31 hb4
    have hz2 : w4.heap[w.heap.size + 1 + 1]? = some zR := by rw [hb4.block _ (blk_lt HZa.out)]; exact HZa.out
    obtain ⟨z0, z1, z2, z3, z4, z5, z6, z7, z8, z9⟩ := c10 hz2
    have fz : ∀ j, w4.frozen? ⟨w.heap.size + 1 + 1, j, none⟩ = false := fun j => Lib.frozen_of_heap hz2 j
    clear hz2 hb4 hl
    unfold overV
    go_wp2_with fail
    exact bodyPost_ret (v := overV ((s.pl : Int) + 1) (.slice (some ⟨d, 0, none⟩) (m) cp) ((s.steps : Int) + 1) s.looks 2 q) (by simp [results, Tryz.results119, go_sem, overV, z0, z1, z2, z3, z4, z5, z6, z7, z8, z9]) rfl ⟨((((((((((hB2).setCell (p := ⟨w.heap.size + 1 + 1, 0, none⟩) hR2 _).setCell (p := ⟨w.heap.size + 1 + 1, 1, none⟩) hR2 _).setCell (p := ⟨w.heap.size + 1 + 1, 2, none⟩) hR2 _).setCell (p := ⟨w.heap.size + 1 + 1, 3, none⟩) hR2 _).setCell (p := ⟨w.heap.size + 1 + 1, 4, none⟩) hR2 _).setCell (p := ⟨w.heap.size + 1 + 1, 5, none⟩) hR2 _).setCell (p := ⟨w.heap.size + 1 + 1, 6, none⟩) hR2 _).setCell (p := ⟨w.heap.size + 1 + 1, 7, none⟩) hR2 _).setCell (p := ⟨w.heap.size + 1 + 1, 8, none⟩) hR2 _).setCell (p := ⟨w.heap.size + 1 + 1, 9, none⟩) hR2 _, Or.inl ⟨2, q, s.steps + 1, HSTEP.out, _, _, _, _, _, rfl⟩⟩
theorem step_op5 (a : Option Addr) (cap : Nat) (is : List I3) (s : St) (d : Nat) (cp : Nat) (ra : Option Addr) (rcap : Nat) (ys : List R3) (w : World) (hv : progOk is = true) (hs : StOk is s) (hcode : Row3 w a is) (hpl : s.pl < is.length) (hst2 : s.steps ≠ 2000) (hsk : StrA w (some ⟨d, 0, none⟩) s.stack) (hcp : s.stack.length <= cp) (tt0 : ByteArray) (n0 : Nat) (hop : ix is s.pl = ⟨5, tt0, n0⟩) (hfew : 1 <= s.stack.length) (hmany : s.stack.length + 1 <= 50 + 1) (hyl : ys.length <= 200) (hr0 : RowR w ra ys) :
    Calls Tryz.prog 119 #[.agg #[.slice a is.length cap], runV s.pl (.slice (some ⟨d, 0, none⟩) s.stack.length cp) s.steps s.looks, .slice ra ys.length rcap] w fun e w' => Below w.heap.size w w' /\ StepPost w.heap.size is ys s w' e := by
  obtain ⟨o, tt, n, q, EI, ho1, ho2, ht, hn, hn2, hplI, hst3, HT, hlen, hp200, hst, hlk, hln, hb0, hR2, hR1, hz, hr, hc, EQ, HD⟩ := stA a cap (.slice (some ⟨d, 0, none⟩) s.stack.length cp) w hv hs hpl hst2
  unfold runV
  go_enter Tryz.func119, Tryz.ntmps119
  go_wp2_with fail
  refine (HD.out _).mono ?_
  rintro e w1 ⟨rfl, hb1⟩
  obtain ⟨W1, b, off, eW1, rfl, hB1, hz1, hr1, hc1, x0, fr, hBW, hzW, hrW, hcW, hl1, e1, e2, e3, xW, a1, a2, a3⟩ := stB hb0 hb1 hz hr hc hcode hpl EI
  clear hz hr hc hb0 hb1 HD
  obtain ⟨r0, r1, r2, r3, r4, r5, r6, r7, r8, r9⟩ := c10 hr1
  obtain ⟨y0, y1, y2, y3, y4, y5, y6, y7, y8, y9⟩ := c10 hrW
  obtain ⟨b0, b1, b2, b3, b4, b5, b6, b7, b8, b9⟩ := c10a hrW
  obtain ⟨htk2, hpt2⟩ := tp_le o ho2
  have hskW := hsk.below hBW
  obtain ⟨m, em⟩ : ∃ m, s.stack.length = m + 1 := ⟨s.stack.length - 1, by omega⟩
  obtain ⟨b2, off2, eb2, hk1⟩ := hskW (m) (by omega)
  simp only [Option.some.injEq, Addr.mk.injEq, and_true] at eb2
  obtain ⟨rfl, rfl⟩ := eb2
  rw [Nat.zero_add] at hk1
  have eo : o = 5 := by have h := EI.out.symm.trans hop; simp at h; omega
  subst eo
  clear HT htk2 hpt2
  have a1 : ∀ x, (W1.alloc x).cell? ⟨b, off + s.pl * 3, none⟩ = some (.int .i64 5) := a1
  have e1 : W1.cell? ⟨b, off + s.pl * 3, none⟩ = some (.int .i64 5) := e1
  have hk2 : ∀ x, (W1.alloc x).cell? ⟨d, m, none⟩ = some (.string (s.stack.getD m ByteArray.empty)) := fun x => by rw [World.cell?_alloc_lt _ _ _ (World.block_lt_of_cell? _ _ hk1)]; exact hk1
  obtain ⟨top, etop⟩ : ∃ top, s.stack.getD m ByteArray.empty = top := ⟨_, rfl⟩
  have TOPE : Hid (topB s.stack = top) := by show topB s.stack = top; unfold topB; rw [em, Nat.add_sub_cancel]; exact etop
  rw [etop] at hk1 hk2
  clear etop
  have htop : top.size <= 2000 := by rw [<- TOPE.out]; exact top_le hs hfew
  have hmI : (m : Int) + 1 <= 50 := by omega
  clear hop ho1 ho2
  have c1 : ∀ x y, ((W1.alloc x).alloc y).cell? ⟨w.heap.size + 1, 1, none⟩ = some (.slice (some ⟨d, 0, none⟩) s.stack.length cp) := fun x y => by rw [World.cell?_alloc_lt _ _ _ (World.block_lt_of_cell? _ _ (b1 x))]; exact b1 x
  rw [em] at c1
  obtain ⟨i0, hi, hz0, hzz1, hzz2⟩ := info_parts Tryz.info9b
  have hWW : w.heap.size <= W1.heap.size := hBW.size
  have hne1 : w1.heap.size ≠ w.heap.size + 1 := by have := blk_lt hz1; omega
  have hne2 : w.heap.size + 1 ≠ w1.heap.size := fun h => hne1 h.symm
  have hown0 : ((W1.alloc (.cells #[.int .i64 5, .string tt, .int .i64 n] 138)).alloc (.cells #[] 9)).ownsRow (w1.heap.size + 1) 9 1 (.slice (some ⟨w1.heap.size + 1, 0, none⟩) 0 0) 0 [] := by
    have h := World.ownsRow_lit (base := w1.heap.size + 1) (e := 9) (size := 1) (W1.alloc (.cells #[.int .i64 5, .string tt, .int .i64 n] 138)) #[] 0 (by simp [hl1]) (by unfold maxLen; omega) (by simp)
    rw [show (W1.alloc (.cells #[.int .i64 5, .string tt, .int .i64 n] 138)).heap.size = w1.heap.size + 1 from by simp [hl1]] at h
    exact h
  have hnews : ∀ j u, ((s.stack.take m).map Value.string)[j]? = some u -> ((W1.alloc (.cells #[.int .i64 5, .string tt, .int .i64 n] 138)).alloc (.cells #[] 9)).cell? ((⟨d, 0, none⟩ : Addr).add j) = some u := fun j u hu => by
    rw [List.getElem?_map] at hu
    have hj : j < m := by
      rcases Nat.lt_or_ge j m with h | h
      · exact h
      · rw [List.getElem?_eq_none (by simp; omega)] at hu; simp at hu
    obtain ⟨b3, off3, eb3, hk3⟩ := hskW j (by omega)
    simp only [Option.some.injEq, Addr.mk.injEq, and_true] at eb3
    obtain ⟨rfl, rfl⟩ := eb3
    rw [Addr.add_lit, World.cell?_alloc_lt _ _ _ (Nat.lt_trans (World.block_lt_of_cell? _ _ hk3) (by simp)), World.cell?_alloc_lt _ _ _ (World.block_lt_of_cell? _ _ hk3), hk3, <- hu, List.getElem?_take, if_pos hj, List.getD_eq_getElem?_getD, List.getElem?_eq_getElem (show j < s.stack.length by omega)]
    rfl
  have hz3 : (W1.alloc (.cells #[.int .i64 5, .string tt, .int .i64 n] 138)).heap[w.heap.size + 1 + 1]? = some zR := by rw [Lib.alloc_old _ _ _ (blk_lt hzW)]; exact hzW
  have hr3 : (W1.alloc (.cells #[.int .i64 5, .string tt, .int .i64 n] 138)).heap[w.heap.size + 1]? = some (rR s.pl d s.stack.length cp ((s.steps : Int) + 1) s.looks) := by rw [Lib.alloc_old _ _ _ (blk_lt hrW)]; exact hrW
  have hi3 : (W1.alloc (.cells #[.int .i64 5, .string tt, .int .i64 n] 138)).heap[w1.heap.size]? = some (.cells #[.int .i64 5, .string tt, .int .i64 n] 138 (0, 0)) := by rw [<- hl1]; exact heap_new _ _
  have hB3 : Below w.heap.size w (W1.alloc (.cells #[.int .i64 5, .string tt, .int .i64 n] 138)) := hBW.alloc hWW _
  have HM : Hid (∀ (b' : Nat) (cs' : Array Value) (T' : Nat), T' ≠ 9 -> (W1.alloc (.cells #[.int .i64 5, .string tt, .int .i64 n] 138)).heap[b']? = some (.cells cs' T' (0, 0)) -> some b' ≠ (Value.slice (some ⟨w1.heap.size + 1, 0, none⟩) 0 0).ownBlock) := fun b' cs' T' hT' hb' => cells_ne hT' (by rw [Lib.alloc_old _ _ _ (blk_lt hb')]; exact hb') hown0
  obtain ⟨x, ex⟩ : ∃ x, (pieceP top n) = x := ⟨_, rfl⟩
  have OX : Hid (outP 5 tt n (topB s.stack) (subB s.stack) = [x]) := by show outP 5 tt n (topB s.stack) (subB s.stack) = [x]; rw [<- ex, TOPE.out]; rfl
  have HP : Hid (∀ W : World, Calls Tryz.prog 135 #[.agg #[.int .i64 5, .string tt, .int .i64 n], .string top, .string ⟨#[]⟩] W fun e w' => Below W.heap.size W w' /\ ∃ g c, e = .returned (.slice (some ⟨g, 0, none⟩) 1 c) /\ w'.cell? ⟨g, 0, none⟩ = some (.string x)) := fun W => plain1 5 tt n top ⟨#[]⟩ x W (by rw [<- ex]; rfl) (htop) (by decide) hn (by omega) (by omega)
  clear ex
  have hw1 : w.heap.size <= w1.heap.size + 1 := by have := hB1.size; omega
  have hz1s : w.heap.size + 1 + 1 < w1.heap.size + 1 := by have := blk_lt hz1; omega
  go_wp2_with (first | (go_at_call 133; refine (l2Takes_5 _).mono ?_; rintro e w9 ⟨rfl, rfl⟩) | (at_builtin; refine wpList_append_own _ rfl (.tmp 87) (.tmp 95) 22 rfl (w1.heap.size + 1) 9 i0 (.string ⟨#[]⟩) 1 16 Tryz.underlying22 hi hz0 hzz1 hzz2 rfl (by decide) _ 0 [] rfl hown0 ⟨d, 0, none⟩ m cp ((s.stack.take m).map .string) rfl (by simp; omega) hnews (by intro u hu; obtain ⟨z, _, rfl⟩ := List.mem_map.mp hu; rfl) (by unfold maxLen; omega) (by omega) (by simp [hl1]) ?_; intro v' w2 hown' hgrow hnil; obtain ⟨g, cpn, rfl, hown2⟩ := own_out hown' hnil; have q1 := keep_grown hgrow HM.out _ _ 199 (by decide) hr3; have q2 := keep_grown hgrow HM.out _ _ 199 (by decide) hz3; have q3 := keep_grown hgrow HM.out _ _ 138 (by decide) hi3; have hbB : Below w.heap.size w w2 := (hB3.alloc (by simp; omega) _).grown hgrow (by simp; omega) (fun k hk => Nat.le_trans hw1 (hown0.lt k hk).1); have p0 := Lib.cell_of_heap q1 0; have p1 := Lib.cell_of_heap q1 1; have p2 := Lib.cell_of_heap q1 2; have p3 := Lib.cell_of_heap q1 3; have p4 := Lib.cell_of_heap q1 4; have p5 := Lib.cell_of_heap q1 5; have p6 := Lib.cell_of_heap q1 6; have p7 := Lib.cell_of_heap q1 7; have p8 := Lib.cell_of_heap q1 8; have p9 := Lib.cell_of_heap q1 9; simp only [List.getElem?_toArray, List.getElem?_cons_zero, List.getElem?_cons_succ] at p0 p1 p2 p3 p4 p5 p6 p7 p8 p9; have p61 : w2.cell? ⟨w1.heap.size, 0, none⟩ = some (.int .i64 5) := (by rw [Lib.cell_of_heap q3]; rfl); have p62 : w2.cell? ⟨w1.heap.size, 1, none⟩ = some (.string tt) := (by rw [Lib.cell_of_heap q3]; rfl); have p63 : w2.cell? ⟨w1.heap.size, 2, none⟩ = some (.int .i64 n) := (by rw [Lib.cell_of_heap q3]; rfl); have fq : ∀ j, w2.frozen? ⟨w.heap.size + 1, j, none⟩ = false := (fun j => Lib.frozen_of_heap q1 j); have Q1 : Hid (w2.heap[w.heap.size + 1]? = some (rR s.pl d s.stack.length cp ((s.steps : Int) + 1) s.looks)) := q1; have Q2 : Hid (w2.heap[w.heap.size + 1 + 1]? = some zR) := q2; have Q3 : Hid (w2.heap[w1.heap.size]? = some (.cells #[.int .i64 5, .string tt, .int .i64 n] 138 (0, 0))) := q3; have HO2 : Hid (w2.ownsRow (w1.heap.size + 1) 9 1 (.slice (some ⟨g, 0, none⟩) m cpn) m (strV (s.stack.take m))) := hown2; clear q1 q2 q3 hown' hgrow hnil hown2))
  have hbW : Below w.heap.size w (w2.setCell ⟨w.heap.size + 1, 0, none⟩ (.int .i64 ((s.pl : Int) + 1))) := hbB.setCell (p := ⟨w.heap.size + 1, 0, none⟩) hR1 _
  have hrW2 : (w2.setCell ⟨w.heap.size + 1, 0, none⟩ (.int .i64 ((s.pl : Int) + 1))).heap[w.heap.size + 1]? = some (rR ((s.pl : Int) + 1) d s.stack.length cp ((s.steps : Int) + 1) s.looks) := by rw [Joins.block_setCell Q1.out]; rfl
  have hzW2 : (w2.setCell ⟨w.heap.size + 1, 0, none⟩ (.int .i64 ((s.pl : Int) + 1))).heap[w.heap.size + 1 + 1]? = some zR := by rw [Below.heap_setCell w2 ⟨w.heap.size + 1, 0, none⟩ _ _ (by simp)]; exact Q2.out
  have hiW2 : (w2.setCell ⟨w.heap.size + 1, 0, none⟩ (.int .i64 ((s.pl : Int) + 1))).heap[w1.heap.size]? = some (.cells #[.int .i64 5, .string tt, .int .i64 n] 138 (0, 0)) := by rw [Below.heap_setCell w2 ⟨w.heap.size + 1, 0, none⟩ _ _ hne1]; exact Q3.out
  have hoW2 := (own96 ⟨HO2.out, _, Q1.out⟩ 0 (.int .i64 ((s.pl : Int) + 1))).1
  obtain ⟨W2, eW2⟩ : ∃ W2, (w2.setCell ⟨w.heap.size + 1, 0, none⟩ (.int .i64 ((s.pl : Int) + 1))) = W2 := ⟨_, rfl⟩
  rw [eW2] at hbW hrW2 hzW2 hiW2 hoW2
  rw [eW2]
  clear eW2
  clear p0 p1 p2 p3 p4 p5 p6 p7 p8 p9 p61 p62 p63 fq
  clear Q1 Q2 Q3 HO2
  have i61 : W2.cell? ⟨w1.heap.size, 0, none⟩ = some (.int .i64 5) := by rw [Lib.cell_of_heap hiW2]; rfl
  have i62 : W2.cell? ⟨w1.heap.size, 1, none⟩ = some (.string tt) := by rw [Lib.cell_of_heap hiW2]; rfl
  have i63 : W2.cell? ⟨w1.heap.size, 2, none⟩ = some (.int .i64 n) := by rw [Lib.cell_of_heap hiW2]; rfl
  refine wp_loop_rounds 2 ?_
  rw [rounds_succ]
  go_wp2_with fail
  refine (HP.out _).mono ?_
  rintro e w3 ⟨hb3, g3, c3, rfl, hx0⟩
  have hB31 : Below w.heap.size w w3 := bN hbW hb3
  have hr41 := blkB hb3 hrW2
  have hz41 := blkB hb3 hzW2
  have hi41 := blkB hb3 hiW2
  have ho41 := ownsRow_below hoW2 hb3
  have hsz1 : w1.heap.size < w3.heap.size := blk_lt hi41
  clear hb3
  clear i61 i62 i63 hbW hrW2 hzW2 hiW2 hoW2
  have HM1 : Hid (∀ (b' : Nat) (cs' : Array Value) (T' : Nat), T' ≠ 9 -> w3.heap[b']? = some (.cells cs' T' (0, 0)) -> some b' ≠ (Value.slice (some ⟨g, 0, none⟩) m cpn).ownBlock) := fun b' cs' T' hT' hb' => cells_ne hT' hb' ho41
  have hown6 := ho41.alloc (.cells #[.string x] 9)
  by_cases hx : x.size <= 2000
  · have HSTEP : Hid (step0 is s = .go ⟨s.pl + 1, s.stack.take m ++ [x], s.steps + 1, s.looks⟩) := step_go hpl hst2 EI.out (by omega) (show s.stack.length = m + takesN 5 from em) OX.out (by simp; omega) (by intro z hz; simp at hz; subst hz; exact hx) rfl
    have hxI : (x.size : Int) <= 2000 := by omega
    have HRa : Hid (w3.heap[w.heap.size + 1]? = some (rR ((s.pl : Int) + 1) d s.stack.length cp ((s.steps : Int) + 1) s.looks)) := hr41
    have HZa : Hid (w3.heap[w.heap.size + 1 + 1]? = some zR) := hz41
    have HIa : Hid (w3.heap[w1.heap.size]? = some (.cells #[.int .i64 5, .string tt, .int .i64 n] 138 (0, 0))) := hi41
    clear hr41 hz41 hi41
    go_wp2_with (at_builtin; refine wpList_append_own _ rfl (.tmp 158) (.tmp 163) 22 rfl (w1.heap.size + 1) 9 i0 (.string ⟨#[]⟩) 1 16 Tryz.underlying22 hi hz0 hzz1 hzz2 rfl (by decide) _ _ _ rfl hown6 ⟨w3.heap.size, 0, none⟩ 1 1 [.string x] rfl rfl ?_ (by intro u hu; simp at hu; subst hu; rfl) (by unfold maxLen; omega) (by omega) (by simp; omega) ?_; (focus (have := cell_one_new w3 (.string x) 9; simpa using this)); intro v6 w6 hown7 hgrow6 hnil6; obtain ⟨g6, c6, rfl, hown81⟩ := own_add hown7; have HR61 := keep_grown hgrow6 HM1.out _ _ 199 (by decide) HRa.out; have HZ61 := keep_grown hgrow6 HM1.out _ _ 199 (by decide) HZa.out; have HI61 := keep_grown hgrow6 HM1.out _ _ 138 (by decide) HIa.out; have hbB61 : Below w.heap.size w w6 := (hB31.alloc (by have := blk_lt HRa.out; omega) _).grown hgrow6 (by have := blk_lt HRa.out; simp; omega) (fun k hk => Nat.le_trans hw1 (hown6.lt k hk).1); clear hnil6 hown7 hgrow6)
    obtain ⟨p0, p1, p2, p3, p4, p5, p6, p7, p8, p9⟩ := c10 HR61
    have fp : ∀ j, w6.frozen? ⟨w.heap.size + 1, j, none⟩ = false := fun j => Lib.frozen_of_heap HR61 j
    rw [em] at p1
    obtain ⟨z0, z1, z2, z3, z4, z5, z6, z7, z8, z9⟩ := c10 HZ61
    have fz : ∀ j, w6.frozen? ⟨w.heap.size + 1 + 1, j, none⟩ = false := fun j => Lib.frozen_of_heap HZ61 j
    have HB : Hid (Below w.heap.size w w6) := hbB61
    have HR : Hid (w6.heap[w.heap.size + 1]? = some (rR ((s.pl : Int) + 1) d s.stack.length cp ((s.steps : Int) + 1) s.looks)) := HR61
    have HZ : Hid (w6.heap[w.heap.size + 1 + 1]? = some zR) := HZ61
    have HOW : Hid (w6.ownsRow (w1.heap.size + 1) 9 1 (.slice (some ⟨g6, 0, none⟩) (m + 1) c6) (m + 1) (strV (s.stack.take m ++ [x]))) := hown81
    clear hbB61 HR61 HZ61 hown81 HI61 hown6 ho41
    rw [rounds_succ]
    go_wp2_with fail
    exact bodyPost_ret (v := runV ((s.pl : Int) + 1) (.slice (some ⟨g6, 0, none⟩) (m + 1) c6) ((s.steps : Int) + 1) s.looks) (by simp [results, Tryz.results119, go_sem, runV, z0, z1, z2, z3, z4, z5, z6, z7, z8, z9]) rfl ⟨((((((((((HB.out.setCell (p := ⟨w.heap.size + 1, 1, none⟩) hR1 _).setCell (p := ⟨w.heap.size + 1 + 1, 0, none⟩) hR2 _).setCell (p := ⟨w.heap.size + 1 + 1, 1, none⟩) hR2 _).setCell (p := ⟨w.heap.size + 1 + 1, 2, none⟩) hR2 _).setCell (p := ⟨w.heap.size + 1 + 1, 3, none⟩) hR2 _).setCell (p := ⟨w.heap.size + 1 + 1, 4, none⟩) hR2 _).setCell (p := ⟨w.heap.size + 1 + 1, 5, none⟩) hR2 _).setCell (p := ⟨w.heap.size + 1 + 1, 6, none⟩) hR2 _).setCell (p := ⟨w.heap.size + 1 + 1, 7, none⟩) hR2 _).setCell (p := ⟨w.heap.size + 1 + 1, 8, none⟩) hR2 _).setCell (p := ⟨w.heap.size + 1 + 1, 9, none⟩) hR2 _, (post_set10 (go_post HSTEP.out (by simp; omega) rfl (own96 ⟨HOW.out, _, HR.out⟩ 1 _).1) ⟨_, by rw [Below.heap_setCell _ ⟨w.heap.size + 1, 1, none⟩ _ _ (by simp)]; exact HZ.out⟩ _ _ _ _ _ _ _ _ _ _).mono hw1⟩
  · have HSTEP : Hid (step0 is s = .over 2 q (s.steps + 1)) := by
      have h := step_stuck hpl hst2 EI.out (by omega) (show s.stack.length = m + takesN 5 from em) OX.out (by omega)
      rw [EQ.out] at h
      exact h
    have hxI : (2000 : Int) < (x.size : Int) := by omega
    obtain ⟨p0, p1, p2, p3, p4, p5, p6, p7, p8, p9⟩ := c10 hr41
    have fp : ∀ j, w3.frozen? ⟨w.heap.size + 1, j, none⟩ = false := fun j => Lib.frozen_of_heap hr41 j
    rw [em] at p1
    have HZa : Hid (w3.heap[w.heap.size + 1 + 1]? = some zR) := hz41
    clear hr41 hz41 hi41 hown6 ho41
    go_wp2_with fail
    have hl := l2End_any ((s.pl : Int) + 1) (some ⟨d, 0, none⟩) (m + 1) cp ((s.steps : Int) + 1) s.looks 2 q
    unfold runV at hl
    refine (hl _).mono ?_
    rintro e w4 ⟨rfl, hb4⟩
    have hB2 : Below w.heap.size w w4 := bN hB31 hb4
    have hz2 : w4.heap[w.heap.size + 1 + 1]? = some zR := by rw [hb4.block _ (blk_lt HZa.out)]; exact HZa.out
    obtain ⟨z0, z1, z2, z3, z4, z5, z6, z7, z8, z9⟩ := c10 hz2
    have fz : ∀ j, w4.frozen? ⟨w.heap.size + 1 + 1, j, none⟩ = false := fun j => Lib.frozen_of_heap hz2 j
    clear hz2 hb4 hl
    unfold overV
    go_wp2_with fail
    exact bodyPost_ret (v := overV ((s.pl : Int) + 1) (.slice (some ⟨d, 0, none⟩) (m + 1) cp) ((s.steps : Int) + 1) s.looks 2 q) (by simp [results, Tryz.results119, go_sem, overV, z0, z1, z2, z3, z4, z5, z6, z7, z8, z9]) rfl ⟨((((((((((hB2).setCell (p := ⟨w.heap.size + 1 + 1, 0, none⟩) hR2 _).setCell (p := ⟨w.heap.size + 1 + 1, 1, none⟩) hR2 _).setCell (p := ⟨w.heap.size + 1 + 1, 2, none⟩) hR2 _).setCell (p := ⟨w.heap.size + 1 + 1, 3, none⟩) hR2 _).setCell (p := ⟨w.heap.size + 1 + 1, 4, none⟩) hR2 _).setCell (p := ⟨w.heap.size + 1 + 1, 5, none⟩) hR2 _).setCell (p := ⟨w.heap.size + 1 + 1, 6, none⟩) hR2 _).setCell (p := ⟨w.heap.size + 1 + 1, 7, none⟩) hR2 _).setCell (p := ⟨w.heap.size + 1 + 1, 8, none⟩) hR2 _).setCell (p := ⟨w.heap.size + 1 + 1, 9, none⟩) hR2 _, Or.inl ⟨2, q, s.steps + 1, HSTEP.out, _, _, _, _, _, rfl⟩⟩
theorem step_op2 (a : Option Addr) (cap : Nat) (is : List I3) (s : St) (d : Nat) (cp : Nat) (ra : Option Addr) (rcap : Nat) (ys : List R3) (w : World) (hv : progOk is = true) (hs : StOk is s) (hcode : Row3 w a is) (hpl : s.pl < is.length) (hst2 : s.steps ≠ 2000) (hsk : StrA w (some ⟨d, 0, none⟩) s.stack) (hcp : s.stack.length <= cp) (tt0 : ByteArray) (n0 : Nat) (hop : ix is s.pl = ⟨2, tt0, n0⟩) (hfew : 2 <= s.stack.length) (hmany : s.stack.length + 1 <= 50 + 2) (hyl : ys.length <= 200) (hr0 : RowR w ra ys) :
    Calls Tryz.prog 119 #[.agg #[.slice a is.length cap], runV s.pl (.slice (some ⟨d, 0, none⟩) s.stack.length cp) s.steps s.looks, .slice ra ys.length rcap] w fun e w' => Below w.heap.size w w' /\ StepPost w.heap.size is ys s w' e := by
  obtain ⟨o, tt, n, q, EI, ho1, ho2, ht, hn, hn2, hplI, hst3, HT, hlen, hp200, hst, hlk, hln, hb0, hR2, hR1, hz, hr, hc, EQ, HD⟩ := stA a cap (.slice (some ⟨d, 0, none⟩) s.stack.length cp) w hv hs hpl hst2
  unfold runV
  go_enter Tryz.func119, Tryz.ntmps119
  go_wp2_with fail
  refine (HD.out _).mono ?_
  rintro e w1 ⟨rfl, hb1⟩
  obtain ⟨W1, b, off, eW1, rfl, hB1, hz1, hr1, hc1, x0, fr, hBW, hzW, hrW, hcW, hl1, e1, e2, e3, xW, a1, a2, a3⟩ := stB hb0 hb1 hz hr hc hcode hpl EI
  clear hz hr hc hb0 hb1 HD
  obtain ⟨r0, r1, r2, r3, r4, r5, r6, r7, r8, r9⟩ := c10 hr1
  obtain ⟨y0, y1, y2, y3, y4, y5, y6, y7, y8, y9⟩ := c10 hrW
  obtain ⟨b0, b1, b2, b3, b4, b5, b6, b7, b8, b9⟩ := c10a hrW
  obtain ⟨htk2, hpt2⟩ := tp_le o ho2
  have hskW := hsk.below hBW
  obtain ⟨m, em⟩ : ∃ m, s.stack.length = m + 2 := ⟨s.stack.length - 2, by omega⟩
  obtain ⟨b2, off2, eb2, hk1⟩ := hskW (m + 1) (by omega)
  simp only [Option.some.injEq, Addr.mk.injEq, and_true] at eb2
  obtain ⟨rfl, rfl⟩ := eb2
  rw [Nat.zero_add] at hk1
  obtain ⟨b4, off4, eb4, hj1⟩ := hskW (m) (by omega)
  simp only [Option.some.injEq, Addr.mk.injEq, and_true] at eb4
  obtain ⟨rfl, rfl⟩ := eb4
  rw [Nat.zero_add] at hj1
  have eo : o = 2 := by have h := EI.out.symm.trans hop; simp at h; omega
  subst eo
  clear HT htk2 hpt2
  have a1 : ∀ x, (W1.alloc x).cell? ⟨b, off + s.pl * 3, none⟩ = some (.int .i64 2) := a1
  have e1 : W1.cell? ⟨b, off + s.pl * 3, none⟩ = some (.int .i64 2) := e1
  have hk2 : ∀ x, (W1.alloc x).cell? ⟨d, m + 1, none⟩ = some (.string (s.stack.getD (m + 1) ByteArray.empty)) := fun x => by rw [World.cell?_alloc_lt _ _ _ (World.block_lt_of_cell? _ _ hk1)]; exact hk1
  have hj2 : ∀ x, (W1.alloc x).cell? ⟨d, m, none⟩ = some (.string (s.stack.getD m ByteArray.empty)) := fun x => by rw [World.cell?_alloc_lt _ _ _ (World.block_lt_of_cell? _ _ hj1)]; exact hj1
  obtain ⟨top, etop⟩ : ∃ top, s.stack.getD (m + 1) ByteArray.empty = top := ⟨_, rfl⟩
  have TOPE : Hid (topB s.stack = top) := by show topB s.stack = top; unfold topB; rw [em, show m + 2 - 1 = m + 1 from rfl]; exact etop
  rw [etop] at hk1 hk2
  clear etop
  obtain ⟨sub, esub⟩ : ∃ sub, s.stack.getD m ByteArray.empty = sub := ⟨_, rfl⟩
  have SUBE : Hid (subB s.stack = sub) := by show subB s.stack = sub; unfold subB; rw [em, Nat.add_sub_cancel]; exact esub
  rw [esub] at hj1 hj2
  clear esub
  have htop : top.size <= 2000 := by rw [<- TOPE.out]; exact top_le hs (by omega)
  have hsub : sub.size <= 2000 := by rw [<- SUBE.out]; exact sub_le hs hfew
  have hmI : (m : Int) + 2 <= 50 := by omega
  clear hop ho1 ho2
  have c1 : ∀ x y, ((W1.alloc x).alloc y).cell? ⟨w.heap.size + 1, 1, none⟩ = some (.slice (some ⟨d, 0, none⟩) s.stack.length cp) := fun x y => by rw [World.cell?_alloc_lt _ _ _ (World.block_lt_of_cell? _ _ (b1 x))]; exact b1 x
  rw [em] at c1
  obtain ⟨i0, hi, hz0, hzz1, hzz2⟩ := info_parts Tryz.info9b
  have hWW : w.heap.size <= W1.heap.size := hBW.size
  have hne1 : w1.heap.size ≠ w.heap.size + 1 := by have := blk_lt hz1; omega
  have hne2 : w.heap.size + 1 ≠ w1.heap.size := fun h => hne1 h.symm
  have hown0 : ((W1.alloc (.cells #[.int .i64 2, .string tt, .int .i64 n] 138)).alloc (.cells #[] 9)).ownsRow (w1.heap.size + 1) 9 1 (.slice (some ⟨w1.heap.size + 1, 0, none⟩) 0 0) 0 [] := by
    have h := World.ownsRow_lit (base := w1.heap.size + 1) (e := 9) (size := 1) (W1.alloc (.cells #[.int .i64 2, .string tt, .int .i64 n] 138)) #[] 0 (by simp [hl1]) (by unfold maxLen; omega) (by simp)
    rw [show (W1.alloc (.cells #[.int .i64 2, .string tt, .int .i64 n] 138)).heap.size = w1.heap.size + 1 from by simp [hl1]] at h
    exact h
  have hnews : ∀ j u, ((s.stack.take m).map Value.string)[j]? = some u -> ((W1.alloc (.cells #[.int .i64 2, .string tt, .int .i64 n] 138)).alloc (.cells #[] 9)).cell? ((⟨d, 0, none⟩ : Addr).add j) = some u := fun j u hu => by
    rw [List.getElem?_map] at hu
    have hj : j < m := by
      rcases Nat.lt_or_ge j m with h | h
      · exact h
      · rw [List.getElem?_eq_none (by simp; omega)] at hu; simp at hu
    obtain ⟨b3, off3, eb3, hk3⟩ := hskW j (by omega)
    simp only [Option.some.injEq, Addr.mk.injEq, and_true] at eb3
    obtain ⟨rfl, rfl⟩ := eb3
    rw [Addr.add_lit, World.cell?_alloc_lt _ _ _ (Nat.lt_trans (World.block_lt_of_cell? _ _ hk3) (by simp)), World.cell?_alloc_lt _ _ _ (World.block_lt_of_cell? _ _ hk3), hk3, <- hu, List.getElem?_take, if_pos hj, List.getD_eq_getElem?_getD, List.getElem?_eq_getElem (show j < s.stack.length by omega)]
    rfl
  have hz3 : (W1.alloc (.cells #[.int .i64 2, .string tt, .int .i64 n] 138)).heap[w.heap.size + 1 + 1]? = some zR := by rw [Lib.alloc_old _ _ _ (blk_lt hzW)]; exact hzW
  have hr3 : (W1.alloc (.cells #[.int .i64 2, .string tt, .int .i64 n] 138)).heap[w.heap.size + 1]? = some (rR s.pl d s.stack.length cp ((s.steps : Int) + 1) s.looks) := by rw [Lib.alloc_old _ _ _ (blk_lt hrW)]; exact hrW
  have hi3 : (W1.alloc (.cells #[.int .i64 2, .string tt, .int .i64 n] 138)).heap[w1.heap.size]? = some (.cells #[.int .i64 2, .string tt, .int .i64 n] 138 (0, 0)) := by rw [<- hl1]; exact heap_new _ _
  have hB3 : Below w.heap.size w (W1.alloc (.cells #[.int .i64 2, .string tt, .int .i64 n] 138)) := hBW.alloc hWW _
  have HM : Hid (∀ (b' : Nat) (cs' : Array Value) (T' : Nat), T' ≠ 9 -> (W1.alloc (.cells #[.int .i64 2, .string tt, .int .i64 n] 138)).heap[b']? = some (.cells cs' T' (0, 0)) -> some b' ≠ (Value.slice (some ⟨w1.heap.size + 1, 0, none⟩) 0 0).ownBlock) := fun b' cs' T' hT' hb' => cells_ne hT' (by rw [Lib.alloc_old _ _ _ (blk_lt hb')]; exact hb') hown0
  obtain ⟨x, ex⟩ : ∃ x, (sub ++ top) = x := ⟨_, rfl⟩
  have OX : Hid (outP 2 tt n (topB s.stack) (subB s.stack) = [x]) := by show outP 2 tt n (topB s.stack) (subB s.stack) = [x]; rw [<- ex, TOPE.out, SUBE.out]; rfl
  have HP : Hid (∀ W : World, Calls Tryz.prog 135 #[.agg #[.int .i64 2, .string tt, .int .i64 n], .string top, .string sub] W fun e w' => Below W.heap.size W w' /\ ∃ g c, e = .returned (.slice (some ⟨g, 0, none⟩) 1 c) /\ w'.cell? ⟨g, 0, none⟩ = some (.string x)) := fun W => plain1 2 tt n top sub x W (by rw [<- ex]; rfl) (htop) (hsub) hn (by omega) (by omega)
  clear ex
  have hw1 : w.heap.size <= w1.heap.size + 1 := by have := hB1.size; omega
  have hz1s : w.heap.size + 1 + 1 < w1.heap.size + 1 := by have := blk_lt hz1; omega
  go_wp2_with (first | (go_at_call 133; refine (l2Takes_2 _).mono ?_; rintro e w9 ⟨rfl, rfl⟩) | (at_builtin; refine wpList_append_own _ rfl (.tmp 87) (.tmp 95) 22 rfl (w1.heap.size + 1) 9 i0 (.string ⟨#[]⟩) 1 16 Tryz.underlying22 hi hz0 hzz1 hzz2 rfl (by decide) _ 0 [] rfl hown0 ⟨d, 0, none⟩ m cp ((s.stack.take m).map .string) rfl (by simp; omega) hnews (by intro u hu; obtain ⟨z, _, rfl⟩ := List.mem_map.mp hu; rfl) (by unfold maxLen; omega) (by omega) (by simp [hl1]) ?_; intro v' w2 hown' hgrow hnil; obtain ⟨g, cpn, rfl, hown2⟩ := own_out hown' hnil; have q1 := keep_grown hgrow HM.out _ _ 199 (by decide) hr3; have q2 := keep_grown hgrow HM.out _ _ 199 (by decide) hz3; have q3 := keep_grown hgrow HM.out _ _ 138 (by decide) hi3; have hbB : Below w.heap.size w w2 := (hB3.alloc (by simp; omega) _).grown hgrow (by simp; omega) (fun k hk => Nat.le_trans hw1 (hown0.lt k hk).1); have p0 := Lib.cell_of_heap q1 0; have p1 := Lib.cell_of_heap q1 1; have p2 := Lib.cell_of_heap q1 2; have p3 := Lib.cell_of_heap q1 3; have p4 := Lib.cell_of_heap q1 4; have p5 := Lib.cell_of_heap q1 5; have p6 := Lib.cell_of_heap q1 6; have p7 := Lib.cell_of_heap q1 7; have p8 := Lib.cell_of_heap q1 8; have p9 := Lib.cell_of_heap q1 9; simp only [List.getElem?_toArray, List.getElem?_cons_zero, List.getElem?_cons_succ] at p0 p1 p2 p3 p4 p5 p6 p7 p8 p9; have p61 : w2.cell? ⟨w1.heap.size, 0, none⟩ = some (.int .i64 2) := (by rw [Lib.cell_of_heap q3]; rfl); have p62 : w2.cell? ⟨w1.heap.size, 1, none⟩ = some (.string tt) := (by rw [Lib.cell_of_heap q3]; rfl); have p63 : w2.cell? ⟨w1.heap.size, 2, none⟩ = some (.int .i64 n) := (by rw [Lib.cell_of_heap q3]; rfl); have fq : ∀ j, w2.frozen? ⟨w.heap.size + 1, j, none⟩ = false := (fun j => Lib.frozen_of_heap q1 j); have Q1 : Hid (w2.heap[w.heap.size + 1]? = some (rR s.pl d s.stack.length cp ((s.steps : Int) + 1) s.looks)) := q1; have Q2 : Hid (w2.heap[w.heap.size + 1 + 1]? = some zR) := q2; have Q3 : Hid (w2.heap[w1.heap.size]? = some (.cells #[.int .i64 2, .string tt, .int .i64 n] 138 (0, 0))) := q3; have HO2 : Hid (w2.ownsRow (w1.heap.size + 1) 9 1 (.slice (some ⟨g, 0, none⟩) m cpn) m (strV (s.stack.take m))) := hown2; clear q1 q2 q3 hown' hgrow hnil hown2))
  have hbW : Below w.heap.size w (w2.setCell ⟨w.heap.size + 1, 0, none⟩ (.int .i64 ((s.pl : Int) + 1))) := hbB.setCell (p := ⟨w.heap.size + 1, 0, none⟩) hR1 _
  have hrW2 : (w2.setCell ⟨w.heap.size + 1, 0, none⟩ (.int .i64 ((s.pl : Int) + 1))).heap[w.heap.size + 1]? = some (rR ((s.pl : Int) + 1) d s.stack.length cp ((s.steps : Int) + 1) s.looks) := by rw [Joins.block_setCell Q1.out]; rfl
  have hzW2 : (w2.setCell ⟨w.heap.size + 1, 0, none⟩ (.int .i64 ((s.pl : Int) + 1))).heap[w.heap.size + 1 + 1]? = some zR := by rw [Below.heap_setCell w2 ⟨w.heap.size + 1, 0, none⟩ _ _ (by simp)]; exact Q2.out
  have hiW2 : (w2.setCell ⟨w.heap.size + 1, 0, none⟩ (.int .i64 ((s.pl : Int) + 1))).heap[w1.heap.size]? = some (.cells #[.int .i64 2, .string tt, .int .i64 n] 138 (0, 0)) := by rw [Below.heap_setCell w2 ⟨w.heap.size + 1, 0, none⟩ _ _ hne1]; exact Q3.out
  have hoW2 := (own96 ⟨HO2.out, _, Q1.out⟩ 0 (.int .i64 ((s.pl : Int) + 1))).1
  obtain ⟨W2, eW2⟩ : ∃ W2, (w2.setCell ⟨w.heap.size + 1, 0, none⟩ (.int .i64 ((s.pl : Int) + 1))) = W2 := ⟨_, rfl⟩
  rw [eW2] at hbW hrW2 hzW2 hiW2 hoW2
  rw [eW2]
  clear eW2
  clear p0 p1 p2 p3 p4 p5 p6 p7 p8 p9 p61 p62 p63 fq
  clear Q1 Q2 Q3 HO2
  have i61 : W2.cell? ⟨w1.heap.size, 0, none⟩ = some (.int .i64 2) := by rw [Lib.cell_of_heap hiW2]; rfl
  have i62 : W2.cell? ⟨w1.heap.size, 1, none⟩ = some (.string tt) := by rw [Lib.cell_of_heap hiW2]; rfl
  have i63 : W2.cell? ⟨w1.heap.size, 2, none⟩ = some (.int .i64 n) := by rw [Lib.cell_of_heap hiW2]; rfl
  refine wp_loop_rounds 2 ?_
  rw [rounds_succ]
  go_wp2_with fail
  refine (HP.out _).mono ?_
  rintro e w3 ⟨hb3, g3, c3, rfl, hx0⟩
  have hB31 : Below w.heap.size w w3 := bN hbW hb3
  have hr41 := blkB hb3 hrW2
  have hz41 := blkB hb3 hzW2
  have hi41 := blkB hb3 hiW2
  have ho41 := ownsRow_below hoW2 hb3
  have hsz1 : w1.heap.size < w3.heap.size := blk_lt hi41
  clear hb3
  clear i61 i62 i63 hbW hrW2 hzW2 hiW2 hoW2
  have HM1 : Hid (∀ (b' : Nat) (cs' : Array Value) (T' : Nat), T' ≠ 9 -> w3.heap[b']? = some (.cells cs' T' (0, 0)) -> some b' ≠ (Value.slice (some ⟨g, 0, none⟩) m cpn).ownBlock) := fun b' cs' T' hT' hb' => cells_ne hT' hb' ho41
  have hown6 := ho41.alloc (.cells #[.string x] 9)
  by_cases hx : x.size <= 2000
  · have HSTEP : Hid (step0 is s = .go ⟨s.pl + 1, s.stack.take m ++ [x], s.steps + 1, s.looks⟩) := step_go hpl hst2 EI.out (by omega) (show s.stack.length = m + takesN 2 from em) OX.out (by simp; omega) (by intro z hz; simp at hz; subst hz; exact hx) rfl
    have hxI : (x.size : Int) <= 2000 := by omega
    have HRa : Hid (w3.heap[w.heap.size + 1]? = some (rR ((s.pl : Int) + 1) d s.stack.length cp ((s.steps : Int) + 1) s.looks)) := hr41
    have HZa : Hid (w3.heap[w.heap.size + 1 + 1]? = some zR) := hz41
    have HIa : Hid (w3.heap[w1.heap.size]? = some (.cells #[.int .i64 2, .string tt, .int .i64 n] 138 (0, 0))) := hi41
    clear hr41 hz41 hi41
    go_wp2_with (at_builtin; refine wpList_append_own _ rfl (.tmp 158) (.tmp 163) 22 rfl (w1.heap.size + 1) 9 i0 (.string ⟨#[]⟩) 1 16 Tryz.underlying22 hi hz0 hzz1 hzz2 rfl (by decide) _ _ _ rfl hown6 ⟨w3.heap.size, 0, none⟩ 1 1 [.string x] rfl rfl ?_ (by intro u hu; simp at hu; subst hu; rfl) (by unfold maxLen; omega) (by omega) (by simp; omega) ?_; (focus (have := cell_one_new w3 (.string x) 9; simpa using this)); intro v6 w6 hown7 hgrow6 hnil6; obtain ⟨g6, c6, rfl, hown81⟩ := own_add hown7; have HR61 := keep_grown hgrow6 HM1.out _ _ 199 (by decide) HRa.out; have HZ61 := keep_grown hgrow6 HM1.out _ _ 199 (by decide) HZa.out; have HI61 := keep_grown hgrow6 HM1.out _ _ 138 (by decide) HIa.out; have hbB61 : Below w.heap.size w w6 := (hB31.alloc (by have := blk_lt HRa.out; omega) _).grown hgrow6 (by have := blk_lt HRa.out; simp; omega) (fun k hk => Nat.le_trans hw1 (hown6.lt k hk).1); clear hnil6 hown7 hgrow6)
    obtain ⟨p0, p1, p2, p3, p4, p5, p6, p7, p8, p9⟩ := c10 HR61
    have fp : ∀ j, w6.frozen? ⟨w.heap.size + 1, j, none⟩ = false := fun j => Lib.frozen_of_heap HR61 j
    rw [em] at p1
    obtain ⟨z0, z1, z2, z3, z4, z5, z6, z7, z8, z9⟩ := c10 HZ61
    have fz : ∀ j, w6.frozen? ⟨w.heap.size + 1 + 1, j, none⟩ = false := fun j => Lib.frozen_of_heap HZ61 j
    have HB : Hid (Below w.heap.size w w6) := hbB61
    have HR : Hid (w6.heap[w.heap.size + 1]? = some (rR ((s.pl : Int) + 1) d s.stack.length cp ((s.steps : Int) + 1) s.looks)) := HR61
    have HZ : Hid (w6.heap[w.heap.size + 1 + 1]? = some zR) := HZ61
    have HOW : Hid (w6.ownsRow (w1.heap.size + 1) 9 1 (.slice (some ⟨g6, 0, none⟩) (m + 1) c6) (m + 1) (strV (s.stack.take m ++ [x]))) := hown81
    clear hbB61 HR61 HZ61 hown81 HI61 hown6 ho41
    rw [rounds_succ]
    go_wp2_with fail
    exact bodyPost_ret (v := runV ((s.pl : Int) + 1) (.slice (some ⟨g6, 0, none⟩) (m + 1) c6) ((s.steps : Int) + 1) s.looks) (by simp [results, Tryz.results119, go_sem, runV, z0, z1, z2, z3, z4, z5, z6, z7, z8, z9]) rfl ⟨((((((((((HB.out.setCell (p := ⟨w.heap.size + 1, 1, none⟩) hR1 _).setCell (p := ⟨w.heap.size + 1 + 1, 0, none⟩) hR2 _).setCell (p := ⟨w.heap.size + 1 + 1, 1, none⟩) hR2 _).setCell (p := ⟨w.heap.size + 1 + 1, 2, none⟩) hR2 _).setCell (p := ⟨w.heap.size + 1 + 1, 3, none⟩) hR2 _).setCell (p := ⟨w.heap.size + 1 + 1, 4, none⟩) hR2 _).setCell (p := ⟨w.heap.size + 1 + 1, 5, none⟩) hR2 _).setCell (p := ⟨w.heap.size + 1 + 1, 6, none⟩) hR2 _).setCell (p := ⟨w.heap.size + 1 + 1, 7, none⟩) hR2 _).setCell (p := ⟨w.heap.size + 1 + 1, 8, none⟩) hR2 _).setCell (p := ⟨w.heap.size + 1 + 1, 9, none⟩) hR2 _, (post_set10 (go_post HSTEP.out (by simp; omega) rfl (own96 ⟨HOW.out, _, HR.out⟩ 1 _).1) ⟨_, by rw [Below.heap_setCell _ ⟨w.heap.size + 1, 1, none⟩ _ _ (by simp)]; exact HZ.out⟩ _ _ _ _ _ _ _ _ _ _).mono hw1⟩
  · have HSTEP : Hid (step0 is s = .over 2 q (s.steps + 1)) := by
      have h := step_stuck hpl hst2 EI.out (by omega) (show s.stack.length = m + takesN 2 from em) OX.out (by omega)
      rw [EQ.out] at h
      exact h
    have hxI : (2000 : Int) < (x.size : Int) := by omega
    obtain ⟨p0, p1, p2, p3, p4, p5, p6, p7, p8, p9⟩ := c10 hr41
    have fp : ∀ j, w3.frozen? ⟨w.heap.size + 1, j, none⟩ = false := fun j => Lib.frozen_of_heap hr41 j
    rw [em] at p1
    have HZa : Hid (w3.heap[w.heap.size + 1 + 1]? = some zR) := hz41
    clear hr41 hz41 hi41 hown6 ho41
    go_wp2_with fail
    have hl := l2End_any ((s.pl : Int) + 1) (some ⟨d, 0, none⟩) (m + 2) cp ((s.steps : Int) + 1) s.looks 2 q
    unfold runV at hl
    refine (hl _).mono ?_
    rintro e w4 ⟨rfl, hb4⟩
    have hB2 : Below w.heap.size w w4 := bN hB31 hb4
    have hz2 : w4.heap[w.heap.size + 1 + 1]? = some zR := by rw [hb4.block _ (blk_lt HZa.out)]; exact HZa.out
    obtain ⟨z0, z1, z2, z3, z4, z5, z6, z7, z8, z9⟩ := c10 hz2
    have fz : ∀ j, w4.frozen? ⟨w.heap.size + 1 + 1, j, none⟩ = false := fun j => Lib.frozen_of_heap hz2 j
    clear hz2 hb4 hl
    unfold overV
    go_wp2_with fail
    exact bodyPost_ret (v := overV ((s.pl : Int) + 1) (.slice (some ⟨d, 0, none⟩) (m + 2) cp) ((s.steps : Int) + 1) s.looks 2 q) (by simp [results, Tryz.results119, go_sem, overV, z0, z1, z2, z3, z4, z5, z6, z7, z8, z9]) rfl ⟨((((((((((hB2).setCell (p := ⟨w.heap.size + 1 + 1, 0, none⟩) hR2 _).setCell (p := ⟨w.heap.size + 1 + 1, 1, none⟩) hR2 _).setCell (p := ⟨w.heap.size + 1 + 1, 2, none⟩) hR2 _).setCell (p := ⟨w.heap.size + 1 + 1, 3, none⟩) hR2 _).setCell (p := ⟨w.heap.size + 1 + 1, 4, none⟩) hR2 _).setCell (p := ⟨w.heap.size + 1 + 1, 5, none⟩) hR2 _).setCell (p := ⟨w.heap.size + 1 + 1, 6, none⟩) hR2 _).setCell (p := ⟨w.heap.size + 1 + 1, 7, none⟩) hR2 _).setCell (p := ⟨w.heap.size + 1 + 1, 8, none⟩) hR2 _).setCell (p := ⟨w.heap.size + 1 + 1, 9, none⟩) hR2 _, Or.inl ⟨2, q, s.steps + 1, HSTEP.out, _, _, _, _, _, rfl⟩⟩
theorem step_op6 (a : Option Addr) (cap : Nat) (is : List I3) (s : St) (d : Nat) (cp : Nat) (ra : Option Addr) (rcap : Nat) (ys : List R3) (w : World) (hv : progOk is = true) (hs : StOk is s) (hcode : Row3 w a is) (hpl : s.pl < is.length) (hst2 : s.steps ≠ 2000) (hsk : StrA w (some ⟨d, 0, none⟩) s.stack) (hcp : s.stack.length <= cp) (tt0 : ByteArray) (n0 : Nat) (hop : ix is s.pl = ⟨6, tt0, n0⟩) (hfew : 2 <= s.stack.length) (hmany : s.stack.length + 1 <= 50 + 2) (hyl : ys.length <= 200) (hr0 : RowR w ra ys) :
    Calls Tryz.prog 119 #[.agg #[.slice a is.length cap], runV s.pl (.slice (some ⟨d, 0, none⟩) s.stack.length cp) s.steps s.looks, .slice ra ys.length rcap] w fun e w' => Below w.heap.size w w' /\ StepPost w.heap.size is ys s w' e := by
  obtain ⟨o, tt, n, q, EI, ho1, ho2, ht, hn, hn2, hplI, hst3, HT, hlen, hp200, hst, hlk, hln, hb0, hR2, hR1, hz, hr, hc, EQ, HD⟩ := stA a cap (.slice (some ⟨d, 0, none⟩) s.stack.length cp) w hv hs hpl hst2
  unfold runV
  go_enter Tryz.func119, Tryz.ntmps119
  go_wp2_with fail
  refine (HD.out _).mono ?_
  rintro e w1 ⟨rfl, hb1⟩
  obtain ⟨W1, b, off, eW1, rfl, hB1, hz1, hr1, hc1, x0, fr, hBW, hzW, hrW, hcW, hl1, e1, e2, e3, xW, a1, a2, a3⟩ := stB hb0 hb1 hz hr hc hcode hpl EI
  clear hz hr hc hb0 hb1 HD
  obtain ⟨r0, r1, r2, r3, r4, r5, r6, r7, r8, r9⟩ := c10 hr1
  obtain ⟨y0, y1, y2, y3, y4, y5, y6, y7, y8, y9⟩ := c10 hrW
  obtain ⟨b0, b1, b2, b3, b4, b5, b6, b7, b8, b9⟩ := c10a hrW
  obtain ⟨htk2, hpt2⟩ := tp_le o ho2
  have hskW := hsk.below hBW
  obtain ⟨m, em⟩ : ∃ m, s.stack.length = m + 2 := ⟨s.stack.length - 2, by omega⟩
  obtain ⟨b2, off2, eb2, hk1⟩ := hskW (m + 1) (by omega)
  simp only [Option.some.injEq, Addr.mk.injEq, and_true] at eb2
  obtain ⟨rfl, rfl⟩ := eb2
  rw [Nat.zero_add] at hk1
  obtain ⟨b4, off4, eb4, hj1⟩ := hskW (m) (by omega)
  simp only [Option.some.injEq, Addr.mk.injEq, and_true] at eb4
  obtain ⟨rfl, rfl⟩ := eb4
  rw [Nat.zero_add] at hj1
  have eo : o = 6 := by have h := EI.out.symm.trans hop; simp at h; omega
  subst eo
  clear HT htk2 hpt2
  have a1 : ∀ x, (W1.alloc x).cell? ⟨b, off + s.pl * 3, none⟩ = some (.int .i64 6) := a1
  have e1 : W1.cell? ⟨b, off + s.pl * 3, none⟩ = some (.int .i64 6) := e1
  have hk2 : ∀ x, (W1.alloc x).cell? ⟨d, m + 1, none⟩ = some (.string (s.stack.getD (m + 1) ByteArray.empty)) := fun x => by rw [World.cell?_alloc_lt _ _ _ (World.block_lt_of_cell? _ _ hk1)]; exact hk1
  have hj2 : ∀ x, (W1.alloc x).cell? ⟨d, m, none⟩ = some (.string (s.stack.getD m ByteArray.empty)) := fun x => by rw [World.cell?_alloc_lt _ _ _ (World.block_lt_of_cell? _ _ hj1)]; exact hj1
  obtain ⟨top, etop⟩ : ∃ top, s.stack.getD (m + 1) ByteArray.empty = top := ⟨_, rfl⟩
  have TOPE : Hid (topB s.stack = top) := by show topB s.stack = top; unfold topB; rw [em, show m + 2 - 1 = m + 1 from rfl]; exact etop
  rw [etop] at hk1 hk2
  clear etop
  obtain ⟨sub, esub⟩ : ∃ sub, s.stack.getD m ByteArray.empty = sub := ⟨_, rfl⟩
  have SUBE : Hid (subB s.stack = sub) := by show subB s.stack = sub; unfold subB; rw [em, Nat.add_sub_cancel]; exact esub
  rw [esub] at hj1 hj2
  clear esub
  have htop : top.size <= 2000 := by rw [<- TOPE.out]; exact top_le hs (by omega)
  have hsub : sub.size <= 2000 := by rw [<- SUBE.out]; exact sub_le hs hfew
  have hmI : (m : Int) + 2 <= 50 := by omega
  clear hop ho1 ho2
  have c1 : ∀ x y, ((W1.alloc x).alloc y).cell? ⟨w.heap.size + 1, 1, none⟩ = some (.slice (some ⟨d, 0, none⟩) s.stack.length cp) := fun x y => by rw [World.cell?_alloc_lt _ _ _ (World.block_lt_of_cell? _ _ (b1 x))]; exact b1 x
  rw [em] at c1
  obtain ⟨i0, hi, hz0, hzz1, hzz2⟩ := info_parts Tryz.info9b
  have hWW : w.heap.size <= W1.heap.size := hBW.size
  have hne1 : w1.heap.size ≠ w.heap.size + 1 := by have := blk_lt hz1; omega
  have hne2 : w.heap.size + 1 ≠ w1.heap.size := fun h => hne1 h.symm
  have hown0 : ((W1.alloc (.cells #[.int .i64 6, .string tt, .int .i64 n] 138)).alloc (.cells #[] 9)).ownsRow (w1.heap.size + 1) 9 1 (.slice (some ⟨w1.heap.size + 1, 0, none⟩) 0 0) 0 [] := by
    have h := World.ownsRow_lit (base := w1.heap.size + 1) (e := 9) (size := 1) (W1.alloc (.cells #[.int .i64 6, .string tt, .int .i64 n] 138)) #[] 0 (by simp [hl1]) (by unfold maxLen; omega) (by simp)
    rw [show (W1.alloc (.cells #[.int .i64 6, .string tt, .int .i64 n] 138)).heap.size = w1.heap.size + 1 from by simp [hl1]] at h
    exact h
  have hnews : ∀ j u, ((s.stack.take m).map Value.string)[j]? = some u -> ((W1.alloc (.cells #[.int .i64 6, .string tt, .int .i64 n] 138)).alloc (.cells #[] 9)).cell? ((⟨d, 0, none⟩ : Addr).add j) = some u := fun j u hu => by
    rw [List.getElem?_map] at hu
    have hj : j < m := by
      rcases Nat.lt_or_ge j m with h | h
      · exact h
      · rw [List.getElem?_eq_none (by simp; omega)] at hu; simp at hu
    obtain ⟨b3, off3, eb3, hk3⟩ := hskW j (by omega)
    simp only [Option.some.injEq, Addr.mk.injEq, and_true] at eb3
    obtain ⟨rfl, rfl⟩ := eb3
    rw [Addr.add_lit, World.cell?_alloc_lt _ _ _ (Nat.lt_trans (World.block_lt_of_cell? _ _ hk3) (by simp)), World.cell?_alloc_lt _ _ _ (World.block_lt_of_cell? _ _ hk3), hk3, <- hu, List.getElem?_take, if_pos hj, List.getD_eq_getElem?_getD, List.getElem?_eq_getElem (show j < s.stack.length by omega)]
    rfl
  have hz3 : (W1.alloc (.cells #[.int .i64 6, .string tt, .int .i64 n] 138)).heap[w.heap.size + 1 + 1]? = some zR := by rw [Lib.alloc_old _ _ _ (blk_lt hzW)]; exact hzW
  have hr3 : (W1.alloc (.cells #[.int .i64 6, .string tt, .int .i64 n] 138)).heap[w.heap.size + 1]? = some (rR s.pl d s.stack.length cp ((s.steps : Int) + 1) s.looks) := by rw [Lib.alloc_old _ _ _ (blk_lt hrW)]; exact hrW
  have hi3 : (W1.alloc (.cells #[.int .i64 6, .string tt, .int .i64 n] 138)).heap[w1.heap.size]? = some (.cells #[.int .i64 6, .string tt, .int .i64 n] 138 (0, 0)) := by rw [<- hl1]; exact heap_new _ _
  have hB3 : Below w.heap.size w (W1.alloc (.cells #[.int .i64 6, .string tt, .int .i64 n] 138)) := hBW.alloc hWW _
  have HM : Hid (∀ (b' : Nat) (cs' : Array Value) (T' : Nat), T' ≠ 9 -> (W1.alloc (.cells #[.int .i64 6, .string tt, .int .i64 n] 138)).heap[b']? = some (.cells cs' T' (0, 0)) -> some b' ≠ (Value.slice (some ⟨w1.heap.size + 1, 0, none⟩) 0 0).ownBlock) := fun b' cs' T' hT' hb' => cells_ne hT' (by rw [Lib.alloc_old _ _ _ (blk_lt hb')]; exact hb') hown0
  obtain ⟨x, ex⟩ : ∃ x, (flagB (sub.toList == top.toList)) = x := ⟨_, rfl⟩
  have OX : Hid (outP 6 tt n (topB s.stack) (subB s.stack) = [x]) := by show outP 6 tt n (topB s.stack) (subB s.stack) = [x]; rw [<- ex, TOPE.out, SUBE.out]; rfl
  have HP : Hid (∀ W : World, Calls Tryz.prog 135 #[.agg #[.int .i64 6, .string tt, .int .i64 n], .string top, .string sub] W fun e w' => Below W.heap.size W w' /\ ∃ g c, e = .returned (.slice (some ⟨g, 0, none⟩) 1 c) /\ w'.cell? ⟨g, 0, none⟩ = some (.string x)) := fun W => plain1 6 tt n top sub x W (by rw [<- ex]; rfl) (htop) (hsub) hn (by omega) (by omega)
  clear ex
  have hw1 : w.heap.size <= w1.heap.size + 1 := by have := hB1.size; omega
  have hz1s : w.heap.size + 1 + 1 < w1.heap.size + 1 := by have := blk_lt hz1; omega
  go_wp2_with (first | (go_at_call 133; refine (l2Takes_6 _).mono ?_; rintro e w9 ⟨rfl, rfl⟩) | (at_builtin; refine wpList_append_own _ rfl (.tmp 87) (.tmp 95) 22 rfl (w1.heap.size + 1) 9 i0 (.string ⟨#[]⟩) 1 16 Tryz.underlying22 hi hz0 hzz1 hzz2 rfl (by decide) _ 0 [] rfl hown0 ⟨d, 0, none⟩ m cp ((s.stack.take m).map .string) rfl (by simp; omega) hnews (by intro u hu; obtain ⟨z, _, rfl⟩ := List.mem_map.mp hu; rfl) (by unfold maxLen; omega) (by omega) (by simp [hl1]) ?_; intro v' w2 hown' hgrow hnil; obtain ⟨g, cpn, rfl, hown2⟩ := own_out hown' hnil; have q1 := keep_grown hgrow HM.out _ _ 199 (by decide) hr3; have q2 := keep_grown hgrow HM.out _ _ 199 (by decide) hz3; have q3 := keep_grown hgrow HM.out _ _ 138 (by decide) hi3; have hbB : Below w.heap.size w w2 := (hB3.alloc (by simp; omega) _).grown hgrow (by simp; omega) (fun k hk => Nat.le_trans hw1 (hown0.lt k hk).1); have p0 := Lib.cell_of_heap q1 0; have p1 := Lib.cell_of_heap q1 1; have p2 := Lib.cell_of_heap q1 2; have p3 := Lib.cell_of_heap q1 3; have p4 := Lib.cell_of_heap q1 4; have p5 := Lib.cell_of_heap q1 5; have p6 := Lib.cell_of_heap q1 6; have p7 := Lib.cell_of_heap q1 7; have p8 := Lib.cell_of_heap q1 8; have p9 := Lib.cell_of_heap q1 9; simp only [List.getElem?_toArray, List.getElem?_cons_zero, List.getElem?_cons_succ] at p0 p1 p2 p3 p4 p5 p6 p7 p8 p9; have p61 : w2.cell? ⟨w1.heap.size, 0, none⟩ = some (.int .i64 6) := (by rw [Lib.cell_of_heap q3]; rfl); have p62 : w2.cell? ⟨w1.heap.size, 1, none⟩ = some (.string tt) := (by rw [Lib.cell_of_heap q3]; rfl); have p63 : w2.cell? ⟨w1.heap.size, 2, none⟩ = some (.int .i64 n) := (by rw [Lib.cell_of_heap q3]; rfl); have fq : ∀ j, w2.frozen? ⟨w.heap.size + 1, j, none⟩ = false := (fun j => Lib.frozen_of_heap q1 j); have Q1 : Hid (w2.heap[w.heap.size + 1]? = some (rR s.pl d s.stack.length cp ((s.steps : Int) + 1) s.looks)) := q1; have Q2 : Hid (w2.heap[w.heap.size + 1 + 1]? = some zR) := q2; have Q3 : Hid (w2.heap[w1.heap.size]? = some (.cells #[.int .i64 6, .string tt, .int .i64 n] 138 (0, 0))) := q3; have HO2 : Hid (w2.ownsRow (w1.heap.size + 1) 9 1 (.slice (some ⟨g, 0, none⟩) m cpn) m (strV (s.stack.take m))) := hown2; clear q1 q2 q3 hown' hgrow hnil hown2))
  have hbW : Below w.heap.size w (w2.setCell ⟨w.heap.size + 1, 0, none⟩ (.int .i64 ((s.pl : Int) + 1))) := hbB.setCell (p := ⟨w.heap.size + 1, 0, none⟩) hR1 _
  have hrW2 : (w2.setCell ⟨w.heap.size + 1, 0, none⟩ (.int .i64 ((s.pl : Int) + 1))).heap[w.heap.size + 1]? = some (rR ((s.pl : Int) + 1) d s.stack.length cp ((s.steps : Int) + 1) s.looks) := by rw [Joins.block_setCell Q1.out]; rfl
  have hzW2 : (w2.setCell ⟨w.heap.size + 1, 0, none⟩ (.int .i64 ((s.pl : Int) + 1))).heap[w.heap.size + 1 + 1]? = some zR := by rw [Below.heap_setCell w2 ⟨w.heap.size + 1, 0, none⟩ _ _ (by simp)]; exact Q2.out
  have hiW2 : (w2.setCell ⟨w.heap.size + 1, 0, none⟩ (.int .i64 ((s.pl : Int) + 1))).heap[w1.heap.size]? = some (.cells #[.int .i64 6, .string tt, .int .i64 n] 138 (0, 0)) := by rw [Below.heap_setCell w2 ⟨w.heap.size + 1, 0, none⟩ _ _ hne1]; exact Q3.out
  have hoW2 := (own96 ⟨HO2.out, _, Q1.out⟩ 0 (.int .i64 ((s.pl : Int) + 1))).1
  obtain ⟨W2, eW2⟩ : ∃ W2, (w2.setCell ⟨w.heap.size + 1, 0, none⟩ (.int .i64 ((s.pl : Int) + 1))) = W2 := ⟨_, rfl⟩
  rw [eW2] at hbW hrW2 hzW2 hiW2 hoW2
  rw [eW2]
  clear eW2
  clear p0 p1 p2 p3 p4 p5 p6 p7 p8 p9 p61 p62 p63 fq
  clear Q1 Q2 Q3 HO2
  have i61 : W2.cell? ⟨w1.heap.size, 0, none⟩ = some (.int .i64 6) := by rw [Lib.cell_of_heap hiW2]; rfl
  have i62 : W2.cell? ⟨w1.heap.size, 1, none⟩ = some (.string tt) := by rw [Lib.cell_of_heap hiW2]; rfl
  have i63 : W2.cell? ⟨w1.heap.size, 2, none⟩ = some (.int .i64 n) := by rw [Lib.cell_of_heap hiW2]; rfl
  refine wp_loop_rounds 2 ?_
  rw [rounds_succ]
  go_wp2_with fail
  refine (HP.out _).mono ?_
  rintro e w3 ⟨hb3, g3, c3, rfl, hx0⟩
  have hB31 : Below w.heap.size w w3 := bN hbW hb3
  have hr41 := blkB hb3 hrW2
  have hz41 := blkB hb3 hzW2
  have hi41 := blkB hb3 hiW2
  have ho41 := ownsRow_below hoW2 hb3
  have hsz1 : w1.heap.size < w3.heap.size := blk_lt hi41
  clear hb3
  clear i61 i62 i63 hbW hrW2 hzW2 hiW2 hoW2
  have HM1 : Hid (∀ (b' : Nat) (cs' : Array Value) (T' : Nat), T' ≠ 9 -> w3.heap[b']? = some (.cells cs' T' (0, 0)) -> some b' ≠ (Value.slice (some ⟨g, 0, none⟩) m cpn).ownBlock) := fun b' cs' T' hT' hb' => cells_ne hT' hb' ho41
  have hown6 := ho41.alloc (.cells #[.string x] 9)
  by_cases hx : x.size <= 2000
  · have HSTEP : Hid (step0 is s = .go ⟨s.pl + 1, s.stack.take m ++ [x], s.steps + 1, s.looks⟩) := step_go hpl hst2 EI.out (by omega) (show s.stack.length = m + takesN 6 from em) OX.out (by simp; omega) (by intro z hz; simp at hz; subst hz; exact hx) rfl
    have hxI : (x.size : Int) <= 2000 := by omega
    have HRa : Hid (w3.heap[w.heap.size + 1]? = some (rR ((s.pl : Int) + 1) d s.stack.length cp ((s.steps : Int) + 1) s.looks)) := hr41
    have HZa : Hid (w3.heap[w.heap.size + 1 + 1]? = some zR) := hz41
    have HIa : Hid (w3.heap[w1.heap.size]? = some (.cells #[.int .i64 6, .string tt, .int .i64 n] 138 (0, 0))) := hi41
    clear hr41 hz41 hi41
    go_wp2_with (at_builtin; refine wpList_append_own _ rfl (.tmp 158) (.tmp 163) 22 rfl (w1.heap.size + 1) 9 i0 (.string ⟨#[]⟩) 1 16 Tryz.underlying22 hi hz0 hzz1 hzz2 rfl (by decide) _ _ _ rfl hown6 ⟨w3.heap.size, 0, none⟩ 1 1 [.string x] rfl rfl ?_ (by intro u hu; simp at hu; subst hu; rfl) (by unfold maxLen; omega) (by omega) (by simp; omega) ?_; (focus (have := cell_one_new w3 (.string x) 9; simpa using this)); intro v6 w6 hown7 hgrow6 hnil6; obtain ⟨g6, c6, rfl, hown81⟩ := own_add hown7; have HR61 := keep_grown hgrow6 HM1.out _ _ 199 (by decide) HRa.out; have HZ61 := keep_grown hgrow6 HM1.out _ _ 199 (by decide) HZa.out; have HI61 := keep_grown hgrow6 HM1.out _ _ 138 (by decide) HIa.out; have hbB61 : Below w.heap.size w w6 := (hB31.alloc (by have := blk_lt HRa.out; omega) _).grown hgrow6 (by have := blk_lt HRa.out; simp; omega) (fun k hk => Nat.le_trans hw1 (hown6.lt k hk).1); clear hnil6 hown7 hgrow6)
    obtain ⟨p0, p1, p2, p3, p4, p5, p6, p7, p8, p9⟩ := c10 HR61
    have fp : ∀ j, w6.frozen? ⟨w.heap.size + 1, j, none⟩ = false := fun j => Lib.frozen_of_heap HR61 j
    rw [em] at p1
    obtain ⟨z0, z1, z2, z3, z4, z5, z6, z7, z8, z9⟩ := c10 HZ61
    have fz : ∀ j, w6.frozen? ⟨w.heap.size + 1 + 1, j, none⟩ = false := fun j => Lib.frozen_of_heap HZ61 j
    have HB : Hid (Below w.heap.size w w6) := hbB61
    have HR : Hid (w6.heap[w.heap.size + 1]? = some (rR ((s.pl : Int) + 1) d s.stack.length cp ((s.steps : Int) + 1) s.looks)) := HR61
    have HZ : Hid (w6.heap[w.heap.size + 1 + 1]? = some zR) := HZ61
    have HOW : Hid (w6.ownsRow (w1.heap.size + 1) 9 1 (.slice (some ⟨g6, 0, none⟩) (m + 1) c6) (m + 1) (strV (s.stack.take m ++ [x]))) := hown81
    clear hbB61 HR61 HZ61 hown81 HI61 hown6 ho41
    rw [rounds_succ]
    go_wp2_with fail
    exact bodyPost_ret (v := runV ((s.pl : Int) + 1) (.slice (some ⟨g6, 0, none⟩) (m + 1) c6) ((s.steps : Int) + 1) s.looks) (by simp [results, Tryz.results119, go_sem, runV, z0, z1, z2, z3, z4, z5, z6, z7, z8, z9]) rfl ⟨((((((((((HB.out.setCell (p := ⟨w.heap.size + 1, 1, none⟩) hR1 _).setCell (p := ⟨w.heap.size + 1 + 1, 0, none⟩) hR2 _).setCell (p := ⟨w.heap.size + 1 + 1, 1, none⟩) hR2 _).setCell (p := ⟨w.heap.size + 1 + 1, 2, none⟩) hR2 _).setCell (p := ⟨w.heap.size + 1 + 1, 3, none⟩) hR2 _).setCell (p := ⟨w.heap.size + 1 + 1, 4, none⟩) hR2 _).setCell (p := ⟨w.heap.size + 1 + 1, 5, none⟩) hR2 _).setCell (p := ⟨w.heap.size + 1 + 1, 6, none⟩) hR2 _).setCell (p := ⟨w.heap.size + 1 + 1, 7, none⟩) hR2 _).setCell (p := ⟨w.heap.size + 1 + 1, 8, none⟩) hR2 _).setCell (p := ⟨w.heap.size + 1 + 1, 9, none⟩) hR2 _, (post_set10 (go_post HSTEP.out (by simp; omega) rfl (own96 ⟨HOW.out, _, HR.out⟩ 1 _).1) ⟨_, by rw [Below.heap_setCell _ ⟨w.heap.size + 1, 1, none⟩ _ _ (by simp)]; exact HZ.out⟩ _ _ _ _ _ _ _ _ _ _).mono hw1⟩
  · have HSTEP : Hid (step0 is s = .over 2 q (s.steps + 1)) := by
      have h := step_stuck hpl hst2 EI.out (by omega) (show s.stack.length = m + takesN 6 from em) OX.out (by omega)
      rw [EQ.out] at h
      exact h
    have hxI : (2000 : Int) < (x.size : Int) := by omega
    obtain ⟨p0, p1, p2, p3, p4, p5, p6, p7, p8, p9⟩ := c10 hr41
    have fp : ∀ j, w3.frozen? ⟨w.heap.size + 1, j, none⟩ = false := fun j => Lib.frozen_of_heap hr41 j
    rw [em] at p1
    have HZa : Hid (w3.heap[w.heap.size + 1 + 1]? = some zR) := hz41
    clear hr41 hz41 hi41 hown6 ho41
    go_wp2_with fail
    have hl := l2End_any ((s.pl : Int) + 1) (some ⟨d, 0, none⟩) (m + 2) cp ((s.steps : Int) + 1) s.looks 2 q
    unfold runV at hl
    refine (hl _).mono ?_
    rintro e w4 ⟨rfl, hb4⟩
    have hB2 : Below w.heap.size w w4 := bN hB31 hb4
    have hz2 : w4.heap[w.heap.size + 1 + 1]? = some zR := by rw [hb4.block _ (blk_lt HZa.out)]; exact HZa.out
    obtain ⟨z0, z1, z2, z3, z4, z5, z6, z7, z8, z9⟩ := c10 hz2
    have fz : ∀ j, w4.frozen? ⟨w.heap.size + 1 + 1, j, none⟩ = false := fun j => Lib.frozen_of_heap hz2 j
    clear hz2 hb4 hl
    unfold overV
    go_wp2_with fail
    exact bodyPost_ret (v := overV ((s.pl : Int) + 1) (.slice (some ⟨d, 0, none⟩) (m + 2) cp) ((s.steps : Int) + 1) s.looks 2 q) (by simp [results, Tryz.results119, go_sem, overV, z0, z1, z2, z3, z4, z5, z6, z7, z8, z9]) rfl ⟨((((((((((hB2).setCell (p := ⟨w.heap.size + 1 + 1, 0, none⟩) hR2 _).setCell (p := ⟨w.heap.size + 1 + 1, 1, none⟩) hR2 _).setCell (p := ⟨w.heap.size + 1 + 1, 2, none⟩) hR2 _).setCell (p := ⟨w.heap.size + 1 + 1, 3, none⟩) hR2 _).setCell (p := ⟨w.heap.size + 1 + 1, 4, none⟩) hR2 _).setCell (p := ⟨w.heap.size + 1 + 1, 5, none⟩) hR2 _).setCell (p := ⟨w.heap.size + 1 + 1, 6, none⟩) hR2 _).setCell (p := ⟨w.heap.size + 1 + 1, 7, none⟩) hR2 _).setCell (p := ⟨w.heap.size + 1 + 1, 8, none⟩) hR2 _).setCell (p := ⟨w.heap.size + 1 + 1, 9, none⟩) hR2 _, Or.inl ⟨2, q, s.steps + 1, HSTEP.out, _, _, _, _, _, rfl⟩⟩
end Go.Proofs.YtbbfboikigmghaaGreatDoor
