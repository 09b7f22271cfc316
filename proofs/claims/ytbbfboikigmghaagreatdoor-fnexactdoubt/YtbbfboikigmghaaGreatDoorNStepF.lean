import Derived.Test.YtbbfboikigmghaaGreatDoorNStepE
namespace Go.Proofs.YtbbfboikigmghaaGreatDoor
open Go.RowKit
set_option linter.unusedVariables false
set_option maxHeartbeats 32000000
set_option maxRecDepth 100000
def putsN (o : Nat) : Nat := (putsOf.getD o 0).toNat
theorem puts_eq (o : Nat) (h : o <= 15) : putsOf.getD o 0 = ((putsN o : Nat) : Int) := by
  rcases (show o = 0 \/ o = 1 \/ o = 2 \/ o = 3 \/ o = 4 \/ o = 5 \/ o = 6 \/ o = 7 \/ o = 8 \/ o = 9 \/ o = 10 \/ o = 11 \/ o = 12 \/ o = 13 \/ o = 14 \/ o = 15 from by omega) with rfl | rfl | rfl | rfl | rfl | rfl | rfl | rfl | rfl | rfl | rfl | rfl | rfl | rfl | rfl | rfl <;> rfl
theorem tp_le (o : Nat) (h : o <= 15) : takesN o <= 2 /\ putsN o <= 2 := by
  rcases (show o = 0 \/ o = 1 \/ o = 2 \/ o = 3 \/ o = 4 \/ o = 5 \/ o = 6 \/ o = 7 \/ o = 8 \/ o = 9 \/ o = 10 \/ o = 11 \/ o = 12 \/ o = 13 \/ o = 14 \/ o = 15 from by omega) with rfl | rfl | rfl | rfl | rfl | rfl | rfl | rfl | rfl | rfl | rfl | rfl | rfl | rfl | rfl | rfl <;> decide
abbrev rV (p : Int) (sv : Value) (s : Int) (l : Nat) : Obj := .cells #[.int .i64 p, sv, .int .i64 s, .int .i64 l, .bool false, .int .i64 0, .string ⟨#[]⟩, .bool false, .string ⟨#[]⟩, .bool false] 199 (0, 0)
abbrev w3R (a : Option Addr) (n cap : Nat) (sv : Value) (s : St) (w : World) : World := ((w.alloc (.cells #[.slice a n cap] 83)).alloc (rV s.pl sv s.steps s.looks)).alloc zR
theorem stA {is : List I3} {s : St} (a : Option Addr) (cap : Nat) (sv : Value) (w : World) (hv : progOk is = true) (hs : StOk is s) (hpl : s.pl < is.length) (hst2 : s.steps ≠ 2000) :
    ∃ (o : Nat) (tt : ByteArray) (n : Nat) (q : ByteArray), Hid (ix is s.pl = ⟨o, tt, n⟩) /\ 1 <= o /\ o <= 15 /\ tt.size <= 2000 /\ n <= 2000 /\ ((o = 10 \/ o = 11) -> n <= 200) /\ (s.pl : Int) < (is.length : Int) /\ ((s.steps : Int) == 2000) = false /\ Hid (∀ W : World, Calls Tryz.prog 133 #[.int .i64 o] W fun e w' => e = .returned (.tuple #[.int .i64 (takesN o : Nat), .int .i64 (putsN o : Nat)]) /\ W = w') /\ (1 <= is.length /\ is.length <= 200) /\ s.pl <= 200 /\ s.steps <= 2000 /\ s.looks <= 200 /\ s.stack.length <= 50 /\ Below w.heap.size w (w3R a is.length cap sv s w) /\ w.heap.size <= w.heap.size + 1 + 1 /\ w.heap.size <= w.heap.size + 1 /\ (w3R a is.length cap sv s w).heap[w.heap.size + 1 + 1]? = some zR /\ (w3R a is.length cap sv s w).heap[w.heap.size + 1]? = some (rV s.pl sv s.steps s.looks) /\ (w3R a is.length cap sv s w).heap[w.heap.size]? = some (.cells #[.slice a is.length cap] 83 (0, 0)) /\ Hid (decB s.pl = q) /\ Hid (∀ W : World, Calls Tryz.prog 68 #[.int .i64 s.pl] W fun e w' => e = .returned (.string q) /\ Below W.heap.size W w') := by
  obtain ⟨o, tt, n, ei, ho1, ho2, ht, hn, hn2⟩ := ok_parts hv hpl
  obtain ⟨hz, hr, hc⟩ := blk3 w (.cells #[.slice a is.length cap] 83 (0, 0)) (rV s.pl sv s.steps s.looks) zR
  refine ⟨o, tt, n, decB s.pl, ei, ho1, ho2, ht, hn, hn2, by omega, by simp; omega, fun W => by rw [<- takes_eq o ho2, <- puts_eq o ho2]; exact l2Takes_in o W ho1 ho2, prog_len hv, hs.pl, hs.steps, hs.looks, hs.len, (((Below.refl _ _).alloc (Nat.le_refl _) _).alloc (by simp) _).alloc (by simp; omega) _, by omega, by omega, hz, hr, hc, rfl, fun W => l2Dec_any s.pl W (by have := hs.pl; omega)⟩
theorem stB {is : List I3} {s : St} {a : Option Addr} {cap : Nat} {sv : Value} {w w1 : World} {o n : Nat} {tt : ByteArray} (hb0 : Below w.heap.size w (w3R a is.length cap sv s w)) (hb1 : Below (w3R a is.length cap sv s w).heap.size (w3R a is.length cap sv s w) w1) (hz : (w3R a is.length cap sv s w).heap[w.heap.size + 1 + 1]? = some zR) (hr : (w3R a is.length cap sv s w).heap[w.heap.size + 1]? = some (rV s.pl sv s.steps s.looks)) (hc : (w3R a is.length cap sv s w).heap[w.heap.size]? = some (.cells #[.slice a is.length cap] 83 (0, 0))) (hcode : Row3 w a is) (hpl : s.pl < is.length) (EI : Hid (ix is s.pl = ⟨o, tt, n⟩)) :
    ∃ (W1 : World) (b off : Nat), w1.setCell ⟨w.heap.size + 1, 2, none⟩ (.int .i64 ((s.steps : Int) + 1)) = W1 /\ a = some ⟨b, off, none⟩ /\ Below w.heap.size w w1 /\ w1.heap[w.heap.size + 1 + 1]? = some zR /\ w1.heap[w.heap.size + 1]? = some (rV s.pl sv s.steps s.looks) /\ w1.heap[w.heap.size]? = some (.cells #[.slice a is.length cap] 83 (0, 0)) /\ w1.cell? ⟨w.heap.size, 0, none⟩ = some (.slice a is.length cap) /\ (∀ j, w1.frozen? ⟨w.heap.size + 1, j, none⟩ = false) /\ Below w.heap.size w W1 /\ W1.heap[w.heap.size + 1 + 1]? = some zR /\ W1.heap[w.heap.size + 1]? = some (rV s.pl sv ((s.steps : Int) + 1) s.looks) /\ W1.heap[w.heap.size]? = some (.cells #[.slice a is.length cap] 83 (0, 0)) /\ W1.heap.size = w1.heap.size /\ W1.cell? ⟨b, off + s.pl * 3, none⟩ = some (.int .i64 o) /\ W1.cell? ⟨b, off + s.pl * 3 + 1, none⟩ = some (.string tt) /\ W1.cell? ⟨b, off + s.pl * 3 + 2, none⟩ = some (.int .i64 n) /\ W1.cell? ⟨w.heap.size, 0, none⟩ = some (.slice (some ⟨b, off, none⟩) is.length cap) /\ (∀ x, (W1.alloc x).cell? ⟨b, off + s.pl * 3, none⟩ = some (.int .i64 o)) /\ (∀ x, (W1.alloc x).cell? ⟨b, off + s.pl * 3 + 1, none⟩ = some (.string tt)) /\ ∀ x, (W1.alloc x).cell? ⟨b, off + s.pl * 3 + 2, none⟩ = some (.int .i64 n) := by
  have hB1 : Below w.heap.size w w1 := bN hb0 hb1
  have hz1 := blkB hb1 hz
  have hr1 := blkB hb1 hr
  have hc1 := blkB hb1 hc
  have x0 : w1.cell? ⟨w.heap.size, 0, none⟩ = some (.slice a is.length cap) := by rw [Lib.cell_of_heap hc1]; rfl
  obtain ⟨W1, eW1⟩ : ∃ W1, w1.setCell ⟨w.heap.size + 1, 2, none⟩ (.int .i64 ((s.steps : Int) + 1)) = W1 := ⟨_, rfl⟩
  have hBW : Below w.heap.size w W1 := by rw [<- eW1]; exact hB1.setCell (p := ⟨w.heap.size + 1, 2, none⟩) (Nat.le_succ _) _
  have hzW : W1.heap[w.heap.size + 1 + 1]? = some zR := by rw [<- eW1, Below.heap_setCell w1 ⟨w.heap.size + 1, 2, none⟩ _ _ (by simp)]; exact hz1
  have hrW : W1.heap[w.heap.size + 1]? = some (rV s.pl sv ((s.steps : Int) + 1) s.looks) := by rw [<- eW1, Joins.block_setCell hr1]; rfl
  have hcW : W1.heap[w.heap.size]? = some (.cells #[.slice a is.length cap] 83 (0, 0)) := by rw [<- eW1, Below.heap_setCell w1 ⟨w.heap.size + 1, 2, none⟩ _ _ (by simp)]; exact hc1
  obtain ⟨b, off, rfl, e1, e2, e3⟩ := (hcode.below hBW) s.pl hpl
  rw [EI.out] at e1 e2 e3
  have hal : ∀ (p : Addr) (v : Value) (x : Obj), W1.cell? p = some v -> (W1.alloc x).cell? p = some v := fun p v x h => by rw [World.cell?_alloc_lt _ _ _ (World.block_lt_of_cell? _ _ h)]; exact h
  exact ⟨W1, b, off, eW1, rfl, hB1, hz1, hr1, hc1, x0, fun j => Lib.frozen_of_heap hr1 j, hBW, hzW, hrW, hcW, by rw [<- eW1]; simp [go_sem], e1, e2, e3, by rw [Lib.cell_of_heap hcW]; rfl, fun x => hal _ _ x e1, fun x => hal _ _ x e2, fun x => hal _ _ x e3⟩
theorem puts_len (o : Nat) (h1 : 1 <= o) (h : o <= 11) (t : ByteArray) (n : Nat) (a b : ByteArray) : (outP o t n a b).length = putsN o := by
  rcases (show o = 1 \/ o = 2 \/ o = 3 \/ o = 4 \/ o = 5 \/ o = 6 \/ o = 7 \/ o = 8 \/ o = 9 \/ o = 10 \/ o = 11 from by omega) with rfl | rfl | rfl | rfl | rfl | rfl | rfl | rfl | rfl | rfl | rfl <;> rfl
theorem too_many {o : Nat} {l : List ByteArray} (h1 : 1 <= o) (h : o <= 15) (hl : l.length <= 50) (hf : ¬ l.length < takesN o) (hm : 50 < l.length - takesN o + putsN o) : o <= 11 := by
  rcases (show o <= 11 \/ o = 12 \/ o = 13 \/ o = 14 \/ o = 15 by omega) with h | rfl | rfl | rfl | rfl
  · exact h
  · have e1 : takesN 12 = 1 := rfl
    have e2 : putsN 12 = 1 := rfl
    omega
  · have e1 : takesN 13 = 1 := rfl
    have e2 : putsN 13 = 1 := rfl
    omega
  · have e1 : takesN 14 = 1 := rfl
    have e2 : putsN 14 = 0 := rfl
    omega
  · have e1 : takesN 15 = 1 := rfl
    have e2 : putsN 15 = 0 := rfl
    omega
theorem step_few (a : Option Addr) (cap : Nat) (is : List I3) (s : St) (sa : Option Addr) (cp : Nat) (ra : Option Addr) (rcap : Nat) (ys : List R3) (w : World) (hv : progOk is = true) (hs : StOk is s) (hcode : Row3 w a is) (hpl : s.pl < is.length) (hst2 : s.steps ≠ 2000) (hfew : s.stack.length < takesN (ix is s.pl).op.toNat) :
    Calls Tryz.prog 119 #[.agg #[.slice a is.length cap], runV s.pl (.slice sa s.stack.length cp) s.steps s.looks, .slice ra ys.length rcap] w fun e w' => Below w.heap.size w w' /\ StepPost w.heap.size is ys s w' e := by
  obtain ⟨o, tt, n, q, EI, ho1, ho2, ht, hn, hn2, hplI, hst3, HT, hlen, hp200, hst, hlk, hln, hb0, hR2, hR1, hz, hr, hc, EQ, HD⟩ := stA a cap (.slice sa s.stack.length cp) w hv hs hpl hst2
  unfold runV
  go_enter Tryz.func119, Tryz.ntmps119
  go_wp2_with fail
  refine (HD.out _).mono ?_
  rintro e w1 ⟨rfl, hb1⟩
  obtain ⟨W1, b, off, eW1, rfl, hB1, hz1, hr1, hc1, x0, fr, hBW, hzW, hrW, hcW, hl1, e1, e2, e3, xW, a1, a2, a3⟩ := stB hb0 hb1 hz hr hc hcode hpl EI
  clear hz hr hc hb0 hb1 HD
  obtain ⟨r0, r1, r2, r3, r4, r5, r6, r7, r8, r9⟩ := c10 hr1
  obtain ⟨y0, y1, y2, y3, y4, y5, y6, y7, y8, y9⟩ := c10 hrW
  obtain ⟨b0, b1, b2, b3, b4, b5, b6, b7, b8, b9⟩ := c10a hrW
  obtain ⟨htk2, hpt2⟩ := tp_le o ho2
  rw [EI.out] at hfew
  simp only [Int.toNat_natCast] at hfew
  have hfI : (s.stack.length : Int) < (takesN o : Int) := by omega
  have HST : Hid (step0 is s = .over 2 (decB s.pl) (s.steps + 1)) := (st_ins hpl hst2 EI.out).trans (ins_few hfew)
  rw [EQ.out] at HST
  have hbl : Below W1.heap.size W1 (W1.alloc (.cells #[.int .i64 o, .string tt, .int .i64 n] 138)) := (Below.refl _ _).alloc (Nat.le_refl _) _
  have hB3 : Below w.heap.size w (W1.alloc (.cells #[.int .i64 o, .string tt, .int .i64 n] 138)) := bN hBW hbl
  have hz3 : (W1.alloc (.cells #[.int .i64 o, .string tt, .int .i64 n] 138)).heap[w.heap.size + 1 + 1]? = some zR := by rw [Lib.alloc_old _ _ _ (blk_lt hzW)]; exact hzW
  clear hfew hbl hst2
  go_wp2_with (first | (go_at_call 133; refine (HT.out _).mono ?_; rintro e w9 ⟨rfl, rfl⟩))
  have hl := l2End_any s.pl sa s.stack.length cp ((s.steps : Int) + 1) s.looks 2 q
  unfold runV at hl
  refine (hl _).mono ?_
  rintro e w2 ⟨rfl, hb2⟩
  have hB2 : Below w.heap.size w w2 := bN hB3 hb2
  have hz2 := blkB hb2 hz3
  obtain ⟨z0, z1, z2, z3, z4, z5, z6, z7, z8, z9⟩ := c10 hz2
  have fz : ∀ j, w2.frozen? ⟨w.heap.size + 1 + 1, j, none⟩ = false := fun j => Lib.frozen_of_heap hz2 j
  clear hz2 hb2 hl
  unfold overV
  go_wp2_with fail
  exact bodyPost_ret (v := overV s.pl (.slice sa s.stack.length cp) ((s.steps : Int) + 1) s.looks 2 q) (by simp [results, Tryz.results119, go_sem, overV, z0, z1, z2, z3, z4, z5, z6, z7, z8, z9]) rfl ⟨((((((((((hB2).setCell (p := ⟨w.heap.size + 1 + 1, 0, none⟩) hR2 _).setCell (p := ⟨w.heap.size + 1 + 1, 1, none⟩) hR2 _).setCell (p := ⟨w.heap.size + 1 + 1, 2, none⟩) hR2 _).setCell (p := ⟨w.heap.size + 1 + 1, 3, none⟩) hR2 _).setCell (p := ⟨w.heap.size + 1 + 1, 4, none⟩) hR2 _).setCell (p := ⟨w.heap.size + 1 + 1, 5, none⟩) hR2 _).setCell (p := ⟨w.heap.size + 1 + 1, 6, none⟩) hR2 _).setCell (p := ⟨w.heap.size + 1 + 1, 7, none⟩) hR2 _).setCell (p := ⟨w.heap.size + 1 + 1, 8, none⟩) hR2 _).setCell (p := ⟨w.heap.size + 1 + 1, 9, none⟩) hR2 _, Or.inl ⟨2, q, s.steps + 1, HST.out, _, _, _, _, _, rfl⟩⟩
theorem step_many (a : Option Addr) (cap : Nat) (is : List I3) (s : St) (sa : Option Addr) (cp : Nat) (ra : Option Addr) (rcap : Nat) (ys : List R3) (w : World) (hv : progOk is = true) (hs : StOk is s) (hcode : Row3 w a is) (hpl : s.pl < is.length) (hst2 : s.steps ≠ 2000) (hfew : ¬ s.stack.length < takesN (ix is s.pl).op.toNat) (hmany : 50 < s.stack.length - takesN (ix is s.pl).op.toNat + putsN (ix is s.pl).op.toNat) :
    Calls Tryz.prog 119 #[.agg #[.slice a is.length cap], runV s.pl (.slice sa s.stack.length cp) s.steps s.looks, .slice ra ys.length rcap] w fun e w' => Below w.heap.size w w' /\ StepPost w.heap.size is ys s w' e := by
  obtain ⟨o, tt, n, q, EI, ho1, ho2, ht, hn, hn2, hplI, hst3, HT, hlen, hp200, hst, hlk, hln, hb0, hR2, hR1, hz, hr, hc, EQ, HD⟩ := stA a cap (.slice sa s.stack.length cp) w hv hs hpl hst2
  unfold runV
  go_enter Tryz.func119, Tryz.ntmps119
  go_wp2_with fail
  refine (HD.out _).mono ?_
  rintro e w1 ⟨rfl, hb1⟩
  obtain ⟨W1, b, off, eW1, rfl, hB1, hz1, hr1, hc1, x0, fr, hBW, hzW, hrW, hcW, hl1, e1, e2, e3, xW, a1, a2, a3⟩ := stB hb0 hb1 hz hr hc hcode hpl EI
  clear hz hr hc hb0 hb1 HD
  obtain ⟨r0, r1, r2, r3, r4, r5, r6, r7, r8, r9⟩ := c10 hr1
  obtain ⟨y0, y1, y2, y3, y4, y5, y6, y7, y8, y9⟩ := c10 hrW
  obtain ⟨b0, b1, b2, b3, b4, b5, b6, b7, b8, b9⟩ := c10a hrW
  obtain ⟨htk2, hpt2⟩ := tp_le o ho2
  rw [EI.out] at hfew hmany
  simp only [Int.toNat_natCast] at hfew hmany
  have hfI : ¬ (s.stack.length : Int) < (takesN o : Int) := by omega
  have hmI : 50 < (s.stack.length : Int) - (takesN o : Int) + (putsN o : Int) := by omega
  have ho11 := too_many ho1 ho2 hln hfew hmany
  have HST : Hid (step0 is s = .over 2 (decB s.pl) (s.steps + 1)) := (st_ins hpl hst2 EI.out).trans (ins_stuck hfew ho11 (Or.inl (by rw [restL_length, puts_len o ho1 ho11]; exact hmany)))
  rw [EQ.out] at HST
  have hbl : Below W1.heap.size W1 (W1.alloc (.cells #[.int .i64 o, .string tt, .int .i64 n] 138)) := (Below.refl _ _).alloc (Nat.le_refl _) _
  have hB3 : Below w.heap.size w (W1.alloc (.cells #[.int .i64 o, .string tt, .int .i64 n] 138)) := bN hBW hbl
  have hz3 : (W1.alloc (.cells #[.int .i64 o, .string tt, .int .i64 n] 138)).heap[w.heap.size + 1 + 1]? = some zR := by rw [Lib.alloc_old _ _ _ (blk_lt hzW)]; exact hzW
  clear hfew hbl hst2 hmany
  go_wp2_with (first | (go_at_call 133; refine (HT.out _).mono ?_; rintro e w9 ⟨rfl, rfl⟩))
  have hl := l2End_any s.pl sa s.stack.length cp ((s.steps : Int) + 1) s.looks 2 q
  unfold runV at hl
  refine (hl _).mono ?_
  rintro e w2 ⟨rfl, hb2⟩
  have hB2 : Below w.heap.size w w2 := bN hB3 hb2
  have hz2 := blkB hb2 hz3
  obtain ⟨z0, z1, z2, z3, z4, z5, z6, z7, z8, z9⟩ := c10 hz2
  have fz : ∀ j, w2.frozen? ⟨w.heap.size + 1 + 1, j, none⟩ = false := fun j => Lib.frozen_of_heap hz2 j
  clear hz2 hb2 hl
  unfold overV
  go_wp2_with fail
  exact bodyPost_ret (v := overV s.pl (.slice sa s.stack.length cp) ((s.steps : Int) + 1) s.looks 2 q) (by simp [results, Tryz.results119, go_sem, overV, z0, z1, z2, z3, z4, z5, z6, z7, z8, z9]) rfl ⟨((((((((((hB2).setCell (p := ⟨w.heap.size + 1 + 1, 0, none⟩) hR2 _).setCell (p := ⟨w.heap.size + 1 + 1, 1, none⟩) hR2 _).setCell (p := ⟨w.heap.size + 1 + 1, 2, none⟩) hR2 _).setCell (p := ⟨w.heap.size + 1 + 1, 3, none⟩) hR2 _).setCell (p := ⟨w.heap.size + 1 + 1, 4, none⟩) hR2 _).setCell (p := ⟨w.heap.size + 1 + 1, 5, none⟩) hR2 _).setCell (p := ⟨w.heap.size + 1 + 1, 6, none⟩) hR2 _).setCell (p := ⟨w.heap.size + 1 + 1, 7, none⟩) hR2 _).setCell (p := ⟨w.heap.size + 1 + 1, 8, none⟩) hR2 _).setCell (p := ⟨w.heap.size + 1 + 1, 9, none⟩) hR2 _, Or.inl ⟨2, q, s.steps + 1, HST.out, _, _, _, _, _, rfl⟩⟩
end Go.Proofs.YtbbfboikigmghaaGreatDoor
