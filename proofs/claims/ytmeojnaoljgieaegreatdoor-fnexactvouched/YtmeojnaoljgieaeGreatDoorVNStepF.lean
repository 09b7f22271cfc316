import Derived.Test.YtmeojnaoljgieaeGreatDoorVNStepE
namespace Go.Proofs.YtmeojnaoljgieaeGreatDoor
open Go.RowKit
set_option linter.unusedVariables false
set_option maxHeartbeats 8000000
set_option maxRecDepth 100000
def putsN (o : Nat) : Nat := (putsOf.getD o 0).toNat
theorem puts_eq (o : Nat) (h : o <= 15) : putsOf.getD o 0 = ((putsN o : Nat) : Int) := by
  rcases (show o = 0 \/ o = 1 \/ o = 2 \/ o = 3 \/ o = 4 \/ o = 5 \/ o = 6 \/ o = 7 \/ o = 8 \/ o = 9 \/ o = 10 \/ o = 11 \/ o = 12 \/ o = 13 \/ o = 14 \/ o = 15 from by omega) with rfl | rfl | rfl | rfl | rfl | rfl | rfl | rfl | rfl | rfl | rfl | rfl | rfl | rfl | rfl | rfl <;> rfl
theorem tp_le (o : Nat) (h : o <= 15) : takesN o <= 2 /\ putsN o <= 2 := by
  rcases (show o = 0 \/ o = 1 \/ o = 2 \/ o = 3 \/ o = 4 \/ o = 5 \/ o = 6 \/ o = 7 \/ o = 8 \/ o = 9 \/ o = 10 \/ o = 11 \/ o = 12 \/ o = 13 \/ o = 14 \/ o = 15 from by omega) with rfl | rfl | rfl | rfl | rfl | rfl | rfl | rfl | rfl | rfl | rfl | rfl | rfl | rfl | rfl | rfl <;> decide
theorem puts_len (o : Nat) (h1 : 1 <= o) (h : o <= 11) (t : ByteArray) (n : Nat) (a b : ByteArray) : (outP o t n a b).length = putsN o := by
  rcases (show o = 1 \/ o = 2 \/ o = 3 \/ o = 4 \/ o = 5 \/ o = 6 \/ o = 7 \/ o = 8 \/ o = 9 \/ o = 10 \/ o = 11 from by omega) with rfl | rfl | rfl | rfl | rfl | rfl | rfl | rfl | rfl | rfl | rfl <;> rfl
theorem too_many {o : Nat} {l : List ByteArray} (h1 : 1 <= o) (h : o <= 15) (hl : l.length <= 50) (hf : ¬ l.length < takesN o) (hm : 50 < l.length - takesN o + putsN o) : o <= 11 := by
  rcases (show o <= 11 \/ o = 12 \/ o = 13 \/ o = 14 \/ o = 15 by omega) with h | rfl | rfl | rfl | rfl
  · exact h
  · have e1 : takesN 12 = 1 := rfl
    have e2 : putsN 12 = 1 := rfl
    omega
  · have e1 : takesN 13 = 1 := rfl
    have e2 : putsN 13 = 1 := rfl
    omega
  · have e1 : takesN 14 = 1 := rfl
    have e2 : putsN 14 = 0 := rfl
    omega
  · have e1 : takesN 15 = 1 := rfl
    have e2 : putsN 15 = 0 := rfl
    omega
theorem step_few (a : Option Addr) (cap : Nat) (is : List I3) (s : St) (sa : Option Addr) (cp : Nat) (ra : Option Addr) (rcap : Nat) (ys : List R3) (w : World) (hv : progOk is = true) (hs : StOk is s) (hcode : Row3 w a is) (hpl : s.pl < is.length) (hst2 : s.steps ≠ 2000) (hfew : s.stack.length < takesN (ix is s.pl).op.toNat) :
    Calls Tryz.prog 171 #[.agg #[.slice a is.length cap], runV s.pl (.slice sa s.stack.length cp) s.steps s.looks, .slice ra ys.length rcap] w fun e w' => Below w.heap.size w w' /\ StepPost w.heap.size is ys s w' e := by
  obtain ⟨o, tt, n, ei, ho1, ho2, ht, hn, hn2⟩ := ok_parts hv hpl
  have EI : Hid (ix is s.pl = ⟨o, tt, n⟩) := ei
  clear ei
  have hplI : (s.pl : Int) < (is.length : Int) := by omega
  have hst3 : ((s.steps : Int) == 2000) = false := by simp; omega
  have HT : Hid (∀ W : World, Calls Tryz.prog 200 #[.int .i64 o] W fun e w' => e = .returned (.tuple #[.int .i64 (takesN o : Nat), .int .i64 (putsN o : Nat)]) /\ W = w') := fun W => by rw [<- takes_eq o ho2, <- puts_eq o ho2]; exact l2Takes_in o W ho1 ho2
  have hlen := prog_len hv
  have hp200 := hs.pl
  have hst := hs.steps
  have hlk := hs.looks
  have hln := hs.len
  have hb0 : Below w.heap.size w (((w.alloc (.cells #[.slice a is.length cap] 60)).alloc (.cells #[.int .i64 s.pl, .slice sa s.stack.length cp, .int .i64 s.steps, .int .i64 s.looks, .bool false, .int .i64 0, .string ⟨#[]⟩, .bool false, .string ⟨#[]⟩, .bool false] 236)).alloc (.cells #[.int .i64 0, .slice none 0 0, .int .i64 0, .int .i64 0, .bool false, .int .i64 0, .string ⟨#[]⟩, .bool false, .string ⟨#[]⟩, .bool false] 236)) := (((Below.refl _ _).alloc (Nat.le_refl _) _).alloc (by simp) _).alloc (by simp; omega) _
  have hR2 : w.heap.size <= w.heap.size + 1 + 1 := by omega
  have hR1 : w.heap.size <= w.heap.size + 1 := by omega
  obtain ⟨hz, hr, hc⟩ := blk3 w (.cells #[.slice a is.length cap] 60) (.cells #[.int .i64 s.pl, .slice sa s.stack.length cp, .int .i64 s.steps, .int .i64 s.looks, .bool false, .int .i64 0, .string ⟨#[]⟩, .bool false, .string ⟨#[]⟩, .bool false] 236) (.cells #[.int .i64 0, .slice none 0 0, .int .i64 0, .int .i64 0, .bool false, .int .i64 0, .string ⟨#[]⟩, .bool false, .string ⟨#[]⟩, .bool false] 236)
  obtain ⟨q, eq⟩ : ∃ q, decB s.pl = q := ⟨_, rfl⟩
  have EQ : Hid (decB s.pl = q) := eq
  have HD : Hid (∀ W : World, Calls Tryz.prog 146 #[.int .i64 s.pl] W fun e w' => e = .returned (.string q) /\ Below W.heap.size W w') := fun W => by rw [<- eq]; exact l2Dec_any s.pl W (by omega)
  clear eq
  unfold runV
  go_enter Tryz.func171, Tryz.ntmps171
  go_wp2_with fail
  refine (HD.out _).mono ?_
  rintro e w1 ⟨rfl, hb1⟩
  have hB1 : Below w.heap.size w w1 := bN hb0 hb1
  have hz1 : w1.heap[w.heap.size + 1 + 1]? = some (.cells #[.int .i64 0, .slice none 0 0, .int .i64 0, .int .i64 0, .bool false, .int .i64 0, .string ⟨#[]⟩, .bool false, .string ⟨#[]⟩, .bool false] 236 (0, 0)) := by rw [hb1.block _ (blk_lt hz)]; exact hz
  have hr1 : w1.heap[w.heap.size + 1]? = some (.cells #[.int .i64 s.pl, .slice sa s.stack.length cp, .int .i64 s.steps, .int .i64 s.looks, .bool false, .int .i64 0, .string ⟨#[]⟩, .bool false, .string ⟨#[]⟩, .bool false] 236 (0, 0)) := by rw [hb1.block _ (blk_lt hr)]; exact hr
  have hc1 : w1.heap[w.heap.size]? = some (.cells #[.slice a is.length cap] 60 (0, 0)) := by rw [hb1.block _ (blk_lt hc)]; exact hc
  have x0 : w1.cell? ⟨w.heap.size, 0, none⟩ = some (.slice a is.length cap) := by rw [Lib.cell_of_heap hc1]; rfl
  have r0 := Lib.cell_of_heap hr1 0
  have r1 := Lib.cell_of_heap hr1 1
  have r2 := Lib.cell_of_heap hr1 2
  have r3 := Lib.cell_of_heap hr1 3
  have r4 := Lib.cell_of_heap hr1 4
  have r5 := Lib.cell_of_heap hr1 5
  have r6 := Lib.cell_of_heap hr1 6
  have r7 := Lib.cell_of_heap hr1 7
  have r8 := Lib.cell_of_heap hr1 8
  have r9 := Lib.cell_of_heap hr1 9
  simp only [List.getElem?_toArray, List.getElem?_cons_zero, List.getElem?_cons_succ] at r0 r1 r2 r3 r4 r5 r6 r7 r8 r9
  have fr : ∀ j, w1.frozen? ⟨w.heap.size + 1, j, none⟩ = false := fun j => Lib.frozen_of_heap hr1 j
  clear hz hr hc hb0 hb1 HD
  have hcb : Row3 w1 a is := hcode.below hB1
  obtain ⟨W1, eW1⟩ : ∃ W1, w1.setCell ⟨w.heap.size + 1, 2, none⟩ (.int .i64 ((s.steps : Int) + 1)) = W1 := ⟨_, rfl⟩
  have hBW : Below w.heap.size w W1 := by rw [<- eW1]; exact hB1.setCell (p := ⟨w.heap.size + 1, 2, none⟩) hR1 _
  have hzW : W1.heap[w.heap.size + 1 + 1]? = some (.cells #[.int .i64 0, .slice none 0 0, .int .i64 0, .int .i64 0, .bool false, .int .i64 0, .string ⟨#[]⟩, .bool false, .string ⟨#[]⟩, .bool false] 236 (0, 0)) := by rw [<- eW1, Below.heap_setCell w1 ⟨w.heap.size + 1, 2, none⟩ _ _ (by simp)]; exact hz1
  have hrW : W1.heap[w.heap.size + 1]? = some (.cells #[.int .i64 s.pl, .slice sa s.stack.length cp, .int .i64 ((s.steps : Int) + 1), .int .i64 s.looks, .bool false, .int .i64 0, .string ⟨#[]⟩, .bool false, .string ⟨#[]⟩, .bool false] 236 (0, 0)) := by rw [<- eW1, Joins.block_setCell hr1]; rfl
  have hcW : W1.heap[w.heap.size]? = some (.cells #[.slice a is.length cap] 60 (0, 0)) := by rw [<- eW1, Below.heap_setCell w1 ⟨w.heap.size + 1, 2, none⟩ _ _ (by simp)]; exact hc1
  have hl1 : W1.heap.size = w1.heap.size := by rw [<- eW1]; simp [go_sem]
  obtain ⟨b, off, rfl, e1, e2, e3⟩ := (hcode.below hBW) s.pl hpl
  rw [EI.out] at e1 e2 e3
  have xW : W1.cell? ⟨w.heap.size, 0, none⟩ = some (.slice (some ⟨b, off, none⟩) is.length cap) := by rw [Lib.cell_of_heap hcW]; rfl
  have y0 := Lib.cell_of_heap hrW 0
  have y1 := Lib.cell_of_heap hrW 1
  have y2 := Lib.cell_of_heap hrW 2
  have y3 := Lib.cell_of_heap hrW 3
  have y4 := Lib.cell_of_heap hrW 4
  have y5 := Lib.cell_of_heap hrW 5
  have y6 := Lib.cell_of_heap hrW 6
  have y7 := Lib.cell_of_heap hrW 7
  have y8 := Lib.cell_of_heap hrW 8
  have y9 := Lib.cell_of_heap hrW 9
  simp only [List.getElem?_toArray, List.getElem?_cons_zero, List.getElem?_cons_succ] at y0 y1 y2 y3 y4 y5 y6 y7 y8 y9
  have hal : ∀ (p : Addr) (v : Value) (x : Obj), W1.cell? p = some v -> (W1.alloc x).cell? p = some v := fun p v x h => by rw [World.cell?_alloc_lt _ _ _ (World.block_lt_of_cell? _ _ h)]; exact h
  have a1 := fun x => hal _ _ x e1
  have a2 := fun x => hal _ _ x e2
  have a3 := fun x => hal _ _ x e3
  have b0 := fun x => hal _ _ x y0
  have b1 := fun x => hal _ _ x y1
  have b2 := fun x => hal _ _ x y2
  have b3 := fun x => hal _ _ x y3
  have b4 := fun x => hal _ _ x y4
  have b5 := fun x => hal _ _ x y5
  have b6 := fun x => hal _ _ x y6
  have b7 := fun x => hal _ _ x y7
  have b8 := fun x => hal _ _ x y8
  have b9 := fun x => hal _ _ x y9
  clear hal hcb
  obtain ⟨htk2, hpt2⟩ := tp_le o ho2
  rw [EI.out] at hfew
  simp only [Int.toNat_natCast] at hfew
  have hfI : (s.stack.length : Int) < (takesN o : Int) := by omega
  have HST : Hid (step0 is s = .over 2 (decB s.pl) (s.steps + 1)) := (st_ins hpl hst2 EI.out).trans (ins_few hfew)
  rw [EQ.out] at HST
  have hbl : Below W1.heap.size W1 (W1.alloc (.cells #[.int .i64 o, .string tt, .int .i64 n] 209)) := (Below.refl _ _).alloc (Nat.le_refl _) _
  have hB3 : Below w.heap.size w (W1.alloc (.cells #[.int .i64 o, .string tt, .int .i64 n] 209)) := bN hBW hbl
  have hz3 : (W1.alloc (.cells #[.int .i64 o, .string tt, .int .i64 n] 209)).heap[w.heap.size + 1 + 1]? = some (.cells #[.int .i64 0, .slice none 0 0, .int .i64 0, .int .i64 0, .bool false, .int .i64 0, .string ⟨#[]⟩, .bool false, .string ⟨#[]⟩, .bool false] 236 (0, 0)) := by rw [Lib.alloc_old _ _ _ (blk_lt hzW)]; exact hzW
  clear hfew hbl hst2
  go_wp2_with (first | (go_at_call 200; refine (HT.out _).mono ?_; rintro e w9 ⟨rfl, rfl⟩))
  have hl := l2End_any s.pl sa s.stack.length cp ((s.steps : Int) + 1) s.looks 2 q
  unfold runV at hl
  refine (hl _).mono ?_
  rintro e w2 ⟨rfl, hb2⟩
  have hB2 : Below w.heap.size w w2 := bN hB3 hb2
  have hz2 : w2.heap[w.heap.size + 1 + 1]? = some (.cells #[.int .i64 0, .slice none 0 0, .int .i64 0, .int .i64 0, .bool false, .int .i64 0, .string ⟨#[]⟩, .bool false, .string ⟨#[]⟩, .bool false] 236 (0, 0)) := by rw [hb2.block _ (blk_lt hz3)]; exact hz3
  have z0 := Lib.cell_of_heap hz2 0
  have z1 := Lib.cell_of_heap hz2 1
  have z2 := Lib.cell_of_heap hz2 2
  have z3 := Lib.cell_of_heap hz2 3
  have z4 := Lib.cell_of_heap hz2 4
  have z5 := Lib.cell_of_heap hz2 5
  have z6 := Lib.cell_of_heap hz2 6
  have z7 := Lib.cell_of_heap hz2 7
  have z8 := Lib.cell_of_heap hz2 8
  have z9 := Lib.cell_of_heap hz2 9
  simp only [List.getElem?_toArray, List.getElem?_cons_zero, List.getElem?_cons_succ] at z0 z1 z2 z3 z4 z5 z6 z7 z8 z9
  have fz : ∀ j, w2.frozen? ⟨w.heap.size + 1 + 1, j, none⟩ = false := fun j => Lib.frozen_of_heap hz2 j
  clear hz2 hb2 hl
  unfold overV
  go_wp2_with fail
  exact bodyPost_ret (v := overV s.pl (.slice sa s.stack.length cp) ((s.steps : Int) + 1) s.looks 2 q) (by simp [results, Tryz.results171, go_sem, overV, z0, z1, z2, z3, z4, z5, z6, z7, z8, z9]) rfl ⟨((((((((((hB2).setCell (p := ⟨w.heap.size + 1 + 1, 0, none⟩) hR2 _).setCell (p := ⟨w.heap.size + 1 + 1, 1, none⟩) hR2 _).setCell (p := ⟨w.heap.size + 1 + 1, 2, none⟩) hR2 _).setCell (p := ⟨w.heap.size + 1 + 1, 3, none⟩) hR2 _).setCell (p := ⟨w.heap.size + 1 + 1, 4, none⟩) hR2 _).setCell (p := ⟨w.heap.size + 1 + 1, 5, none⟩) hR2 _).setCell (p := ⟨w.heap.size + 1 + 1, 6, none⟩) hR2 _).setCell (p := ⟨w.heap.size + 1 + 1, 7, none⟩) hR2 _).setCell (p := ⟨w.heap.size + 1 + 1, 8, none⟩) hR2 _).setCell (p := ⟨w.heap.size + 1 + 1, 9, none⟩) hR2 _, Or.inl ⟨2, q, s.steps + 1, HST.out, _, _, _, _, _, rfl⟩⟩
theorem step_many (a : Option Addr) (cap : Nat) (is : List I3) (s : St) (sa : Option Addr) (cp : Nat) (ra : Option Addr) (rcap : Nat) (ys : List R3) (w : World) (hv : progOk is = true) (hs : StOk is s) (hcode : Row3 w a is) (hpl : s.pl < is.length) (hst2 : s.steps ≠ 2000) (hfew : ¬ s.stack.length < takesN (ix is s.pl).op.toNat) (hmany : 50 < s.stack.length - takesN (ix is s.pl).op.toNat + putsN (ix is s.pl).op.toNat) :
    Calls Tryz.prog 171 #[.agg #[.slice a is.length cap], runV s.pl (.slice sa s.stack.length cp) s.steps s.looks, .slice ra ys.length rcap] w fun e w' => Below w.heap.size w w' /\ StepPost w.heap.size is ys s w' e := by
  obtain ⟨o, tt, n, ei, ho1, ho2, ht, hn, hn2⟩ := ok_parts hv hpl
  have EI : Hid (ix is s.pl = ⟨o, tt, n⟩) := ei
  clear ei
  have hplI : (s.pl : Int) < (is.length : Int) := by omega
  have hst3 : ((s.steps : Int) == 2000) = false := by simp; omega
  have HT : Hid (∀ W : World, Calls Tryz.prog 200 #[.int .i64 o] W fun e w' => e = .returned (.tuple #[.int .i64 (takesN o : Nat), .int .i64 (putsN o : Nat)]) /\ W = w') := fun W => by rw [<- takes_eq o ho2, <- puts_eq o ho2]; exact l2Takes_in o W ho1 ho2
  have hlen := prog_len hv
  have hp200 := hs.pl
  have hst := hs.steps
  have hlk := hs.looks
  have hln := hs.len
  have hb0 : Below w.heap.size w (((w.alloc (.cells #[.slice a is.length cap] 60)).alloc (.cells #[.int .i64 s.pl, .slice sa s.stack.length cp, .int .i64 s.steps, .int .i64 s.looks, .bool false, .int .i64 0, .string ⟨#[]⟩, .bool false, .string ⟨#[]⟩, .bool false] 236)).alloc (.cells #[.int .i64 0, .slice none 0 0, .int .i64 0, .int .i64 0, .bool false, .int .i64 0, .string ⟨#[]⟩, .bool false, .string ⟨#[]⟩, .bool false] 236)) := (((Below.refl _ _).alloc (Nat.le_refl _) _).alloc (by simp) _).alloc (by simp; omega) _
  have hR2 : w.heap.size <= w.heap.size + 1 + 1 := by omega
  have hR1 : w.heap.size <= w.heap.size + 1 := by omega
  obtain ⟨hz, hr, hc⟩ := blk3 w (.cells #[.slice a is.length cap] 60) (.cells #[.int .i64 s.pl, .slice sa s.stack.length cp, .int .i64 s.steps, .int .i64 s.looks, .bool false, .int .i64 0, .string ⟨#[]⟩, .bool false, .string ⟨#[]⟩, .bool false] 236) (.cells #[.int .i64 0, .slice none 0 0, .int .i64 0, .int .i64 0, .bool false, .int .i64 0, .string ⟨#[]⟩, .bool false, .string ⟨#[]⟩, .bool false] 236)
  obtain ⟨q, eq⟩ : ∃ q, decB s.pl = q := ⟨_, rfl⟩
  have EQ : Hid (decB s.pl = q) := eq
  have HD : Hid (∀ W : World, Calls Tryz.prog 146 #[.int .i64 s.pl] W fun e w' => e = .returned (.string q) /\ Below W.heap.size W w') := fun W => by rw [<- eq]; exact l2Dec_any s.pl W (by omega)
  clear eq
  unfold runV
  go_enter Tryz.func171, Tryz.ntmps171
  go_wp2_with fail
  refine (HD.out _).mono ?_
  rintro e w1 ⟨rfl, hb1⟩
  have hB1 : Below w.heap.size w w1 := bN hb0 hb1
  have hz1 : w1.heap[w.heap.size + 1 + 1]? = some (.cells #[.int .i64 0, .slice none 0 0, .int .i64 0, .int .i64 0, .bool false, .int .i64 0, .string ⟨#[]⟩, .bool false, .string ⟨#[]⟩, .bool false] 236 (0, 0)) := by rw [hb1.block _ (blk_lt hz)]; exact hz
  have hr1 : w1.heap[w.heap.size + 1]? = some (.cells #[.int .i64 s.pl, .slice sa s.stack.length cp, .int .i64 s.steps, .int .i64 s.looks, .bool false, .int .i64 0, .string ⟨#[]⟩, .bool false, .string ⟨#[]⟩, .bool false] 236 (0, 0)) := by rw [hb1.block _ (blk_lt hr)]; exact hr
  have hc1 : w1.heap[w.heap.size]? = some (.cells #[.slice a is.length cap] 60 (0, 0)) := by rw [hb1.block _ (blk_lt hc)]; exact hc
  have x0 : w1.cell? ⟨w.heap.size, 0, none⟩ = some (.slice a is.length cap) := by rw [Lib.cell_of_heap hc1]; rfl
  have r0 := Lib.cell_of_heap hr1 0
  have r1 := Lib.cell_of_heap hr1 1
  have r2 := Lib.cell_of_heap hr1 2
  have r3 := Lib.cell_of_heap hr1 3
  have r4 := Lib.cell_of_heap hr1 4
  have r5 := Lib.cell_of_heap hr1 5
  have r6 := Lib.cell_of_heap hr1 6
  have r7 := Lib.cell_of_heap hr1 7
  have r8 := Lib.cell_of_heap hr1 8
  have r9 := Lib.cell_of_heap hr1 9
  simp only [List.getElem?_toArray, List.getElem?_cons_zero, List.getElem?_cons_succ] at r0 r1 r2 r3 r4 r5 r6 r7 r8 r9
  have fr : ∀ j, w1.frozen? ⟨w.heap.size + 1, j, none⟩ = false := fun j => Lib.frozen_of_heap hr1 j
  clear hz hr hc hb0 hb1 HD
  have hcb : Row3 w1 a is := hcode.below hB1
  obtain ⟨W1, eW1⟩ : ∃ W1, w1.setCell ⟨w.heap.size + 1, 2, none⟩ (.int .i64 ((s.steps : Int) + 1)) = W1 := ⟨_, rfl⟩
  have hBW : Below w.heap.size w W1 := by rw [<- eW1]; exact hB1.setCell (p := ⟨w.heap.size + 1, 2, none⟩) hR1 _
  have hzW : W1.heap[w.heap.size + 1 + 1]? = some (.cells #[.int .i64 0, .slice none 0 0, .int .i64 0, .int .i64 0, .bool false, .int .i64 0, .string ⟨#[]⟩, .bool false, .string ⟨#[]⟩, .bool false] 236 (0, 0)) := by rw [<- eW1, Below.heap_setCell w1 ⟨w.heap.size + 1, 2, none⟩ _ _ (by simp)]; exact hz1
  have hrW : W1.heap[w.heap.size + 1]? = some (.cells #[.int .i64 s.pl, .slice sa s.stack.length cp, .int .i64 ((s.steps : Int) + 1), .int .i64 s.looks, .bool false, .int .i64 0, .string ⟨#[]⟩, .bool false, .string ⟨#[]⟩, .bool false] 236 (0, 0)) := by rw [<- eW1, Joins.block_setCell hr1]; rfl
  have hcW : W1.heap[w.heap.size]? = some (.cells #[.slice a is.length cap] 60 (0, 0)) := by rw [<- eW1, Below.heap_setCell w1 ⟨w.heap.size + 1, 2, none⟩ _ _ (by simp)]; exact hc1
  have hl1 : W1.heap.size = w1.heap.size := by rw [<- eW1]; simp [go_sem]
  obtain ⟨b, off, rfl, e1, e2, e3⟩ := (hcode.below hBW) s.pl hpl
  rw [EI.out] at e1 e2 e3
  have xW : W1.cell? ⟨w.heap.size, 0, none⟩ = some (.slice (some ⟨b, off, none⟩) is.length cap) := by rw [Lib.cell_of_heap hcW]; rfl
  have y0 := Lib.cell_of_heap hrW 0
  have y1 := Lib.cell_of_heap hrW 1
  have y2 := Lib.cell_of_heap hrW 2
  have y3 := Lib.cell_of_heap hrW 3
  have y4 := Lib.cell_of_heap hrW 4
  have y5 := Lib.cell_of_heap hrW 5
  have y6 := Lib.cell_of_heap hrW 6
  have y7 := Lib.cell_of_heap hrW 7
  have y8 := Lib.cell_of_heap hrW 8
  have y9 := Lib.cell_of_heap hrW 9
  simp only [List.getElem?_toArray, List.getElem?_cons_zero, List.getElem?_cons_succ] at y0 y1 y2 y3 y4 y5 y6 y7 y8 y9
  have hal : ∀ (p : Addr) (v : Value) (x : Obj), W1.cell? p = some v -> (W1.alloc x).cell? p = some v := fun p v x h => by rw [World.cell?_alloc_lt _ _ _ (World.block_lt_of_cell? _ _ h)]; exact h
  have a1 := fun x => hal _ _ x e1
  have a2 := fun x => hal _ _ x e2
  have a3 := fun x => hal _ _ x e3
  have b0 := fun x => hal _ _ x y0
  have b1 := fun x => hal _ _ x y1
  have b2 := fun x => hal _ _ x y2
  have b3 := fun x => hal _ _ x y3
  have b4 := fun x => hal _ _ x y4
  have b5 := fun x => hal _ _ x y5
  have b6 := fun x => hal _ _ x y6
  have b7 := fun x => hal _ _ x y7
  have b8 := fun x => hal _ _ x y8
  have b9 := fun x => hal _ _ x y9
  clear hal hcb
  obtain ⟨htk2, hpt2⟩ := tp_le o ho2
  rw [EI.out] at hfew hmany
  simp only [Int.toNat_natCast] at hfew hmany
  have hfI : ¬ (s.stack.length : Int) < (takesN o : Int) := by omega
  have hmI : 50 < (s.stack.length : Int) - (takesN o : Int) + (putsN o : Int) := by omega
  have ho11 := too_many ho1 ho2 hln hfew hmany
  have HST : Hid (step0 is s = .over 2 (decB s.pl) (s.steps + 1)) := (st_ins hpl hst2 EI.out).trans (ins_stuck hfew ho11 (Or.inl (by rw [restL_length, puts_len o ho1 ho11]; exact hmany)))
  rw [EQ.out] at HST
  have hbl : Below W1.heap.size W1 (W1.alloc (.cells #[.int .i64 o, .string tt, .int .i64 n] 209)) := (Below.refl _ _).alloc (Nat.le_refl _) _
  have hB3 : Below w.heap.size w (W1.alloc (.cells #[.int .i64 o, .string tt, .int .i64 n] 209)) := bN hBW hbl
  have hz3 : (W1.alloc (.cells #[.int .i64 o, .string tt, .int .i64 n] 209)).heap[w.heap.size + 1 + 1]? = some (.cells #[.int .i64 0, .slice none 0 0, .int .i64 0, .int .i64 0, .bool false, .int .i64 0, .string ⟨#[]⟩, .bool false, .string ⟨#[]⟩, .bool false] 236 (0, 0)) := by rw [Lib.alloc_old _ _ _ (blk_lt hzW)]; exact hzW
  clear hfew hbl hst2 hmany
  go_wp2_with (first | (go_at_call 200; refine (HT.out _).mono ?_; rintro e w9 ⟨rfl, rfl⟩))
  have hl := l2End_any s.pl sa s.stack.length cp ((s.steps : Int) + 1) s.looks 2 q
  unfold runV at hl
  refine (hl _).mono ?_
  rintro e w2 ⟨rfl, hb2⟩
  have hB2 : Below w.heap.size w w2 := bN hB3 hb2
  have hz2 : w2.heap[w.heap.size + 1 + 1]? = some (.cells #[.int .i64 0, .slice none 0 0, .int .i64 0, .int .i64 0, .bool false, .int .i64 0, .string ⟨#[]⟩, .bool false, .string ⟨#[]⟩, .bool false] 236 (0, 0)) := by rw [hb2.block _ (blk_lt hz3)]; exact hz3
  have z0 := Lib.cell_of_heap hz2 0
  have z1 := Lib.cell_of_heap hz2 1
  have z2 := Lib.cell_of_heap hz2 2
  have z3 := Lib.cell_of_heap hz2 3
  have z4 := Lib.cell_of_heap hz2 4
  have z5 := Lib.cell_of_heap hz2 5
  have z6 := Lib.cell_of_heap hz2 6
  have z7 := Lib.cell_of_heap hz2 7
  have z8 := Lib.cell_of_heap hz2 8
  have z9 := Lib.cell_of_heap hz2 9
  simp only [List.getElem?_toArray, List.getElem?_cons_zero, List.getElem?_cons_succ] at z0 z1 z2 z3 z4 z5 z6 z7 z8 z9
  have fz : ∀ j, w2.frozen? ⟨w.heap.size + 1 + 1, j, none⟩ = false := fun j => Lib.frozen_of_heap hz2 j
  clear hz2 hb2 hl
  unfold overV
  go_wp2_with fail
  exact bodyPost_ret (v := overV s.pl (.slice sa s.stack.length cp) ((s.steps : Int) + 1) s.looks 2 q) (by simp [results, Tryz.results171, go_sem, overV, z0, z1, z2, z3, z4, z5, z6, z7, z8, z9]) rfl ⟨((((((((((hB2).setCell (p := ⟨w.heap.size + 1 + 1, 0, none⟩) hR2 _).setCell (p := ⟨w.heap.size + 1 + 1, 1, none⟩) hR2 _).setCell (p := ⟨w.heap.size + 1 + 1, 2, none⟩) hR2 _).setCell (p := ⟨w.heap.size + 1 + 1, 3, none⟩) hR2 _).setCell (p := ⟨w.heap.size + 1 + 1, 4, none⟩) hR2 _).setCell (p := ⟨w.heap.size + 1 + 1, 5, none⟩) hR2 _).setCell (p := ⟨w.heap.size + 1 + 1, 6, none⟩) hR2 _).setCell (p := ⟨w.heap.size + 1 + 1, 7, none⟩) hR2 _).setCell (p := ⟨w.heap.size + 1 + 1, 8, none⟩) hR2 _).setCell (p := ⟨w.heap.size + 1 + 1, 9, none⟩) hR2 _, Or.inl ⟨2, q, s.steps + 1, HST.out, _, _, _, _, _, rfl⟩⟩
end Go.Proofs.YtmeojnaoljgieaeGreatDoor
