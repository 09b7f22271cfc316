import Derived.Test.YtmanoabocelpeaaGreatDoorTNLook
import Derived.Deep.LoopGhost
namespace Go.Proofs.YtmanoabocelpeaaGreatDoor
open Go.RowKit
set_option linter.unusedVariables false
set_option maxHeartbeats 8000000
set_option maxRecDepth 100000
section
def CodeB (B : Nat) (w : World) (a : Option Addr) (is : List I3) : Prop := Row3 w a is /\ ∀ b off, a = some ⟨b, off, none⟩ -> b < B
theorem CodeB.belowB {B : Nat} {w w' : World} {a : Option Addr} {is : List I3} (h : CodeB B w a is) (hb : Below B w w') : CodeB B w' a is := by
 refine ⟨fun i hi => ?_, h.2⟩
 obtain ⟨b, off, ha, h1, h2, h3⟩ := h.1 i hi
 have hl := h.2 b off ha
 exact ⟨b, off, ha, (hb.cell (p := ⟨b, off + i * 3, none⟩) hl).trans h1, (hb.cell (p := ⟨b, off + i * 3 + 1, none⟩) hl).trans h2, (hb.cell (p := ⟨b, off + i * 3 + 2, none⟩) hl).trans h3⟩
theorem MOk.steps {B : Nat} {w : World} {m : Nat} {ss : List ByteArray} {cd : Value} {pl st lk : Int} (h : MOk B w m ss cd pl st lk) (p : Int) : MOk B (w.setCell ⟨m, 3, none⟩ (.int .i64 p)) m ss cd pl p lk := by
 obtain ⟨hB, v, hm, ho⟩ := h
 refine ⟨hB, v, ?_, ?_⟩
 ·unfold Mach at *
  rw [Joins.block_setCell hm]
  rfl
 ·have hne := hm.ne' ho
  refine ⟨ho.1, ?_⟩
  rcases ho.2 with h0 | ⟨g, cap, cur, hv, hg, hh, r⟩
  ·exact Or.inl h0
  ·refine Or.inr ⟨g, cap, cur, hv, hg, ?_, r⟩
   rw [Below.heap_setCell w ⟨m, 3, none⟩ _ g (by rintro e; apply hne; rw [hv]; simp [Value.ownBlock, e])]
   exact hh
theorem MOk.all {B : Nat} {w : World} {m : Nat} {ss : List ByteArray} {cd : Value} {pl st lk : Int} (h : MOk B w m ss cd pl st lk) : ∃ ao cp, w.cell? ⟨m, 0, none⟩ = some (.slice ao ss.length cp) /\ w.cell? ⟨m, 1, none⟩ = some cd /\ w.cell? ⟨m, 2, none⟩ = some (.int .i64 pl) /\ w.cell? ⟨m, 3, none⟩ = some (.int .i64 st) /\ w.cell? ⟨m, 4, none⟩ = some (.int .i64 lk) /\ (∀ j, w.frozen? ⟨m, j, none⟩ = false) /\ m < w.heap.size /\ B <= m /\ Mach w m (.slice ao ss.length cp) cd pl st lk := by
 obtain ⟨hB, v, hm, ho⟩ := h
 obtain ⟨ao, cp, rfl⟩ : ∃ ao cp, v = .slice ao ss.length cp := by
  rcases ho.2 with ⟨hv, h0⟩ | ⟨g, cap, cur, hv, _⟩
  ·exact ⟨none, 0, by rw [hv, h0]⟩
  ·exact ⟨_, _, hv⟩
 exact ⟨ao, cp, by rw [Lib.cell_of_heap hm]; rfl, by rw [Lib.cell_of_heap hm]; rfl, by rw [Lib.cell_of_heap hm]; rfl, by rw [Lib.cell_of_heap hm]; rfl, by rw [Lib.cell_of_heap hm]; rfl, fun j => Lib.frozen_of_heap hm j, hm.lt, hB, hm⟩
theorem ok_parts {is : List I3} (h : progOk is = true) {k : Nat} (hk : k < is.length) : ∃ (o : Nat) (t : ByteArray) (n : Nat), ix is k = ⟨o, t, n⟩ /\ 1 <= o /\ o <= 15 /\ t.size <= 2000 /\ n <= 2000 /\ ((o = 10 \/ o = 11) -> n <= 200) := by
 simp only [progOk, Bool.and_eq_true, decide_eq_true_eq] at h
 have hi := h.2 k hk
 generalize ix is k = i at hi ⊢
 obtain ⟨op, t, n⟩ := i
 simp only [insOk, Bool.and_eq_true, decide_eq_true_eq] at hi
 obtain ⟨⟨⟨⟨h1, h2⟩, h3⟩, h4⟩, h5⟩ := hi
 obtain ⟨o, rfl⟩ := Int.eq_ofNat_of_zero_le (show 0 <= op by omega)
 obtain ⟨n', rfl⟩ := Int.eq_ofNat_of_zero_le h4
 have hm : mostT (kindOf o) <= 2000 := by unfold mostT; split <;> omega
 have hn : mostN (kindOf o) <= 2000 := by unfold mostN; split <;> (try split) <;> omega
 refine ⟨o, t, n', rfl, by omega, by omega, by omega, by omega, fun ho => ?_⟩
 have : mostN (kindOf o) = 200 := by rcases ho with rfl | rfl <;> rfl
 omega
theorem prog_len {is : List I3} (h : progOk is = true) : 1 <= is.length /\ is.length <= 200 := by
 simp only [progOk, Bool.and_eq_true, decide_eq_true_eq] at h
 omega
theorem takes_eq (o : Nat) (h : o <= 15) : takesOf.getD o 0 = ((takesN o : Nat) : Int) := by
 rcases (show o = 0 \/ o = 1 \/ o = 2 \/ o = 3 \/ o = 4 \/ o = 5 \/ o = 6 \/ o = 7 \/ o = 8 \/ o = 9 \/ o = 10 \/ o = 11 \/ o = 12 \/ o = 13 \/ o = 14 \/ o = 15 from by omega) with rfl | rfl | rfl | rfl | rfl | rfl | rfl | rfl | rfl | rfl | rfl | rfl | rfl | rfl | rfl | rfl <;> rfl
theorem st_place {is : List I3} {s : St} (h : ¬ s.pl < is.length) : step0 is s = .over 2 (decB s.pl) s.steps := by unfold step0; rw [if_pos (by omega)]
theorem st_spent {is : List I3} {s : St} (h : s.pl < is.length) (h2 : s.steps = 2000) : step0 is s = .over 3 ⟨#[]⟩ s.steps := by unfold step0; rw [if_neg (by omega), if_pos h2]
theorem st_ins {is : List I3} {s : St} {o : Nat} {t : ByteArray} {n : Nat} (h : s.pl < is.length) (h2 : s.steps ≠ 2000) (e : ix is s.pl = ⟨o, t, n⟩) : step0 is s = insP ⟨o, t, n⟩ s := by unfold step0; rw [if_neg (by omega), if_neg h2, e]
section
variable {o : Nat} {t : ByteArray} {n : Nat} {s : St}
theorem ins_few (h : s.stack.length < takesN o) : insP ⟨o, t, n⟩ s = .over 2 (decB s.pl) (s.steps + 1) := by
 simp only [insP, Int.toNat_natCast]; rw [if_pos h]
theorem ins_end (h : ¬ s.stack.length < takesN o) (ho : o = 15) : insP ⟨o, t, n⟩ s = .over 0 (topB s.stack) (s.steps + 1) := by
 simp only [insP, Int.toNat_natCast]; rw [if_neg h, if_pos ho]
theorem ins_fail (h : ¬ s.stack.length < takesN o) (ho : o = 14) : insP ⟨o, t, n⟩ s = .over 1 (topB s.stack) (s.steps + 1) := by
 simp only [insP, Int.toNat_natCast]; rw [if_neg h, if_neg (by omega), if_pos ho]
theorem ins_bad (h : ¬ s.stack.length < takesN o) (ho : o = 12 \/ o = 13) (hn : ¬ NameOk (topB s.stack)) : insP ⟨o, t, n⟩ s = .over 2 (decB s.pl) (s.steps + 1) := by
 simp only [insP, Int.toNat_natCast]; rw [if_neg h, if_neg (by omega), if_neg (by omega), if_pos ho, if_pos hn]
theorem ins_spent (h : ¬ s.stack.length < takesN o) (ho : o = 12 \/ o = 13) (hn : NameOk (topB s.stack)) (hl : s.looks = 200) : insP ⟨o, t, n⟩ s = .over 3 ⟨#[]⟩ (s.steps + 1) := by
 simp only [insP, Int.toNat_natCast]; rw [if_neg h, if_neg (by omega), if_neg (by omega), if_pos ho, if_neg (fun k => k hn), if_pos hl]
theorem ins_look (h : ¬ s.stack.length < takesN o) (ho : o = 12 \/ o = 13) (hn : NameOk (topB s.stack)) (hl : s.looks ≠ 200) : insP ⟨o, t, n⟩ s = .look (o == 12) (topB s.stack) ⟨s.pl, restL s.stack 1, s.steps + 1, s.looks + 1⟩ := by
 have ht : takesN o = 1 := by rcases ho with rfl | rfl <;> rfl
 simp only [insP, Int.toNat_natCast]; rw [if_neg h, if_neg (by omega), if_neg (by omega), if_pos ho, if_neg (fun k => k hn), if_neg hl, ht]
theorem ins_stuck (h : ¬ s.stack.length < takesN o) (ho : o <= 11) (hb : Bad o t n s.stack) : insP ⟨o, t, n⟩ s = .over 2 (decB s.pl) (s.steps + 1) := by
 simp only [insP, Int.toNat_natCast]; unfold Bad at hb; rw [if_neg h, if_neg (by omega), if_neg (by omega), if_neg (by omega), if_pos hb]
theorem ins_go (h : ¬ s.stack.length < takesN o) (ho : o <= 11) (hb : ¬ Bad o t n s.stack) : insP ⟨o, t, n⟩ s = .go ⟨nextP o n s.pl (topB s.stack), restL s.stack (takesN o) ++ outP o t n (topB s.stack) (subB s.stack), s.steps + 1, s.looks⟩ := by
 simp only [insP, Int.toNat_natCast]; unfold Bad at hb; rw [if_neg h, if_neg (by omega), if_neg (by omega), if_neg (by omega), if_neg hb]
end
theorem go_ok {is : List I3} {s : St} {o : Nat} {t : ByteArray} {n : Nat} (hs : StOk is s) (hl : is.length <= 200) (hp : s.pl < is.length) (hst : s.steps ≠ 2000) (hn : (o = 10 \/ o = 11) -> n <= 200) (hb : ¬ Bad o t n s.stack) : StOk is ⟨nextP o n s.pl (topB s.stack), restL s.stack (takesN o) ++ outP o t n (topB s.stack) (subB s.stack), s.steps + 1, s.looks⟩ := by
 unfold Bad at hb
 have h1 := hs.steps
 refine ⟨?_, ?_, ?_, ?_, hs.looks⟩
 ·show nextP o n s.pl (topB s.stack) <= 200
  unfold nextP
  split
  ·exact hn (by omega)
  ·split
   ·exact hn (by omega)
   ·omega
 ·show (restL s.stack (takesN o) ++ outP o t n (topB s.stack) (subB s.stack)).length <= 50
  rw [List.length_append]
  have : ¬ 50 < (restL s.stack (takesN o)).length + (outP o t n (topB s.stack) (subB s.stack)).length := fun h => hb (Or.inl h)
  omega
 ·intro x hx
  rcases List.mem_append.mp hx with hx | hx
  ·exact hs.size x (List.mem_of_mem_take hx)
  ·rcases Nat.lt_or_ge 2000 x.size with h | h
   ·exact absurd (Or.inr ⟨x, hx, h⟩) hb
   ·exact h
 ·show s.steps + 1 <= 2000
  omega
theorem look_ok {is : List I3} {s : St} (hs : StOk is s) (hst : s.steps ≠ 2000) (hl : s.looks ≠ 200) : StOk is ⟨s.pl, restL s.stack 1, s.steps + 1, s.looks + 1⟩ := by
 have h1 := hs.steps
 have h2 := hs.looks
 have h3 := hs.len
 refine ⟨hs.pl, ?_, fun x hx => hs.size x (List.mem_of_mem_take hx), ?_, ?_⟩
 ·show (restL s.stack 1).length <= 50
  rw [restL_length]; omega
 ·show s.steps + 1 <= 2000
  omega
 ·show s.looks + 1 <= 200
  omega
def zeroT : Array Value := #[.bool false, .int .i64 0, .string ⟨#[]⟩, .bool false, .string ⟨#[]⟩, .int .i64 0]
def RunPost (is : List I3) (s : St) (B m : Nat) (cd : Value) (w : World) (e : Ending) (w' : World) : Prop :=
 KB B m w w' /\ ((∃ c t n, Runs is s (.over c t n) /\ e = .returned (turnV true c t false ⟨#[]⟩ n)) \/ (∃ ask nm s', Runs is s (.look ask nm s') /\ e = .returned (turnV false 0 ⟨#[]⟩ ask nm s'.steps) /\ StOk is s' /\ MOk B w' m s'.stack cd s'.pl s'.steps s'.looks))
theorem run_any (B m : Nat) (is : List I3) (a : Option Addr) (cap : Nat) (s0 : St) (w : World) (hM : MOk B w m s0.stack (.slice a is.length cap) s0.pl s0.steps s0.looks) (hB : B <= w.heap.size) (hB1 : 1 < B) (hcode : CodeB B w a is) (hT : Tab w) (hP : P10 w) (hv : progOk is = true) (hs0 : StOk is s0) :
  Calls Tryz.prog 21 #[.pointer (some ⟨m, 0, none⟩)] w fun e w' => RunPost is s0 B m (.slice a is.length cap) w e w' := by
 have hlen := prog_len hv
 have HV : Hid (progOk is = true) := hv
 have HC : Hid (CodeB B w a is) := hcode
 have HT : Hid (Tab w) := hT
 have HP : Hid (P10 w) := hP
 have hm0 := hM.all
 obtain ⟨_, _, _, _, _, _, _, _, hmw, hBm, _⟩ := hm0
 have HM0 : Hid (MOk B (w.alloc (.cells zeroT 44)) m s0.stack (.slice a is.length cap) s0.pl s0.steps s0.looks) := hM.below ((Below.refl _ _).alloc (Nat.le_refl _) _)
 have HK0 : Hid (KB B m w (w.alloc (.cells zeroT 44))) := KB.old ((Below.refl _ _).alloc (Nat.le_refl _) _) hB
 have HR0 : Hid ((w.alloc (.cells zeroT 44)).heap[w.heap.size]? = some (.cells zeroT 44 (0, 0))) := heap_new _ _
 have HS0 : Hid (StOk is s0) := hs0
 clear hv hcode hT hP hM hs0
 unfold zeroT at HM0 HK0 HR0
 go_enter Tryz.func21, Tryz.ntmps21
 go_wp2
 go_loopg [] 2001 (fun kx wr => ∃ s : St, Hid (StOk is s) /\ Hid (∀ o, Runs is s o -> Runs is s0 o) /\ Hid (MOk B wr m s.stack (.slice a is.length cap) s.pl s.steps s.looks) /\ Hid (KB B m w wr) /\ Hid (wr.heap[w.heap.size]? = some (.cells #[.bool false, .int .i64 0, .string ⟨#[]⟩, .bool false, .string ⟨#[]⟩, .int .i64 0] 44 (0, 0))) /\ 2001 - s.steps <= kx)
 case atStart => exact ⟨s0, HS0.out, fun o h => h, HM0.out, HK0.out, HR0.out, by omega⟩
 case round =>
  clear HM0 HK0 HR0 HS0
  obtain ⟨s, HS, HR, HM, HK, HB, hkx⟩ := hrel
  obtain ⟨ao, cp, m0, m1, m2, m3, m4, mf, hml, _, hmach⟩ := HM.out.all
  have HMACH : Hid (Mach wr.drew m (.slice ao s.stack.length cp) (.slice a is.length cap) s.pl s.steps s.looks) := hmach
  have hp200 := HS.out.pl
  have hst := HS.out.steps
  have hlk := HS.out.looks
  clear hmach
  by_cases hpl : s.pl < is.length
  ·have hplI : (s.pl : Int) < (is.length : Int) := by omega
   by_cases hst2 : s.steps = 2000
   ·have hst3 : ((s.steps : Int) == 2000) = true := by simp; omega
    have HST : Hid (step0 is s = .over 3 ⟨#[]⟩ s.steps) := st_spent hpl hst2
    have HKd : Hid (KB B m w wr.drew) := HK.out.drew
    clear hst2
    go_wp2_with fail
    go_region
    go_wp2_with fail
    refine (over_any m (.slice ao s.stack.length cp) _ s.pl s.steps s.looks 3 ⟨#[]⟩ _ HMACH.out).mono ?_
    rintro e w2 ⟨rfl, hb2⟩
    have hKB : KB B m w w2 := HKd.out.trans (KB.old hb2 (Nat.le_trans hB (Nat.le_trans HK.out.size (Nat.le_refl _))))
    have HKB : Hid (KB B m w w2) := hKB
    have hblk : w2.heap[w.heap.size]? = some (.cells #[.bool false, .int .i64 0, .string ⟨#[]⟩, .bool false, .string ⟨#[]⟩, .int .i64 0] 44 (0, 0)) := (by rw [hb2.block _ (blk_lt HB.out)]; exact HB.out)
    have k0 := Lib.cell_of_heap hblk 0
    have k1 := Lib.cell_of_heap hblk 1
    have k2 := Lib.cell_of_heap hblk 2
    have k3 := Lib.cell_of_heap hblk 3
    have k4 := Lib.cell_of_heap hblk 4
    have k5 := Lib.cell_of_heap hblk 5
    simp only [gA, gB, gC] at k0 k1 k2 k3 k4 k5
    have f0 : ∀ j, w2.frozen? ⟨w.heap.size, j, none⟩ = false := fun j => Lib.frozen_of_heap hblk j
    clear hblk hb2 hKB m0 m1 m2 m3 m4 mf
    unfold turnV
    go_wp2
    exact bodyPost_ret (v := turnV true 3 ⟨#[]⟩ false ⟨#[]⟩ s.steps) (by simp [results, Tryz.results21, go_sem, turnV, k0, k1, k2, k3, k4, k5]) rfl ⟨((((((HKB.out).setN 0 hB _).setN 1 hB _).setN 2 hB _).setN 3 hB _).setN 4 hB _).setN 5 hB _, Or.inl ⟨3, ⟨#[]⟩, s.steps, HR.out _ (.over HST.out), rfl⟩⟩
   ·have hst3 : ((s.steps : Int) == 2000) = false := by simp; omega
    obtain ⟨o, t, n, ei, ho1, ho2, ht, hn, hn2⟩ := ok_parts HV.out hpl
    obtain ⟨b, off, rfl, d1, d2, d3⟩ := (HC.out.belowB HK.out.below).1 s.pl hpl
    have hbB := (HC.out).2 b off rfl
    rw [ei] at d1 d2 d3
    have EI : Hid (ix is s.pl = ⟨o, t, n⟩) := ei
    obtain ⟨t1, t2, t3⟩ := (HT.out.belowB HK.out.below (by omega)) o (by omega)
    have hbm : b ≠ m := by omega
    have h0m : 0 ≠ m := by omega
    clear ei t1 t2
    obtain ⟨W1, eW1⟩ : ∃ W1, wr.setCell ⟨m, 3, none⟩ (.int .i64 ((s.steps : Int) + 1)) = W1 := ⟨_, rfl⟩
    have HM1 : Hid (MOk B W1 m s.stack (.slice (some ⟨b, off, none⟩) is.length cap) s.pl ((s.steps : Int) + 1) s.looks) := by rw [<- eW1]; exact HM.out.steps _
    have HK1 : Hid (KB B m w W1) := by rw [<- eW1]; exact HK.out.setM 3 hBm _
    have HB1 : Hid (W1.heap[w.heap.size]? = some (.cells #[.bool false, .int .i64 0, .string ⟨#[]⟩, .bool false, .string ⟨#[]⟩, .int .i64 0] 44 (0, 0))) := by rw [<- eW1, Below.heap_setCell wr ⟨m, 3, none⟩ _ _ (by simp; omega)]; exact HB.out
    have hW1l : W1.heap.size = wr.heap.size := by rw [<- eW1]; simp [go_sem]
    obtain ⟨n0, np, g0, g1, g2, g3, g4, gf, gml, _, gmach⟩ := HM1.out.all
    have hal := alK W1
    obtain ⟨b', off', eb, e1, e2, e3⟩ := (HC.out.belowB HK1.out.below).1 s.pl hpl
    simp only [Option.some.injEq, Addr.mk.injEq, and_true] at eb
    obtain ⟨rfl, rfl⟩ := eb
    rw [EI.out] at e1 e2 e3
    obtain ⟨_, _, e4⟩ := (HT.out.belowB HK1.out.below (by omega)) o (by omega)
    rw [takes_eq o ho2] at e4
    have a1 := fun x => hal _ _ x e1
    have a2 := fun x => hal _ _ x e2
    have a3 := fun x => hal _ _ x e3
    have a4 := fun x => hal _ _ x e4
    have a5 := fun x => hal _ _ x g0
    have a6 := fun x => hal _ _ x g2
    clear hal
    go_wp2
    go_region
    go_wp2
    clear eW1 m0 m1 m2 m3 m4 mf d1 d2 d3 t3
    go_region
    go_wp2
    go_region
    obtain ⟨W2, eW2⟩ : ∃ W2, (W1.alloc (.cells #[.int .i64 o, .string t, .int .i64 n] 91)).drew.drew.drew = W2 := ⟨_, rfl⟩
    have hbb : Below W1.heap.size W1 W2 := by rw [<- eW2]; exact ((Below.refl _ _).alloc (Nat.le_refl _) _).drew.drew.drew
    have HM2 : Hid (MOk B W2 m s.stack (.slice (some ⟨b, off, none⟩) is.length cap) s.pl ((s.steps : Int) + 1) s.looks) := HM1.out.below hbb
    have HK2 : Hid (KB B m w W2) := HK1.out.trans (KB.old hbb (Nat.le_trans hB HK1.out.size))
    have HB2 : Hid (W2.heap[w.heap.size]? = some (.cells #[.bool false, .int .i64 0, .string ⟨#[]⟩, .bool false, .string ⟨#[]⟩, .int .i64 0] 44 (0, 0))) := by
     rw [hbb.block _ (by rw [hW1l]; exact blk_lt HB.out)]; exact HB1.out
    have HX : Hid (W2.heap[wr.heap.size]? = some (.cells #[.int .i64 o, .string t, .int .i64 n] 91 (0, 0))) := by
     rw [<- eW2, <- hW1l]; exact heap_new _ _
    have x0 : W2.cell? ⟨wr.heap.size, 0, none⟩ = some (.int .i64 o) := by rw [Lib.cell_of_heap HX.out]; rfl
    have x1 : W2.cell? ⟨wr.heap.size, 1, none⟩ = some (.string t) := by rw [Lib.cell_of_heap HX.out]; rfl
    have x2 : W2.cell? ⟨wr.heap.size, 2, none⟩ = some (.int .i64 n) := by rw [Lib.cell_of_heap HX.out]; rfl
    have hB2 : B <= W2.heap.size := Nat.le_trans hB HK2.out.size
    have HP2 : Hid (P10 W2) := HP.out.belowB HK2.out.below hB1
    obtain ⟨q0, qp, _, _, _, _, _, _, _, _, gmach2⟩ := HM2.out.all
    have HMA : Hid (Mach W2 m (.slice q0 s.stack.length qp) (.slice (some ⟨b, off, none⟩) is.length cap) s.pl ((s.steps : Int) + 1) s.looks) := gmach2
    rw [eW2]
    clear gmach2 eW2 hbb a1 a2 a3 a4 a5 a6 e1 e2 e3 e4 g0 g1 g2 g3 g4 gf gml gmach HM1 HK1 HB HMACH HM HK
    have HSI : Hid (step0 is s = insP ⟨o, t, n⟩ s) := st_ins hpl hst2 EI.out
    by_cases htk : s.stack.length < takesN o
    ·have htkI : (s.stack.length : Int) < (takesN o : Int) := by omega
     have HST : Hid (step0 is s = .over 2 (decB s.pl) (s.steps + 1)) := HSI.out.trans (ins_few htk)
     go_wp2_with fail
     refine (stuck_any m _ _ s.pl _ s.looks _ HMA.out HP2.out (by omega) (by omega)).mono ?_
     rintro e w2 ⟨rfl, hb2⟩
     have HKB : Hid (KB B m w w2) := HK2.out.trans (KB.old hb2 hB2)
     have hblk : w2.heap[w.heap.size]? = some (.cells #[.bool false, .int .i64 0, .string ⟨#[]⟩, .bool false, .string ⟨#[]⟩, .int .i64 0] 44 (0, 0)) := (by rw [hb2.block _ (blk_lt HB2.out)]; exact HB2.out)
     have k0 := Lib.cell_of_heap hblk 0
     have k1 := Lib.cell_of_heap hblk 1
     have k2 := Lib.cell_of_heap hblk 2
     have k3 := Lib.cell_of_heap hblk 3
     have k4 := Lib.cell_of_heap hblk 4
     have k5 := Lib.cell_of_heap hblk 5
     simp only [gA, gB, gC] at k0 k1 k2 k3 k4 k5
     have f0 : ∀ j, w2.frozen? ⟨w.heap.size, j, none⟩ = false := fun j => Lib.frozen_of_heap hblk j
     clear hblk x0 x1 x2
     unfold turnV
     go_wp2
     exact bodyPost_ret (v := turnV true 2 (decB s.pl) false ⟨#[]⟩ ((s.steps : Int) + 1)) (by simp [results, Tryz.results21, go_sem, turnV, decB, k0, k1, k2, k3, k4, k5]) rfl ⟨((((((HKB.out).setN 0 hB _).setN 1 hB _).setN 2 hB _).setN 3 hB _).setN 4 hB _).setN 5 hB _, Or.inl ⟨2, (decB s.pl), s.steps + 1, HR.out _ (.over HST.out), rfl⟩⟩
    ·have htkI : ¬ (s.stack.length : Int) < (takesN o : Int) := by omega
     have hln := HS.out.len
     rcases (show o <= 11 \/ o = 12 \/ o = 13 \/ o = 14 \/ o = 15 by omega) with ho | rfl | rfl | rfl | rfl
     ·have d12 : ((o : Int) == 12) = false := by simp; omega
      have d13 : ((o : Int) == 13) = false := by simp; omega
      have d14 : ((o : Int) == 14) = false := by simp; omega
      have d15 : ((o : Int) == 15) = false := by simp; omega
      go_wp2_with fail
      refine (work_any B m s.stack _ s.pl _ s.looks t n _ o HM2.out hB2 hp200 hn hln HS.out.size ht ho1 ho (by omega)).mono ?_
      rintro e w3 ⟨hk3, ⟨rfl, hbad, hM3⟩ | ⟨rfl, hbad, ss', hM3⟩⟩
      ·have HST : Hid (step0 is s = .go ⟨nextP o n s.pl (topB s.stack), restL s.stack (takesN o) ++ outP o t n (topB s.stack) (subB s.stack), s.steps + 1, s.looks⟩) := HSI.out.trans (ins_go htk ho hbad)
       have HM3 : Hid (MOk B w3 m (restL s.stack (takesN o) ++ outP o t n (topB s.stack) (subB s.stack)) (.slice (some ⟨b, off, none⟩) is.length cap) (nextP o n s.pl (topB s.stack) : Nat) ((s.steps : Int) + 1) s.looks) := hM3
       have HBD : Hid (¬ Bad o t n s.stack) := hbad
       have HK3 : Hid (KB B m W2 w3) := hk3
       clear hM3 hbad hk3
       go_wp2_with fail
       go_roundg (2001 - (s.steps + 1))
       case rel => exact ⟨⟨nextP o n s.pl (topB s.stack), restL s.stack (takesN o) ++ outP o t n (topB s.stack) (subB s.stack), s.steps + 1, s.looks⟩, go_ok HS.out hlen.2 hpl hst2 hn2 HBD.out, fun o' h => HR.out o' (.go HST.out h), HM3.out, HK2.out.trans HK3.out, HK3.out.keep _ _ 44 (by decide) (by omega) HB2.out, by simp⟩
       case measure => omega
      ·have HST : Hid (step0 is s = .over 2 (decB s.pl) (s.steps + 1)) := HSI.out.trans (ins_stuck htk ho hbad)
       obtain ⟨z0, zp, _, _, _, _, _, _, _, _, gm3⟩ := hM3.all
       have HG3 : Hid (Mach w3 m _ _ s.pl ((s.steps : Int) + 1) s.looks) := gm3
       have HK3 : Hid (KB B m w w3) := HK2.out.trans hk3
       have HB3 : Hid (w3.heap[w.heap.size]? = some (.cells #[.bool false, .int .i64 0, .string ⟨#[]⟩, .bool false, .string ⟨#[]⟩, .int .i64 0] 44 (0, 0))) := hk3.keep _ _ 44 (by decide) (by omega) HB2.out
       have HP3 : Hid (P10 w3) := HP.out.belowB HK3.out.below hB1
       clear hM3 hbad hk3 gm3
       go_wp2_with fail
       refine (stuck_any m _ _ s.pl _ s.looks _ HG3.out HP3.out (by omega) (by omega)).mono ?_
       rintro e w2 ⟨rfl, hb2⟩
       have HKB : Hid (KB B m w w2) := HK3.out.trans (KB.old hb2 (Nat.le_trans hB HK3.out.size))
       have hblk : w2.heap[w.heap.size]? = some (.cells #[.bool false, .int .i64 0, .string ⟨#[]⟩, .bool false, .string ⟨#[]⟩, .int .i64 0] 44 (0, 0)) := (by rw [hb2.block _ (blk_lt HB3.out)]; exact HB3.out)
       have k0 := Lib.cell_of_heap hblk 0
       have k1 := Lib.cell_of_heap hblk 1
       have k2 := Lib.cell_of_heap hblk 2
       have k3 := Lib.cell_of_heap hblk 3
       have k4 := Lib.cell_of_heap hblk 4
       have k5 := Lib.cell_of_heap hblk 5
       simp only [gA, gB, gC] at k0 k1 k2 k3 k4 k5
       have f0 : ∀ j, w2.frozen? ⟨w.heap.size, j, none⟩ = false := fun j => Lib.frozen_of_heap hblk j
       clear hblk x0 x1 x2
       unfold turnV
       go_wp2
       exact bodyPost_ret (v := turnV true 2 (decB s.pl) false ⟨#[]⟩ ((s.steps : Int) + 1)) (by simp [results, Tryz.results21, go_sem, turnV, decB, k0, k1, k2, k3, k4, k5]) rfl ⟨((((((HKB.out).setN 0 hB _).setN 1 hB _).setN 2 hB _).setN 3 hB _).setN 4 hB _).setN 5 hB _, Or.inl ⟨2, (decB s.pl), s.steps + 1, HR.out _ (.over HST.out), rfl⟩⟩
     ·have htk1 : 1 <= s.stack.length := by have : takesN 12 = 1 := rfl; omega
      have hs1 := split1 htk1
      have hr1 := restL_length s.stack 1
      have hx1 := HS.out.size _ (top_mem htk1)
      have HM2' : Hid (MOk B W2 m (restL s.stack 1 ++ [topB s.stack]) (.slice (some ⟨b, off, none⟩) is.length cap) s.pl ((s.steps : Int) + 1) s.looks) := by rw [<- hs1]; exact HM2.out
      clear hs1
      by_cases hnm : NameOk (topB s.stack)
      ·by_cases hlk2 : s.looks = 200
       ·have HST : Hid (step0 is s = .over 3 ⟨#[]⟩ (s.steps + 1)) := HSI.out.trans (ins_spent htk (by omega) hnm hlk2)
        go_wp2_with fail
        refine (look_spent B m _ _ _ s.pl _ s.looks true _ HM2'.out hB2 (by omega) hx1 HP2.out hB1 (by omega) (by omega) hnm (by omega)).mono ?_
        rintro e w2 ⟨rfl, hb2⟩
        have HKB : Hid (KB B m w w2) := HK2.out.trans hb2
        have hblk : w2.heap[w.heap.size]? = some (.cells #[.bool false, .int .i64 0, .string ⟨#[]⟩, .bool false, .string ⟨#[]⟩, .int .i64 0] 44 (0, 0)) := (hb2.keep _ _ 44 (by decide) (by omega) HB2.out)
        have k0 := Lib.cell_of_heap hblk 0
        have k1 := Lib.cell_of_heap hblk 1
        have k2 := Lib.cell_of_heap hblk 2
        have k3 := Lib.cell_of_heap hblk 3
        have k4 := Lib.cell_of_heap hblk 4
        have k5 := Lib.cell_of_heap hblk 5
        simp only [gA, gB, gC] at k0 k1 k2 k3 k4 k5
        have f0 : ∀ j, w2.frozen? ⟨w.heap.size, j, none⟩ = false := fun j => Lib.frozen_of_heap hblk j
        clear hblk x0 x1 x2
        unfold turnV
        go_wp2
        exact bodyPost_ret (v := turnV true 3 ⟨#[]⟩ false ⟨#[]⟩ ((s.steps : Int) + 1)) (by simp [results, Tryz.results21, go_sem, turnV, k0, k1, k2, k3, k4, k5]) rfl ⟨((((((HKB.out).setN 0 hB _).setN 1 hB _).setN 2 hB _).setN 3 hB _).setN 4 hB _).setN 5 hB _, Or.inl ⟨3, ⟨#[]⟩, s.steps + 1, HR.out _ (.over HST.out), rfl⟩⟩
       ·have HST : Hid (step0 is s = .look true (topB s.stack) ⟨s.pl, restL s.stack 1, s.steps + 1, s.looks + 1⟩) := HSI.out.trans (ins_look htk (by omega) hnm hlk2)
        go_wp2_with fail
        refine (look_wait B m _ _ _ s.pl _ s.looks true _ HM2'.out hB2 (by omega) hx1 hnm (by omega) (by omega)).mono ?_
        rintro e w2 ⟨rfl, hb2, hM5⟩
        have HKB : Hid (KB B m w w2) := HK2.out.trans hb2
        have HM5 : Hid (MOk B w2 m (restL s.stack 1) (.slice (some ⟨b, off, none⟩) is.length cap) s.pl ((s.steps : Int) + 1) ((s.looks : Int) + 1)) := hM5
        have HBK : Hid (w2.heap[w.heap.size]? = some (.cells #[.bool false, .int .i64 0, .string ⟨#[]⟩, .bool false, .string ⟨#[]⟩, .int .i64 0] 44 (0, 0))) := hb2.keep _ _ 44 (by decide) (by omega) HB2.out
        clear hM5
        have hblk : w2.heap[w.heap.size]? = some (.cells #[.bool false, .int .i64 0, .string ⟨#[]⟩, .bool false, .string ⟨#[]⟩, .int .i64 0] 44 (0, 0)) := HBK.out
        have k0 := Lib.cell_of_heap hblk 0
        have k1 := Lib.cell_of_heap hblk 1
        have k2 := Lib.cell_of_heap hblk 2
        have k3 := Lib.cell_of_heap hblk 3
        have k4 := Lib.cell_of_heap hblk 4
        have k5 := Lib.cell_of_heap hblk 5
        simp only [gA, gB, gC] at k0 k1 k2 k3 k4 k5
        have f0 : ∀ j, w2.frozen? ⟨w.heap.size, j, none⟩ = false := fun j => Lib.frozen_of_heap hblk j
        clear hblk x0 x1 x2
        unfold turnV
        go_wp2
        exact bodyPost_ret (v := turnV false 0 ⟨#[]⟩ true (topB s.stack) ((s.steps : Int) + 1)) (by simp [results, Tryz.results21, go_sem, turnV, k0, k1, k2, k3, k4, k5]) rfl ⟨((((((HKB.out).setN 0 hB _).setN 1 hB _).setN 2 hB _).setN 3 hB _).setN 4 hB _).setN 5 hB _, Or.inr ⟨true, topB s.stack, ⟨s.pl, restL s.stack 1, s.steps + 1, s.looks + 1⟩, HR.out _ (.look HST.out), rfl, look_ok HS.out hst2 hlk2, (MOk.turn (MOk.turn (MOk.turn (MOk.turn (MOk.turn (MOk.turn ⟨HM5.out, _, HBK.out⟩ 0 _) 1 _) 2 _) 3 _) 4 _) 5 _).1⟩⟩
      ·have HST : Hid (step0 is s = .over 2 (decB s.pl) (s.steps + 1)) := HSI.out.trans (ins_bad htk (by omega) hnm)
       go_wp2_with fail
       refine (look_bad B m _ _ _ s.pl _ s.looks true _ HM2'.out hB2 (by omega) hx1 HP2.out hB1 (by omega) (by omega) hnm).mono ?_
       rintro e w2 ⟨rfl, hb2⟩
       have HKB : Hid (KB B m w w2) := HK2.out.trans hb2
       have hblk : w2.heap[w.heap.size]? = some (.cells #[.bool false, .int .i64 0, .string ⟨#[]⟩, .bool false, .string ⟨#[]⟩, .int .i64 0] 44 (0, 0)) := (hb2.keep _ _ 44 (by decide) (by omega) HB2.out)
       have k0 := Lib.cell_of_heap hblk 0
       have k1 := Lib.cell_of_heap hblk 1
       have k2 := Lib.cell_of_heap hblk 2
       have k3 := Lib.cell_of_heap hblk 3
       have k4 := Lib.cell_of_heap hblk 4
       have k5 := Lib.cell_of_heap hblk 5
       simp only [gA, gB, gC] at k0 k1 k2 k3 k4 k5
       have f0 : ∀ j, w2.frozen? ⟨w.heap.size, j, none⟩ = false := fun j => Lib.frozen_of_heap hblk j
       clear hblk x0 x1 x2
       unfold turnV
       go_wp2
       exact bodyPost_ret (v := turnV true 2 (decB s.pl) false ⟨#[]⟩ ((s.steps : Int) + 1)) (by simp [results, Tryz.results21, go_sem, turnV, decB, k0, k1, k2, k3, k4, k5]) rfl ⟨((((((HKB.out).setN 0 hB _).setN 1 hB _).setN 2 hB _).setN 3 hB _).setN 4 hB _).setN 5 hB _, Or.inl ⟨2, (decB s.pl), s.steps + 1, HR.out _ (.over HST.out), rfl⟩⟩
     ·have htk1 : 1 <= s.stack.length := by have : takesN 13 = 1 := rfl; omega
      have hs1 := split1 htk1
      have hr1 := restL_length s.stack 1
      have hx1 := HS.out.size _ (top_mem htk1)
      have HM2' : Hid (MOk B W2 m (restL s.stack 1 ++ [topB s.stack]) (.slice (some ⟨b, off, none⟩) is.length cap) s.pl ((s.steps : Int) + 1) s.looks) := by rw [<- hs1]; exact HM2.out
      clear hs1
      by_cases hnm : NameOk (topB s.stack)
      ·by_cases hlk2 : s.looks = 200
       ·have HST : Hid (step0 is s = .over 3 ⟨#[]⟩ (s.steps + 1)) := HSI.out.trans (ins_spent htk (by omega) hnm hlk2)
        go_wp2_with fail
        refine (look_spent B m _ _ _ s.pl _ s.looks false _ HM2'.out hB2 (by omega) hx1 HP2.out hB1 (by omega) (by omega) hnm (by omega)).mono ?_
        rintro e w2 ⟨rfl, hb2⟩
        have HKB : Hid (KB B m w w2) := HK2.out.trans hb2
        have hblk : w2.heap[w.heap.size]? = some (.cells #[.bool false, .int .i64 0, .string ⟨#[]⟩, .bool false, .string ⟨#[]⟩, .int .i64 0] 44 (0, 0)) := (hb2.keep _ _ 44 (by decide) (by omega) HB2.out)
        have k0 := Lib.cell_of_heap hblk 0
        have k1 := Lib.cell_of_heap hblk 1
        have k2 := Lib.cell_of_heap hblk 2
        have k3 := Lib.cell_of_heap hblk 3
        have k4 := Lib.cell_of_heap hblk 4
        have k5 := Lib.cell_of_heap hblk 5
        simp only [gA, gB, gC] at k0 k1 k2 k3 k4 k5
        have f0 : ∀ j, w2.frozen? ⟨w.heap.size, j, none⟩ = false := fun j => Lib.frozen_of_heap hblk j
        clear hblk x0 x1 x2
        unfold turnV
        go_wp2
        exact bodyPost_ret (v := turnV true 3 ⟨#[]⟩ false ⟨#[]⟩ ((s.steps : Int) + 1)) (by simp [results, Tryz.results21, go_sem, turnV, k0, k1, k2, k3, k4, k5]) rfl ⟨((((((HKB.out).setN 0 hB _).setN 1 hB _).setN 2 hB _).setN 3 hB _).setN 4 hB _).setN 5 hB _, Or.inl ⟨3, ⟨#[]⟩, s.steps + 1, HR.out _ (.over HST.out), rfl⟩⟩
       ·have HST : Hid (step0 is s = .look false (topB s.stack) ⟨s.pl, restL s.stack 1, s.steps + 1, s.looks + 1⟩) := HSI.out.trans (ins_look htk (by omega) hnm hlk2)
        go_wp2_with fail
        refine (look_wait B m _ _ _ s.pl _ s.looks false _ HM2'.out hB2 (by omega) hx1 hnm (by omega) (by omega)).mono ?_
        rintro e w2 ⟨rfl, hb2, hM5⟩
        have HKB : Hid (KB B m w w2) := HK2.out.trans hb2
        have HM5 : Hid (MOk B w2 m (restL s.stack 1) (.slice (some ⟨b, off, none⟩) is.length cap) s.pl ((s.steps : Int) + 1) ((s.looks : Int) + 1)) := hM5
        have HBK : Hid (w2.heap[w.heap.size]? = some (.cells #[.bool false, .int .i64 0, .string ⟨#[]⟩, .bool false, .string ⟨#[]⟩, .int .i64 0] 44 (0, 0))) := hb2.keep _ _ 44 (by decide) (by omega) HB2.out
        clear hM5
        have hblk : w2.heap[w.heap.size]? = some (.cells #[.bool false, .int .i64 0, .string ⟨#[]⟩, .bool false, .string ⟨#[]⟩, .int .i64 0] 44 (0, 0)) := HBK.out
        have k0 := Lib.cell_of_heap hblk 0
        have k1 := Lib.cell_of_heap hblk 1
        have k2 := Lib.cell_of_heap hblk 2
        have k3 := Lib.cell_of_heap hblk 3
        have k4 := Lib.cell_of_heap hblk 4
        have k5 := Lib.cell_of_heap hblk 5
        simp only [gA, gB, gC] at k0 k1 k2 k3 k4 k5
        have f0 : ∀ j, w2.frozen? ⟨w.heap.size, j, none⟩ = false := fun j => Lib.frozen_of_heap hblk j
        clear hblk x0 x1 x2
        unfold turnV
        go_wp2
        exact bodyPost_ret (v := turnV false 0 ⟨#[]⟩ false (topB s.stack) ((s.steps : Int) + 1)) (by simp [results, Tryz.results21, go_sem, turnV, k0, k1, k2, k3, k4, k5]) rfl ⟨((((((HKB.out).setN 0 hB _).setN 1 hB _).setN 2 hB _).setN 3 hB _).setN 4 hB _).setN 5 hB _, Or.inr ⟨false, topB s.stack, ⟨s.pl, restL s.stack 1, s.steps + 1, s.looks + 1⟩, HR.out _ (.look HST.out), rfl, look_ok HS.out hst2 hlk2, (MOk.turn (MOk.turn (MOk.turn (MOk.turn (MOk.turn (MOk.turn ⟨HM5.out, _, HBK.out⟩ 0 _) 1 _) 2 _) 3 _) 4 _) 5 _).1⟩⟩
      ·have HST : Hid (step0 is s = .over 2 (decB s.pl) (s.steps + 1)) := HSI.out.trans (ins_bad htk (by omega) hnm)
       go_wp2_with fail
       refine (look_bad B m _ _ _ s.pl _ s.looks false _ HM2'.out hB2 (by omega) hx1 HP2.out hB1 (by omega) (by omega) hnm).mono ?_
       rintro e w2 ⟨rfl, hb2⟩
       have HKB : Hid (KB B m w w2) := HK2.out.trans hb2
       have hblk : w2.heap[w.heap.size]? = some (.cells #[.bool false, .int .i64 0, .string ⟨#[]⟩, .bool false, .string ⟨#[]⟩, .int .i64 0] 44 (0, 0)) := (hb2.keep _ _ 44 (by decide) (by omega) HB2.out)
       have k0 := Lib.cell_of_heap hblk 0
       have k1 := Lib.cell_of_heap hblk 1
       have k2 := Lib.cell_of_heap hblk 2
       have k3 := Lib.cell_of_heap hblk 3
       have k4 := Lib.cell_of_heap hblk 4
       have k5 := Lib.cell_of_heap hblk 5
       simp only [gA, gB, gC] at k0 k1 k2 k3 k4 k5
       have f0 : ∀ j, w2.frozen? ⟨w.heap.size, j, none⟩ = false := fun j => Lib.frozen_of_heap hblk j
       clear hblk x0 x1 x2
       unfold turnV
       go_wp2
       exact bodyPost_ret (v := turnV true 2 (decB s.pl) false ⟨#[]⟩ ((s.steps : Int) + 1)) (by simp [results, Tryz.results21, go_sem, turnV, decB, k0, k1, k2, k3, k4, k5]) rfl ⟨((((((HKB.out).setN 0 hB _).setN 1 hB _).setN 2 hB _).setN 3 hB _).setN 4 hB _).setN 5 hB _, Or.inl ⟨2, (decB s.pl), s.steps + 1, HR.out _ (.over HST.out), rfl⟩⟩
     ·have htk1 : 1 <= s.stack.length := by have : takesN 14 = 1 := rfl; omega
      have hs1 := split1 htk1
      have hr1 := restL_length s.stack 1
      have HM2' : Hid (MOk B W2 m (restL s.stack 1 ++ [topB s.stack]) (.slice (some ⟨b, off, none⟩) is.length cap) s.pl ((s.steps : Int) + 1) s.looks) := by rw [<- hs1]; exact HM2.out
      clear hs1
      have HST : Hid (step0 is s = .over 1 (topB s.stack) (s.steps + 1)) := HSI.out.trans (ins_fail htk rfl)
      go_wp2_with fail
      refine (take_anyK B m _ _ _ s.pl _ s.looks _ HM2'.out hB2 (by omega)).mono ?_
      rintro e w3 ⟨rfl, hk3, hM3, hkk⟩
      obtain ⟨z0, zp, _, _, _, _, _, _, _, _, gm3⟩ := hM3.all
      have HG3 : Hid (Mach w3 m _ _ s.pl ((s.steps : Int) + 1) s.looks) := gm3
      have HK3 : Hid (KB B m w w3) := HK2.out.trans hk3
      have HB3 : Hid (w3.heap[w.heap.size]? = some (.cells #[.bool false, .int .i64 0, .string ⟨#[]⟩, .bool false, .string ⟨#[]⟩, .int .i64 0] 44 (0, 0))) := hk3.keep _ _ 44 (by decide) (by omega) HB2.out
      clear hM3 hk3 gm3 hkk
      go_wp2_with fail
      refine (over_any m _ _ s.pl _ s.looks 1 (topB s.stack) _ HG3.out).mono ?_
      rintro e w2 ⟨rfl, hb2⟩
      have HKB : Hid (KB B m w w2) := HK3.out.trans (KB.old hb2 (Nat.le_trans hB HK3.out.size))
      have hblk : w2.heap[w.heap.size]? = some (.cells #[.bool false, .int .i64 0, .string ⟨#[]⟩, .bool false, .string ⟨#[]⟩, .int .i64 0] 44 (0, 0)) := (by rw [hb2.block _ (blk_lt HB3.out)]; exact HB3.out)
      have k0 := Lib.cell_of_heap hblk 0
      have k1 := Lib.cell_of_heap hblk 1
      have k2 := Lib.cell_of_heap hblk 2
      have k3 := Lib.cell_of_heap hblk 3
      have k4 := Lib.cell_of_heap hblk 4
      have k5 := Lib.cell_of_heap hblk 5
      simp only [gA, gB, gC] at k0 k1 k2 k3 k4 k5
      have f0 : ∀ j, w2.frozen? ⟨w.heap.size, j, none⟩ = false := fun j => Lib.frozen_of_heap hblk j
      clear hblk x0 x1 x2
      unfold turnV
      go_wp2
      exact bodyPost_ret (v := turnV true 1 (topB s.stack) false ⟨#[]⟩ ((s.steps : Int) + 1)) (by simp [results, Tryz.results21, go_sem, turnV, k0, k1, k2, k3, k4, k5]) rfl ⟨((((((HKB.out).setN 0 hB _).setN 1 hB _).setN 2 hB _).setN 3 hB _).setN 4 hB _).setN 5 hB _, Or.inl ⟨1, (topB s.stack), s.steps + 1, HR.out _ (.over HST.out), rfl⟩⟩
     ·have htk1 : 1 <= s.stack.length := by have : takesN 15 = 1 := rfl; omega
      have hs1 := split1 htk1
      have hr1 := restL_length s.stack 1
      have HM2' : Hid (MOk B W2 m (restL s.stack 1 ++ [topB s.stack]) (.slice (some ⟨b, off, none⟩) is.length cap) s.pl ((s.steps : Int) + 1) s.looks) := by rw [<- hs1]; exact HM2.out
      clear hs1
      have HST : Hid (step0 is s = .over 0 (topB s.stack) (s.steps + 1)) := HSI.out.trans (ins_end htk rfl)
      go_wp2_with fail
      refine (take_anyK B m _ _ _ s.pl _ s.looks _ HM2'.out hB2 (by omega)).mono ?_
      rintro e w3 ⟨rfl, hk3, hM3, hkk⟩
      obtain ⟨z0, zp, _, _, _, _, _, _, _, _, gm3⟩ := hM3.all
      have HG3 : Hid (Mach w3 m _ _ s.pl ((s.steps : Int) + 1) s.looks) := gm3
      have HK3 : Hid (KB B m w w3) := HK2.out.trans hk3
      have HB3 : Hid (w3.heap[w.heap.size]? = some (.cells #[.bool false, .int .i64 0, .string ⟨#[]⟩, .bool false, .string ⟨#[]⟩, .int .i64 0] 44 (0, 0))) := hk3.keep _ _ 44 (by decide) (by omega) HB2.out
      clear hM3 hk3 gm3 hkk
      go_wp2_with fail
      refine (over_any m _ _ s.pl _ s.looks 0 (topB s.stack) _ HG3.out).mono ?_
      rintro e w2 ⟨rfl, hb2⟩
      have HKB : Hid (KB B m w w2) := HK3.out.trans (KB.old hb2 (Nat.le_trans hB HK3.out.size))
      have hblk : w2.heap[w.heap.size]? = some (.cells #[.bool false, .int .i64 0, .string ⟨#[]⟩, .bool false, .string ⟨#[]⟩, .int .i64 0] 44 (0, 0)) := (by rw [hb2.block _ (blk_lt HB3.out)]; exact HB3.out)
      have k0 := Lib.cell_of_heap hblk 0
      have k1 := Lib.cell_of_heap hblk 1
      have k2 := Lib.cell_of_heap hblk 2
      have k3 := Lib.cell_of_heap hblk 3
      have k4 := Lib.cell_of_heap hblk 4
      have k5 := Lib.cell_of_heap hblk 5
      simp only [gA, gB, gC] at k0 k1 k2 k3 k4 k5
      have f0 : ∀ j, w2.frozen? ⟨w.heap.size, j, none⟩ = false := fun j => Lib.frozen_of_heap hblk j
      clear hblk x0 x1 x2
      unfold turnV
      go_wp2
      exact bodyPost_ret (v := turnV true 0 (topB s.stack) false ⟨#[]⟩ ((s.steps : Int) + 1)) (by simp [results, Tryz.results21, go_sem, turnV, k0, k1, k2, k3, k4, k5]) rfl ⟨((((((HKB.out).setN 0 hB _).setN 1 hB _).setN 2 hB _).setN 3 hB _).setN 4 hB _).setN 5 hB _, Or.inl ⟨0, (topB s.stack), s.steps + 1, HR.out _ (.over HST.out), rfl⟩⟩
  ·have hplI : ¬ (s.pl : Int) < (is.length : Int) := by omega
   have HST : Hid (step0 is s = .over 2 (decB s.pl) s.steps) := st_place hpl
   have HPd : Hid (P10 wr.drew) := (HP.out.belowB HK.out.drew.below hB1)
   have HKd : Hid (KB B m w wr.drew) := HK.out.drew
   go_wp2_with fail
   go_region
   go_wp2_with fail
   refine (stuck_any m (.slice ao s.stack.length cp) _ s.pl s.steps s.looks _ HMACH.out HPd.out (by omega) (by omega)).mono ?_
   rintro e w2 ⟨rfl, hb2⟩
   have hKB : KB B m w w2 := HKd.out.trans (KB.old hb2 (Nat.le_trans hB (Nat.le_trans HK.out.size (Nat.le_refl _))))
   have HKB : Hid (KB B m w w2) := hKB
   have hblk : w2.heap[w.heap.size]? = some (.cells #[.bool false, .int .i64 0, .string ⟨#[]⟩, .bool false, .string ⟨#[]⟩, .int .i64 0] 44 (0, 0)) := (by rw [hb2.block _ (blk_lt HB.out)]; exact HB.out)
   have k0 := Lib.cell_of_heap hblk 0
   have k1 := Lib.cell_of_heap hblk 1
   have k2 := Lib.cell_of_heap hblk 2
   have k3 := Lib.cell_of_heap hblk 3
   have k4 := Lib.cell_of_heap hblk 4
   have k5 := Lib.cell_of_heap hblk 5
   simp only [gA, gB, gC] at k0 k1 k2 k3 k4 k5
   have f0 : ∀ j, w2.frozen? ⟨w.heap.size, j, none⟩ = false := fun j => Lib.frozen_of_heap hblk j
   clear hblk hb2 hKB m0 m1 m2 m3 m4 mf
   unfold turnV
   go_wp2
   exact bodyPost_ret (v := turnV true 2 (decB s.pl) false ⟨#[]⟩ s.steps) (by simp [results, Tryz.results21, go_sem, turnV, decB, k0, k1, k2, k3, k4, k5]) rfl ⟨((((((HKB.out).setN 0 hB _).setN 1 hB _).setN 2 hB _).setN 3 hB _).setN 4 hB _).setN 5 hB _, Or.inl ⟨2, decB s.pl, s.steps, HR.out _ (.over HST.out), rfl⟩⟩
end
end Go.Proofs.YtmanoabocelpeaaGreatDoor
