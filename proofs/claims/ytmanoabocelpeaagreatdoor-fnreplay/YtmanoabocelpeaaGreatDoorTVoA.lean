import Derived.Test.YtmanoabocelpeaaGreatDoorTNRun
import Derived.Test.YtmanoabocelpeaaGreatDoorTNSmall
import Derived.Test.YtmanoabocelpeaaGreatDoorTNPiece
namespace Go.Proofs.YtmanoabocelpeaaGreatDoor
open Go.RowKit
set_option linter.unusedVariables false
set_option maxHeartbeats 8000000
set_option maxRecDepth 100000
theorem KB.setB {B m b : Nat} {w w' : World} (h : KB B m w w') (j : Nat) (hb : w.heap.size <= b) (hB : B <= b) (v : Value) : KB B m w (w'.setCell ⟨b, j, none⟩ v) := ⟨h.below.setCell (p := ⟨b, j, none⟩) hB _, fun b' cs T h1 h2 h3 => by rw [Below.heap_setCell w' ⟨b, j, none⟩ _ b' (by have := blk_lt h3; simp; omega)]; exact h.keep b' cs T h1 h2 h3, fun hm b' cs T h1 h2 h3 => ⟨by rw [Below.heap_setCell w' ⟨b, j, none⟩ _ b' (by have := blk_lt h3; simp; omega)]; exact (h.own hm b' cs T h1 h2 h3).1, fun u hu => (h.own hm b' cs T h1 h2 h3).2 u (by rw [World.cell?_setCell_far _ _ _ _ (by simp; omega)] at hu; exact hu)⟩⟩
def RunPost0 (is : List I3) (s : St) (B m : Nat) (cd : Value) (e : Ending) (w' : World) : Prop :=
 (∃ c t n, Runs is s (.over c t n) /\ e = .returned (turnV true c t false ⟨#[]⟩ n)) \/ (∃ ask nm s', Runs is s (.look ask nm s') /\ e = .returned (turnV false 0 ⟨#[]⟩ ask nm s'.steps) /\ StOk is s' /\ MOk B w' m s'.stack cd s'.pl s'.steps s'.looks)
def AnsPost (is : List I3) (ask : Bool) (nm : ByteArray) (y : R3) (s : St) (B m : Nat) (cd : Value) (w : World) (e : Ending) (w' : World) : Prop :=
 KB B m w w' /\ ((∃ c t n, ansP ask nm y s = .over c t n /\ e = .returned (turnV true c t false ⟨#[]⟩ n)) \/ (∃ s'', ansP ask nm y s = .go s'' /\ RunPost0 is s'' B m cd e w'))
theorem ans_ok {is : List I3} {s : St} (hs : StOk is s) (hl : is.length <= 200) (hp : s.pl < is.length) (h50 : s.stack.length < 50) {x : ByteArray} (hx : x.size <= 2000) : StOk is ⟨s.pl + 1, s.stack ++ [x], s.steps, s.looks⟩ := by
 refine ⟨?_, ?_, ?_, hs.steps, hs.looks⟩
 ·show s.pl + 1 <= 200
  omega
 ·show (s.stack ++ [x]).length <= 50
  rw [List.length_append, List.length_singleton]; omega
 ·intro z hz
  rcases List.mem_append.mp hz with hz | hz
  ·exact hs.size z hz
  ·obtain rfl : z = x := by simpa using hz
   exact hx
theorem answer_any (B m : Nat) (is : List I3) (a : Option Addr) (cap : Nat) (ask : Bool) (nm : ByteArray) (y : R3) (s : St) (w : World) (hM : MOk B w m s.stack (.slice a is.length cap) s.pl s.steps s.looks) (hB : B <= w.heap.size) (hB1 : 1 < B) (hcode : CodeB B w a is) (hT : Tab w) (hP : P10 w) (hv : progOk is = true) (hs : StOk is s) (hpl : s.pl < is.length) (h50 : s.stack.length < 50) (hy : y.text.size <= 2000) :
  Calls Tryz.prog 22 #[.pointer (some ⟨m, 0, none⟩), turnV false 0 ⟨#[]⟩ ask nm s.steps, .agg #[.bool y.has, .int .i64 y.code, .string y.text]] w fun e w' => AnsPost is ask nm y s B m (.slice a is.length cap) w e w' := by
 have hlen := prog_len hv
 have hp200 := hs.pl
 have HV : Hid (progOk is = true) := hv
 have HC : Hid (CodeB B w a is) := hcode
 have HT : Hid (Tab w) := hT
 have HP : Hid (P10 w) := hP
 have HS : Hid (StOk is s) := hs
 obtain ⟨_, _, _, _, _, _, _, _, hmw, hBm, _⟩ := hM.all
 have hb0 : Below w.heap.size w (((w.alloc (.cells #[.bool false, .int .i64 0, .string ⟨#[]⟩, .bool ask, .string nm, .int .i64 s.steps] 44)).alloc (.cells #[.bool y.has, .int .i64 y.code, .string y.text] 49)).alloc (.cells #[.bool false, .int .i64 0, .string ⟨#[]⟩, .bool false, .string ⟨#[]⟩, .int .i64 0] 44)) := (((Below.refl _ _).alloc (Nat.le_refl _) _).alloc (by simp) _).alloc (by simp; omega) _
 obtain ⟨W, eW⟩ : ∃ W, (((w.alloc (.cells #[.bool false, .int .i64 0, .string ⟨#[]⟩, .bool ask, .string nm, .int .i64 s.steps] 44)).alloc (.cells #[.bool y.has, .int .i64 y.code, .string y.text] 49)).alloc (.cells #[.bool false, .int .i64 0, .string ⟨#[]⟩, .bool false, .string ⟨#[]⟩, .int .i64 0] 44)) = W := ⟨_, rfl⟩
 rw [eW] at hb0
 have HM1 : Hid (MOk B W m s.stack (.slice a is.length cap) s.pl s.steps s.looks) := hM.below hb0
 have HK1 : Hid (KB B m w W) := KB.old hb0 hB
 have HR1 : Hid (W.heap[w.heap.size + 1 + 1]? = some (.cells #[.bool false, .int .i64 0, .string ⟨#[]⟩, .bool false, .string ⟨#[]⟩, .int .i64 0] 44 (0, 0))) := by
  rw [<- eW]
  have h := heap_new ((w.alloc (.cells #[.bool false, .int .i64 0, .string ⟨#[]⟩, .bool ask, .string nm, .int .i64 s.steps] 44)).alloc (.cells #[.bool y.has, .int .i64 y.code, .string y.text] 49)) (.cells #[.bool false, .int .i64 0, .string ⟨#[]⟩, .bool false, .string ⟨#[]⟩, .int .i64 0] 44)
  rw [show ((w.alloc (.cells #[.bool false, .int .i64 0, .string ⟨#[]⟩, .bool ask, .string nm, .int .i64 s.steps] 44)).alloc (.cells #[.bool y.has, .int .i64 y.code, .string y.text] 49)).heap.size = w.heap.size + 1 + 1 from by simp] at h
  exact h
 have hB1' : B <= W.heap.size := Nat.le_trans hB hb0.size
 have hRw : w.heap.size <= w.heap.size + 1 + 1 := by omega
 have hRB : B <= w.heap.size + 1 + 1 := by omega
 have r0 : W.cell? ⟨w.heap.size, 3, none⟩ = some (.bool ask) := by rw [<- eW]; simp [go_sem]
 have r1 : W.cell? ⟨w.heap.size, 4, none⟩ = some (.string nm) := by rw [<- eW]; simp [go_sem]
 have r2 : W.cell? ⟨w.heap.size + 1, 0, none⟩ = some (.bool y.has) := by rw [<- eW]; simp [go_sem]
 have r3 : W.cell? ⟨w.heap.size + 1, 1, none⟩ = some (.int .i64 y.code) := by rw [<- eW]; simp [go_sem]
 have r4 : W.cell? ⟨w.heap.size + 1, 2, none⟩ = some (.string y.text) := by rw [<- eW]; simp [go_sem]
 have hfl : (flagB y.has).size <= 2000 := by rw [flagB_size]; omega
 clear hv hcode hT hP hs hM hb0
 unfold turnV
 cases ask
 ·go_enter Tryz.func22, Tryz.ntmps22
  go_wp2_with (go_at_call 40; refine (oneIf_any _ _).mono ?_; rintro e w9 ⟨rfl, rfl⟩)
  clear eW
  refine (put_okK B m s.stack _ s.pl s.steps s.looks (flagB y.has) _ HM1.out hB1' hfl h50).mono ?_
  rintro e w1 ⟨rfl, hb1, hM1⟩
  have HMp : Hid (MOk B (w1.setCell ⟨m, 2, none⟩ (.int .i64 ((s.pl : Int) + 1))) m (s.stack ++ [flagB y.has]) (.slice a is.length cap) ((s.pl : Int) + 1) s.steps s.looks) := hM1.place _
  obtain ⟨c2, f2, _, _⟩ := hM1.cell2
  have HKp : Hid (KB B m w (w1.setCell ⟨m, 2, none⟩ (.int .i64 ((s.pl : Int) + 1)))) := (HK1.out.trans hb1).setM 2 hBm _
  have HRp : Hid ((w1.setCell ⟨m, 2, none⟩ (.int .i64 ((s.pl : Int) + 1))).heap[w.heap.size + 1 + 1]? = some (.cells #[.bool false, .int .i64 0, .string ⟨#[]⟩, .bool false, .string ⟨#[]⟩, .int .i64 0] 44 (0, 0))) := by
   rw [Below.heap_setCell w1 ⟨m, 2, none⟩ _ _ (by simp; omega)]; exact hb1.keep _ _ 44 (by decide) (by omega) HR1.out
  clear hM1 hb1 HM1 HK1 HR1 r0 r1 r2 r3 r4
  go_wp2_with fail
  refine (run_any B m is a cap ⟨s.pl + 1, s.stack ++ [flagB y.has], s.steps, s.looks⟩ _ HMp.out (Nat.le_trans hB HKp.out.size) hB1 (HC.out.belowB HKp.out.below) (HT.out.belowB HKp.out.below (by omega)) (HP.out.belowB HKp.out.below hB1) HV.out (ans_ok HS.out hlen.2 hpl h50 hfl)).mono ?_
  rintro e w2 ⟨hk2, hpost⟩
  have HK2 : Hid (KB B m w w2) := HKp.out.trans hk2
  have HR2 : Hid (w2.heap[w.heap.size + 1 + 1]? = some (.cells #[.bool false, .int .i64 0, .string ⟨#[]⟩, .bool false, .string ⟨#[]⟩, .int .i64 0] 44 (0, 0))) := hk2.keep _ _ 44 (by decide) (by omega) HRp.out
  have HG : Hid (ansP false nm y s = .go ⟨s.pl + 1, s.stack ++ [flagB y.has], s.steps, s.looks⟩) := show ansP false nm y s = .go ⟨s.pl + 1, s.stack ++ [flagB y.has], s.steps, s.looks⟩ from by simp [ansP]
  clear c2 f2 hk2
  rcases hpost with ⟨c, t, n, hru, rfl⟩ | ⟨ask', nm', s', hru, rfl, hso, hM2⟩
  ·have HRU : Hid (Runs is ⟨s.pl + 1, s.stack ++ [flagB y.has], s.steps, s.looks⟩ (.over c t n)) := hru
   clear hru
   have hblk : w2.heap[w.heap.size + 1 + 1]? = some (.cells #[.bool false, .int .i64 0, .string ⟨#[]⟩, .bool false, .string ⟨#[]⟩, .int .i64 0] 44 (0, 0)) := HR2.out
   have k0 := Lib.cell_of_heap hblk 0
   have k1 := Lib.cell_of_heap hblk 1
   have k2 := Lib.cell_of_heap hblk 2
   have k3 := Lib.cell_of_heap hblk 3
   have k4 := Lib.cell_of_heap hblk 4
   have k5 := Lib.cell_of_heap hblk 5
   simp only [gA, gB, gC] at k0 k1 k2 k3 k4 k5
   have f0 : ∀ j, w2.frozen? ⟨w.heap.size + 1 + 1, j, none⟩ = false := fun j => Lib.frozen_of_heap hblk j
   clear hblk
   unfold turnV
   go_wp2
   exact bodyPost_ret (v := turnV true c t false ⟨#[]⟩ n) (by simp [results, Tryz.results22, go_sem, turnV, k0, k1, k2, k3, k4, k5]) rfl ⟨((((((HK2.out).setB 0 hRw hRB _).setB 1 hRw hRB _).setB 2 hRw hRB _).setB 3 hRw hRB _).setB 4 hRw hRB _).setB 5 hRw hRB _, Or.inr ⟨_, HG.out, Or.inl ⟨c, t, n, HRU.out, rfl⟩⟩⟩
  ·have HRU : Hid (Runs is ⟨s.pl + 1, s.stack ++ [flagB y.has], s.steps, s.looks⟩ (.look ask' nm' s')) := hru
   have HSO : Hid (StOk is s') := hso
   have HM2 : Hid (MOk B w2 m s'.stack (.slice a is.length cap) s'.pl s'.steps s'.looks) := hM2
   clear hru hso hM2
   have hblk : w2.heap[w.heap.size + 1 + 1]? = some (.cells #[.bool false, .int .i64 0, .string ⟨#[]⟩, .bool false, .string ⟨#[]⟩, .int .i64 0] 44 (0, 0)) := HR2.out
   have k0 := Lib.cell_of_heap hblk 0
   have k1 := Lib.cell_of_heap hblk 1
   have k2 := Lib.cell_of_heap hblk 2
   have k3 := Lib.cell_of_heap hblk 3
   have k4 := Lib.cell_of_heap hblk 4
   have k5 := Lib.cell_of_heap hblk 5
   simp only [gA, gB, gC] at k0 k1 k2 k3 k4 k5
   have f0 : ∀ j, w2.frozen? ⟨w.heap.size + 1 + 1, j, none⟩ = false := fun j => Lib.frozen_of_heap hblk j
   clear hblk
   unfold turnV
   go_wp2
   exact bodyPost_ret (v := turnV false 0 ⟨#[]⟩ ask' nm' s'.steps) (by simp [results, Tryz.results22, go_sem, turnV, k0, k1, k2, k3, k4, k5]) rfl ⟨((((((HK2.out).setB 0 hRw hRB _).setB 1 hRw hRB _).setB 2 hRw hRB _).setB 3 hRw hRB _).setB 4 hRw hRB _).setB 5 hRw hRB _, Or.inr ⟨_, HG.out, Or.inr ⟨ask', nm', s', HRU.out, rfl, HSO.out, (MOk.turn (MOk.turn (MOk.turn (MOk.turn (MOk.turn (MOk.turn ⟨HM2.out, _, HR2.out⟩ 0 _) 1 _) 2 _) 3 _) 4 _) 5 _).1⟩⟩⟩
 ·by_cases hh : y.has = true
  ·have HY1 : Hid (y.has = true) := hh
   rw [hh] at r2 eW
   rw [hh]
   by_cases hc : y.code = 0
   ·have HY2 : Hid (y.code = 0) := hc
    rw [hc] at r3 eW
    rw [hc]
    go_enter Tryz.func22, Tryz.ntmps22
    go_wp2_with fail
    clear eW
    refine (put_okK B m s.stack _ s.pl s.steps s.looks (y.text) _ HM1.out hB1' hy h50).mono ?_
    rintro e w1 ⟨rfl, hb1, hM1⟩
    have HMp : Hid (MOk B (w1.setCell ⟨m, 2, none⟩ (.int .i64 ((s.pl : Int) + 1))) m (s.stack ++ [y.text]) (.slice a is.length cap) ((s.pl : Int) + 1) s.steps s.looks) := hM1.place _
    obtain ⟨c2, f2, _, _⟩ := hM1.cell2
    have HKp : Hid (KB B m w (w1.setCell ⟨m, 2, none⟩ (.int .i64 ((s.pl : Int) + 1)))) := (HK1.out.trans hb1).setM 2 hBm _
    have HRp : Hid ((w1.setCell ⟨m, 2, none⟩ (.int .i64 ((s.pl : Int) + 1))).heap[w.heap.size + 1 + 1]? = some (.cells #[.bool false, .int .i64 0, .string ⟨#[]⟩, .bool false, .string ⟨#[]⟩, .int .i64 0] 44 (0, 0))) := by
     rw [Below.heap_setCell w1 ⟨m, 2, none⟩ _ _ (by simp; omega)]; exact hb1.keep _ _ 44 (by decide) (by omega) HR1.out
    clear hM1 hb1 HM1 HK1 HR1 r0 r1 r2 r3 r4
    go_wp2_with fail
    refine (run_any B m is a cap ⟨s.pl + 1, s.stack ++ [y.text], s.steps, s.looks⟩ _ HMp.out (Nat.le_trans hB HKp.out.size) hB1 (HC.out.belowB HKp.out.below) (HT.out.belowB HKp.out.below (by omega)) (HP.out.belowB HKp.out.below hB1) HV.out (ans_ok HS.out hlen.2 hpl h50 hy)).mono ?_
    rintro e w2 ⟨hk2, hpost⟩
    have HK2 : Hid (KB B m w w2) := HKp.out.trans hk2
    have HR2 : Hid (w2.heap[w.heap.size + 1 + 1]? = some (.cells #[.bool false, .int .i64 0, .string ⟨#[]⟩, .bool false, .string ⟨#[]⟩, .int .i64 0] 44 (0, 0))) := hk2.keep _ _ 44 (by decide) (by omega) HRp.out
    have HG : Hid (ansP true nm y s = .go ⟨s.pl + 1, s.stack ++ [y.text], s.steps, s.looks⟩) := show ansP true nm y s = .go ⟨s.pl + 1, s.stack ++ [y.text], s.steps, s.looks⟩ from by simp [ansP, HY1.out, HY2.out]
    clear c2 f2 hk2
    rcases hpost with ⟨c, t, n, hru, rfl⟩ | ⟨ask', nm', s', hru, rfl, hso, hM2⟩
    ·have HRU : Hid (Runs is ⟨s.pl + 1, s.stack ++ [y.text], s.steps, s.looks⟩ (.over c t n)) := hru
     clear hru
     have hblk : w2.heap[w.heap.size + 1 + 1]? = some (.cells #[.bool false, .int .i64 0, .string ⟨#[]⟩, .bool false, .string ⟨#[]⟩, .int .i64 0] 44 (0, 0)) := HR2.out
     have k0 := Lib.cell_of_heap hblk 0
     have k1 := Lib.cell_of_heap hblk 1
     have k2 := Lib.cell_of_heap hblk 2
     have k3 := Lib.cell_of_heap hblk 3
     have k4 := Lib.cell_of_heap hblk 4
     have k5 := Lib.cell_of_heap hblk 5
     simp only [gA, gB, gC] at k0 k1 k2 k3 k4 k5
     have f0 : ∀ j, w2.frozen? ⟨w.heap.size + 1 + 1, j, none⟩ = false := fun j => Lib.frozen_of_heap hblk j
     clear hblk
     unfold turnV
     go_wp2
     exact bodyPost_ret (v := turnV true c t false ⟨#[]⟩ n) (by simp [results, Tryz.results22, go_sem, turnV, k0, k1, k2, k3, k4, k5]) rfl ⟨((((((HK2.out).setB 0 hRw hRB _).setB 1 hRw hRB _).setB 2 hRw hRB _).setB 3 hRw hRB _).setB 4 hRw hRB _).setB 5 hRw hRB _, Or.inr ⟨_, HG.out, Or.inl ⟨c, t, n, HRU.out, rfl⟩⟩⟩
    ·have HRU : Hid (Runs is ⟨s.pl + 1, s.stack ++ [y.text], s.steps, s.looks⟩ (.look ask' nm' s')) := hru
     have HSO : Hid (StOk is s') := hso
     have HM2 : Hid (MOk B w2 m s'.stack (.slice a is.length cap) s'.pl s'.steps s'.looks) := hM2
     clear hru hso hM2
     have hblk : w2.heap[w.heap.size + 1 + 1]? = some (.cells #[.bool false, .int .i64 0, .string ⟨#[]⟩, .bool false, .string ⟨#[]⟩, .int .i64 0] 44 (0, 0)) := HR2.out
     have k0 := Lib.cell_of_heap hblk 0
     have k1 := Lib.cell_of_heap hblk 1
     have k2 := Lib.cell_of_heap hblk 2
     have k3 := Lib.cell_of_heap hblk 3
     have k4 := Lib.cell_of_heap hblk 4
     have k5 := Lib.cell_of_heap hblk 5
     simp only [gA, gB, gC] at k0 k1 k2 k3 k4 k5
     have f0 : ∀ j, w2.frozen? ⟨w.heap.size + 1 + 1, j, none⟩ = false := fun j => Lib.frozen_of_heap hblk j
     clear hblk
     unfold turnV
     go_wp2
     exact bodyPost_ret (v := turnV false 0 ⟨#[]⟩ ask' nm' s'.steps) (by simp [results, Tryz.results22, go_sem, turnV, k0, k1, k2, k3, k4, k5]) rfl ⟨((((((HK2.out).setB 0 hRw hRB _).setB 1 hRw hRB _).setB 2 hRw hRB _).setB 3 hRw hRB _).setB 4 hRw hRB _).setB 5 hRw hRB _, Or.inr ⟨_, HG.out, Or.inr ⟨ask', nm', s', HRU.out, rfl, HSO.out, (MOk.turn (MOk.turn (MOk.turn (MOk.turn (MOk.turn (MOk.turn ⟨HM2.out, _, HR2.out⟩ 0 _) 1 _) 2 _) 3 _) 4 _) 5 _).1⟩⟩⟩
   ·have hcb : (y.code == 0) = false := by simpa using hc
    have HA : Hid (ansP true nm y s = .over 5 nm s.steps) := show ansP true nm y s = .over 5 nm s.steps from by simp [ansP, HY1.out, hc]
    obtain ⟨z0, zp, _, _, _, _, _, _, _, _, gm⟩ := HM1.out.all
    have HG : Hid (Mach W m _ _ s.pl s.steps s.looks) := gm
    clear gm
    go_enter Tryz.func22, Tryz.ntmps22
    go_wp2_with fail
    clear eW
    refine (over_any m _ _ s.pl s.steps s.looks 5 nm _ HG.out).mono ?_
    rintro e w2 ⟨rfl, hb2⟩
    have HK2 : Hid (KB B m w w2) := HK1.out.trans (KB.old hb2 hB1')
    have hblk : w2.heap[w.heap.size + 1 + 1]? = some (.cells #[.bool false, .int .i64 0, .string ⟨#[]⟩, .bool false, .string ⟨#[]⟩, .int .i64 0] 44 (0, 0)) := (by rw [hb2.block _ (blk_lt HR1.out)]; exact HR1.out)
    have k0 := Lib.cell_of_heap hblk 0
    have k1 := Lib.cell_of_heap hblk 1
    have k2 := Lib.cell_of_heap hblk 2
    have k3 := Lib.cell_of_heap hblk 3
    have k4 := Lib.cell_of_heap hblk 4
    have k5 := Lib.cell_of_heap hblk 5
    simp only [gA, gB, gC] at k0 k1 k2 k3 k4 k5
    have f0 : ∀ j, w2.frozen? ⟨w.heap.size + 1 + 1, j, none⟩ = false := fun j => Lib.frozen_of_heap hblk j
    clear hblk r0 r1 r2 r3 r4
    unfold turnV
    go_wp2
    exact bodyPost_ret (v := turnV true 5 nm false ⟨#[]⟩ s.steps) (by simp [results, Tryz.results22, go_sem, turnV, k0, k1, k2, k3, k4, k5]) rfl ⟨((((((HK2.out).setB 0 hRw hRB _).setB 1 hRw hRB _).setB 2 hRw hRB _).setB 3 hRw hRB _).setB 4 hRw hRB _).setB 5 hRw hRB _, Or.inl ⟨5, nm, s.steps, HA.out, rfl⟩⟩
  ·have hh' : y.has = false := by simpa using hh
   rw [hh'] at r2 eW
   rw [hh']
   have HA : Hid (ansP true nm y s = .over 4 nm s.steps) := show ansP true nm y s = .over 4 nm s.steps from by simp [ansP, hh']
   obtain ⟨z0, zp, _, _, _, _, _, _, _, _, gm⟩ := HM1.out.all
   have HG : Hid (Mach W m _ _ s.pl s.steps s.looks) := gm
   clear gm
   go_enter Tryz.func22, Tryz.ntmps22
   go_wp2_with fail
   clear eW
   refine (over_any m _ _ s.pl s.steps s.looks 4 nm _ HG.out).mono ?_
   rintro e w2 ⟨rfl, hb2⟩
   have HK2 : Hid (KB B m w w2) := HK1.out.trans (KB.old hb2 hB1')
   have hblk : w2.heap[w.heap.size + 1 + 1]? = some (.cells #[.bool false, .int .i64 0, .string ⟨#[]⟩, .bool false, .string ⟨#[]⟩, .int .i64 0] 44 (0, 0)) := (by rw [hb2.block _ (blk_lt HR1.out)]; exact HR1.out)
   have k0 := Lib.cell_of_heap hblk 0
   have k1 := Lib.cell_of_heap hblk 1
   have k2 := Lib.cell_of_heap hblk 2
   have k3 := Lib.cell_of_heap hblk 3
   have k4 := Lib.cell_of_heap hblk 4
   have k5 := Lib.cell_of_heap hblk 5
   simp only [gA, gB, gC] at k0 k1 k2 k3 k4 k5
   have f0 : ∀ j, w2.frozen? ⟨w.heap.size + 1 + 1, j, none⟩ = false := fun j => Lib.frozen_of_heap hblk j
   clear hblk r0 r1 r2 r3 r4
   unfold turnV
   go_wp2
   exact bodyPost_ret (v := turnV true 4 nm false ⟨#[]⟩ s.steps) (by simp [results, Tryz.results22, go_sem, turnV, k0, k1, k2, k3, k4, k5]) rfl ⟨((((((HK2.out).setB 0 hRw hRB _).setB 1 hRw hRB _).setB 2 hRw hRB _).setB 3 hRw hRB _).setB 4 hRw hRB _).setB 5 hRw hRB _, Or.inl ⟨4, nm, s.steps, HA.out, rfl⟩⟩
theorem full_over {is : List I3} (ys : List R3) {s : St} {o : Out} (h : Runs is s o) : ∀ {c t n}, o = .over c t n -> Full is ys s (.over c t n) := by
 induction h with
 | over h1 => intro c t n e; cases e; exact .over h1
 | look h1 => intro c t n e; cases e
 | go h1 _ ih => intro c t n e; exact .go h1 (ih e)
theorem step0_go {is : List I3} {s s' : St} (hv : progOk is = true) (hs : StOk is s) (h : step0 is s = .go s') : StOk is s' /\ s'.looks = s.looks := by
 have hl := prog_len hv
 by_cases hp : s.pl < is.length
 ·by_cases h2 : s.steps = 2000
  ·rw [st_spent hp h2] at h; cases h
  ·obtain ⟨o, t, n, e, h3, h4, h5, h6, h7⟩ := ok_parts hv hp
   rw [st_ins hp h2 e] at h
   by_cases hf : s.stack.length < takesN o
   ·rw [ins_few hf] at h; cases h
   ·rcases (show o <= 11 \/ (o = 12 \/ o = 13) \/ o = 14 \/ o = 15 by omega) with ho | ho | ho | ho
    ·by_cases hb : Bad o t n s.stack
     ·rw [ins_stuck hf ho hb] at h; cases h
     ·rw [ins_go hf ho hb] at h; cases h
      exact ⟨go_ok hs hl.2 hp h2 h7 hb, rfl⟩
    ·by_cases hn : NameOk (topB s.stack)
     ·by_cases hk : s.looks = 200
      ·rw [ins_spent hf ho hn hk] at h; cases h
      ·rw [ins_look hf ho hn hk] at h; cases h
     ·rw [ins_bad hf ho hn] at h; cases h
    ·rw [ins_fail hf ho] at h; cases h
    ·rw [ins_end hf ho] at h; cases h
 ·rw [st_place hp] at h; cases h
def s00 : St := ⟨0, [], 0, 0⟩
theorem s00_ok (is : List I3) : StOk is s00 := ⟨by simp [s00], by simp [s00], by simp [s00], by simp [s00], by simp [s00]⟩
def resT : Res -> Value
 | .over c t n => turnV true c t false ⟨#[]⟩ n
 | .wait ask nm n => turnV false 0 ⟨#[]⟩ ask nm n
theorem MOk.alloc {B : Nat} {w : World} {m : Nat} {ss : List ByteArray} {cd : Value} {pl st lk : Int} (h : MOk B w m ss cd pl st lk) (o : Obj) : MOk B (w.alloc o) m ss cd pl st lk := h.below ((Below.refl _ _).alloc (Nat.le_refl _) _)
theorem storeT {w : World} {T : Nat} {cs : Array Value} (hc : cs.size = 6) (h : w.heap[T]? = some (.cells cs 44 (0, 0))) (b0 b1 b2 b3 b4 b5 : Value) :
  ((((((w.setCell ⟨T, 0, none⟩ b0).setCell ⟨T, 1, none⟩ b1).setCell ⟨T, 2, none⟩ b2).setCell ⟨T, 3, none⟩ b3).setCell ⟨T, 4, none⟩ b4).setCell ⟨T, 5, none⟩ b5).heap[T]? = some (.cells #[b0, b1, b2, b3, b4, b5] 44 (0, 0)) ∧
  ∀ B m ss cd pl st lk, MOk B w m ss cd pl st lk -> MOk B ((((((w.setCell ⟨T, 0, none⟩ b0).setCell ⟨T, 1, none⟩ b1).setCell ⟨T, 2, none⟩ b2).setCell ⟨T, 3, none⟩ b3).setCell ⟨T, 4, none⟩ b4).setCell ⟨T, 5, none⟩ b5) m ss cd pl st lk := by
 refine ⟨?_, fun B m ss cd pl st lk hM => (MOk.turn (MOk.turn (MOk.turn (MOk.turn (MOk.turn (MOk.turn ⟨hM, _, h⟩ 0 _) 1 _) 2 _) 3 _) 4 _) 5 _).1⟩
 obtain ⟨l⟩ := cs
 match l, hc with
 | [x0, x1, x2, x3, x4, x5], _ =>
  rw [Joins.block_setCell (Joins.block_setCell (Joins.block_setCell (Joins.block_setCell (Joins.block_setCell (Joins.block_setCell h b0) b1) b2) b3) b4) b5]
  rfl
theorem bN {w a b : World} (h : Below w.heap.size w a) (k : Below a.heap.size a b) : Below w.heap.size w b := h.trans (k.mono h.size)
theorem full_lookA {is : List I3} (hv : progOk is = true) {s : St} {o : Out} (h : Runs is s o) : StOk is s -> ∀ {ask nm s'}, o = .look ask nm s' -> ∃ s1, step0 is s1 = .look ask nm s' /\ s1.looks = s.looks /\ StOk is s1 /\ ∀ ys r, Full is ys s1 r -> Full is ys s r := by
 induction h with
 | over h1 => intro _ c t n e; cases e
 | look h1 => intro hs c t n e; cases e; exact ⟨_, h1, rfl, hs, fun ys r hr => hr⟩
 | go h1 _ ih => intro hs c t n e; obtain ⟨k1, k2⟩ := step0_go hv hs h1; obtain ⟨s1, h2, h4, h5, h3⟩ := ih k1 e; exact ⟨s1, h2, h4.trans k2, h5, fun ys r hr => .go h1 (h3 ys r hr)⟩
def RQ (is : List I3) (ys : List R3) (s : St) : Prop := s.looks = ys.length /\ ∀ zs r, Full is (ys ++ zs) s r -> Full is (ys ++ zs) s00 r
def VAt (is : List I3) (ys : List R3) (B m : Nat) (cd : Value) (ov : Bool) (c : Int) (t : ByteArray) (ask : Bool) (nm : ByteArray) (st : Int) (w : World) : Prop :=
 (ov = true /\ ask = false /\ nm = ⟨#[]⟩ /\ ∃ n : Nat, st = n /\ Full is ys s00 (.over c t n)) ∨
 (ov = false /\ c = 0 /\ t = ⟨#[]⟩ /\ ∃ s1 s', st = (s'.steps : Int) /\ step0 is s1 = .look ask nm s' /\ RQ is ys s1 /\ StOk is s1 /\ StOk is s' /\ MOk B w m s'.stack cd s'.pl s'.steps s'.looks)
theorem VAt.full {is : List I3} {ys : List R3} {B m : Nat} {cd : Value} {ov : Bool} {c : Int} {t : ByteArray} {ask : Bool} {nm : ByteArray} {st : Int} {w : World} (h : VAt is ys B m cd ov c t ask nm st w) : (ov = true /\ ∃ n, Full is ys s00 (.over c t n)) \/ (ov = false /\ ∃ n, Full is ys s00 (.wait ask nm n)) := by
 rcases h with ⟨rfl, _, _, n, _, hf⟩ | ⟨rfl, _, _, s1, s', _, h1, h2, _⟩
 ·exact Or.inl ⟨rfl, n, hf⟩
 ·refine Or.inr ⟨rfl, s'.steps, ?_⟩
  have := h2.2 [] (.wait ask nm s'.steps)
  rw [List.append_nil] at this
  exact this (.wait h1 (by rw [h2.1]; exact Nat.le_refl _))
theorem VAt.mono {is : List I3} {ys : List R3} {B m : Nat} {cd : Value} {ov : Bool} {c : Int} {t : ByteArray} {ask : Bool} {nm : ByteArray} {st : Int} {w w' : World} (h : VAt is ys B m cd ov c t ask nm st w) (hM : ∀ ss pl st' lk, MOk B w m ss cd pl st' lk -> MOk B w' m ss cd pl st' lk) : VAt is ys B m cd ov c t ask nm st w' := by
 rcases h with h | ⟨e1, e2, e3, s1, s', e4, h1, h2, h3, h4, h5⟩
 ·exact Or.inl h
 ·exact Or.inr ⟨e1, e2, e3, s1, s', e4, h1, h2, h3, h4, hM _ _ _ _ h5⟩
theorem run_vat {is : List I3} {B m : Nat} {cd : Value} {w3 : World} {e : Ending} (hv : progOk is = true) (h : RunPost0 is s00 B m cd e w3) : ∃ ov c t ask nm st, e = .returned (turnV ov c t ask nm st) /\ VAt is [] B m cd ov c t ask nm st w3 := by
 rcases h with ⟨c, t, n, hr, rfl⟩ | ⟨ask, nm, s', hr, rfl, hs, hM⟩
 ·exact ⟨true, c, t, false, ⟨#[]⟩, n, rfl, Or.inl ⟨rfl, rfl, rfl, n, rfl, full_over [] hr rfl⟩⟩
 ·obtain ⟨s1, h1, h2, h3, h4⟩ := full_lookA hv hr (s00_ok is) rfl
  exact ⟨false, 0, ⟨#[]⟩, ask, nm, s'.steps, rfl, Or.inr ⟨rfl, rfl, rfl, s1, s', rfl, h1, ⟨h2, fun zs r hr => h4 _ r hr⟩, h3, hs, hM⟩⟩
theorem rx_mid (ys zs : List R3) (y : R3) : rx (ys ++ [y] ++ zs) ys.length = y := by
 unfold rx
 rw [List.getD_eq_getElem?_getD, List.append_assoc, List.getElem?_append_right (Nat.le_refl _)]
 simp
theorem ans_vat {is : List I3} {ys : List R3} {B m : Nat} {cd : Value} {ask : Bool} {nm : ByteArray} {y y' : R3} {s1 s' : St} {e : Ending} {w3 : World} (hv : progOk is = true) (h1 : step0 is s1 = .look ask nm s') (hq : RQ is ys s1) (hy : y.text.size <= 2000) (hyy : ansP ask nm y s' = ansP ask nm y' s') (hs1 : StOk is s1) (hs' : StOk is s')
  (h : (∃ c t n, ansP ask nm y s' = .over c t n /\ e = .returned (turnV true c t false ⟨#[]⟩ n)) \/ (∃ s'', ansP ask nm y s' = .go s'' /\ RunPost0 is s'' B m cd e w3)) :
  ∃ ov c t ask nm st, e = .returned (turnV ov c t ask nm st) /\ VAt is (ys ++ [y']) B m cd ov c t ask nm st w3 := by
 obtain ⟨q1, q2, q3, q4, q5, q6, q7, q8⟩ := step0_look h1
 have hl := (prog_len hv).2
 have hlk : ∀ zs : List R3, s1.looks < (ys ++ [y'] ++ zs).length := fun zs => by rw [hq.1]; simp
 have hrx : ∀ zs : List R3, rx (ys ++ [y'] ++ zs) s1.looks = y' := fun zs => by rw [hq.1]; exact rx_mid ys zs y'
 have hF : ∀ zs r, Full is (ys ++ [y'] ++ zs) s1 r -> Full is (ys ++ [y'] ++ zs) s00 r := fun zs r hr => by
  have := hq.2 ([y'] ++ zs) r
  rw [<- List.append_assoc] at this
  exact this hr
 have nil : ∀ r, Full is (ys ++ [y'] ++ []) s00 r -> Full is (ys ++ [y']) s00 r := fun r hr => by rw [List.append_nil] at hr; exact hr
 rcases h with ⟨c, t, n, ha, rfl⟩ | ⟨s'', ha, hpost⟩
 ·refine ⟨true, c, t, false, ⟨#[]⟩, n, rfl, Or.inl ⟨rfl, rfl, rfl, n, rfl, nil _ (hF [] _ (.end h1 (hlk []) ?_))⟩⟩
  rw [hrx, <- hyy]; exact ha
 ·have h50 : s'.stack.length < 50 := by rw [q7, restL_length]; have := hs1.len; omega
  have hso : StOk is s'' /\ s''.looks = s'.looks := by
   unfold ansP at ha
   split at ha
   ·cases ha; exact ⟨ans_ok hs' hl (by omega) h50 (by rw [flagB_size]; omega), rfl⟩
   ·split at ha
    ·cases ha
    ·split at ha
     ·cases ha
     ·cases ha; exact ⟨ans_ok hs' hl (by omega) h50 hy, rfl⟩
  have hA : ∀ zs, ansP ask nm (rx (ys ++ [y'] ++ zs) s1.looks) s' = .go s'' := fun zs => by rw [hrx, <- hyy]; exact ha
  rcases hpost with ⟨c, t, n, hr, rfl⟩ | ⟨ask', nm', s3, hr, rfl, hs3, hM⟩
  ·exact ⟨true, c, t, false, ⟨#[]⟩, n, rfl, Or.inl ⟨rfl, rfl, rfl, n, rfl, nil _ (hF [] _ (.ans h1 (hlk []) (hA []) (full_over _ hr rfl)))⟩⟩
  ·obtain ⟨s2, g1, g2, g3, g4⟩ := full_lookA hv hr hso.1 rfl
   exact ⟨false, 0, ⟨#[]⟩, ask', nm', s3.steps, rfl, Or.inr ⟨rfl, rfl, rfl, s2, s3, rfl, g1, ⟨by rw [g2, hso.2, q1, hq.1]; simp, fun zs r hr => hF zs r (.ans h1 (hlk zs) (hA zs) (g4 _ r hr))⟩, g3, hs3, hM⟩⟩
inductive VouP (is : List I3) (gs : List G3) (tell : G3 -> Option R3) (fin : Int -> ByteArray -> Int) : List R3 -> Int -> Prop
 | few {ys c t n} : Full is ys s00 (.over c t n) -> ys.length < gs.length -> VouP is gs tell fin ys 2
 | fin {ys c t n} : Full is ys s00 (.over c t n) -> gs.length <= ys.length -> VouP is gs tell fin ys (fin c t)
 | none {ys ask nm n} : Full is ys s00 (.wait ask nm n) -> gs.length <= ys.length -> VouP is gs tell fin ys 2
 | other {ys ask nm n} : Full is ys s00 (.wait ask nm n) -> ys.length < gs.length -> ¬ ((gx gs ys.length).name = nm /\ (gx gs ys.length).ask = ask) -> VouP is gs tell fin ys 2
 | untold {ys ask nm n} : Full is ys s00 (.wait ask nm n) -> ys.length < gs.length -> ((gx gs ys.length).name = nm /\ (gx gs ys.length).ask = ask) -> tell (gx gs ys.length) = Option.none -> VouP is gs tell fin ys 3
 | go {ys ask nm n y c} : Full is ys s00 (.wait ask nm n) -> ys.length < gs.length -> ((gx gs ys.length).name = nm /\ (gx gs ys.length).ask = ask) -> tell (gx gs ys.length) = some y -> VouP is gs tell fin (ys ++ [y]) c -> VouP is gs tell fin ys c
theorem top_size {is : List I3} {s : St} (hs : StOk is s) (h : 1 <= s.stack.length) : (topB s.stack).size <= 2000 := by
 unfold topB
 rw [List.getD_eq_getElem?_getD, List.getElem?_eq_getElem (by omega)]
 exact hs.size _ (List.getElem_mem _)
theorem decB_size {n : Nat} (h : n <= 200) : (decB n).size <= 2000 := by
 have := dec_length 2 n (by omega)
 show (Lib.decDigits n).length <= 2000
 omega
theorem step0_over {is : List I3} {s : St} {c : Int} {t : ByteArray} {n : Nat} (hv : progOk is = true) (hs : StOk is s) (h : step0 is s = .over c t n) : t.size <= 2000 /\ 0 <= c /\ c <= 5 := by
 have hd := decB_size hs.pl
 by_cases hp : s.pl < is.length
 ·by_cases h2 : s.steps = 2000
  ·rw [st_spent hp h2] at h; cases h; exact ⟨by decide, by decide, by decide⟩
  ·obtain ⟨o, t', n', e, h3, h4, h5, h6, h7⟩ := ok_parts hv hp
   rw [st_ins hp h2 e] at h
   by_cases hf : s.stack.length < takesN o
   ·rw [ins_few hf] at h; cases h; exact ⟨hd, by decide, by decide⟩
   ·rcases (show o <= 11 \/ (o = 12 \/ o = 13) \/ o = 14 \/ o = 15 by omega) with ho | ho | ho | ho
    ·by_cases hb : Bad o t' n' s.stack
     ·rw [ins_stuck hf ho hb] at h; cases h; exact ⟨hd, by decide, by decide⟩
     ·rw [ins_go hf ho hb] at h; cases h
    ·by_cases hn : NameOk (topB s.stack)
     ·by_cases hk : s.looks = 200
      ·rw [ins_spent hf ho hn hk] at h; cases h; exact ⟨by decide, by decide, by decide⟩
      ·rw [ins_look hf ho hn hk] at h; cases h
     ·rw [ins_bad hf ho hn] at h; cases h; exact ⟨hd, by decide, by decide⟩
    ·have h1 : 1 <= s.stack.length := by rw [ho] at hf; have : takesN 14 = 1 := rfl; omega
     rw [ins_fail hf ho] at h; cases h; exact ⟨top_size hs h1, by decide, by decide⟩
    ·have h1 : 1 <= s.stack.length := by rw [ho] at hf; have : takesN 15 = 1 := rfl; omega
     rw [ins_end hf ho] at h; cases h; exact ⟨top_size hs h1, by decide, by decide⟩
 ·rw [st_place hp] at h; cases h; exact ⟨hd, by decide, by decide⟩
theorem step0_lookOk {is : List I3} {s s' : St} {ask : Bool} {nm : ByteArray} (hv : progOk is = true) (hs : StOk is s) (h : step0 is s = .look ask nm s') : StOk is s' /\ NameOk nm := by
 by_cases hp : s.pl < is.length
 ·by_cases h2 : s.steps = 2000
  ·rw [st_spent hp h2] at h; cases h
  ·obtain ⟨o, t', n', e, h3, h4, h5, h6, h7⟩ := ok_parts hv hp
   rw [st_ins hp h2 e] at h
   by_cases hf : s.stack.length < takesN o
   ·rw [ins_few hf] at h; cases h
   ·rcases (show o <= 11 \/ (o = 12 \/ o = 13) \/ o = 14 \/ o = 15 by omega) with ho | ho | ho | ho
    ·by_cases hb : Bad o t' n' s.stack
     ·rw [ins_stuck hf ho hb] at h; cases h
     ·rw [ins_go hf ho hb] at h; cases h
    ·by_cases hn : NameOk (topB s.stack)
     ·by_cases hk : s.looks = 200
      ·rw [ins_spent hf ho hn hk] at h; cases h
      ·rw [ins_look hf ho hn hk] at h; cases h; exact ⟨look_ok hs h2 hk, hn⟩
     ·rw [ins_bad hf ho hn] at h; cases h
    ·rw [ins_fail hf ho] at h; cases h
    ·rw [ins_end hf ho] at h; cases h
 ·rw [st_place hp] at h; cases h
theorem Full.size {is : List I3} {ys : List R3} (hv : progOk is = true) (hys : ∀ i, i < ys.length -> (rx ys i).text.size <= 2000) {s : St} {r : Res} (h : Full is ys s r) : StOk is s -> ∀ {c t n}, r = .over c t n -> t.size <= 2000 /\ 0 <= c /\ c <= 5 := by
 have hl := (prog_len hv).2
 induction h with
 | over h1 => intro hs c t n e; cases e; exact step0_over hv hs h1
 | go h1 _ ih => intro hs c t n e; exact ih (step0_go hv hs h1).1 e
 | wait h1 _ => intro hs c t n e; cases e
 | ans h1 k1 a1 _ ih =>
  intro hs c t n e
  obtain ⟨q1, q2, q3, q4, q5, q6, q7, q8⟩ := step0_look h1
  have hs' := (step0_lookOk hv hs h1).1
  rename_i s s' s'' _ _
  have h50 : s'.stack.length < 50 := by rw [q7, restL_length]; have := hs.len; omega
  refine ih ?_ e
  unfold ansP at a1
  split at a1
  ·cases a1; exact ans_ok hs' hl (by omega) h50 (by rw [flagB_size]; omega)
  ·split at a1
   ·cases a1
   ·split at a1
    ·cases a1
    ·cases a1; exact ans_ok hs' hl (by omega) h50 (hys _ k1)
 | «end» h1 k1 a1 =>
  intro hs c t n e
  cases e
  have hnm := (step0_lookOk hv hs h1).2
  have h60 := hnm.2.1
  unfold ansP at a1
  split at a1
  ·cases a1
  ·split at a1
   ·cases a1; exact ⟨by omega, by decide, by decide⟩
   ·split at a1
    ·cases a1; exact ⟨by omega, by decide, by decide⟩
    ·cases a1
end Go.Proofs.YtmanoabocelpeaaGreatDoor
