import Derived.Test.YtmeojnaoljgieaeGreatDoorVNRun
namespace Go.Proofs.YtmeojnaoljgieaeGreatDoor
open Go.RowKit
set_option linter.unusedVariables false
set_option maxHeartbeats 8000000
set_option maxRecDepth 100000
theorem KB.setB {B m b : Nat} {w w' : World} (h : KB B m w w') (j : Nat) (hb : w.heap.size <= b) (hB : B <= b) (v : Value) : KB B m w (w'.setCell ⟨b, j, none⟩ v) := ⟨h.below.setCell (p := ⟨b, j, none⟩) hB _, fun b' cs T h1 h2 h3 => by rw [Below.heap_setCell w' ⟨b, j, none⟩ _ b' (by have := blk_lt h3; simp; omega)]; exact h.keep b' cs T h1 h2 h3⟩
def RunPost0 (is : List I3) (s : St) (B m : Nat) (cd : Value) (e : Ending) (w' : World) : Prop :=
  (∃ c t n, Runs is s (.over c t n) /\ e = .returned (turnV true c t false ⟨#[]⟩ n)) \/ (∃ ask nm s', Runs is s (.look ask nm s') /\ e = .returned (turnV false 0 ⟨#[]⟩ ask nm s'.steps) /\ StOk is s' /\ MOk B w' m s'.stack cd s'.pl s'.steps s'.looks)
def AnsPost (is : List I3) (ask : Bool) (nm : ByteArray) (y : R3) (s : St) (B m : Nat) (cd : Value) (w : World) (e : Ending) (w' : World) : Prop :=
  KB B m w w' /\ ((∃ c t n, ansP ask nm y s = .over c t n /\ e = .returned (turnV true c t false ⟨#[]⟩ n)) \/ (∃ s'', ansP ask nm y s = .go s'' /\ RunPost0 is s'' B m cd e w'))
theorem ans_ok {is : List I3} {s : St} (hs : StOk is s) (hl : is.length <= 200) (hp : s.pl < is.length) (h50 : s.stack.length < 50) {x : ByteArray} (hx : x.size <= 2000) : StOk is ⟨s.pl + 1, s.stack ++ [x], s.steps, s.looks⟩ := by
  refine ⟨?_, ?_, ?_, hs.steps, hs.looks⟩
  · show s.pl + 1 <= 200
    omega
  · show (s.stack ++ [x]).length <= 50
    rw [List.length_append, List.length_singleton]; omega
  · intro z hz
    rcases List.mem_append.mp hz with hz | hz
    · exact hs.size z hz
    · obtain rfl : z = x := by simpa using hz
      exact hx
theorem answer_any (B m : Nat) (is : List I3) (a : Option Addr) (cap : Nat) (ask : Bool) (nm : ByteArray) (y : R3) (s : St) (w : World) (hM : MOk B w m s.stack (.slice a is.length cap) s.pl s.steps s.looks) (hB : B <= w.heap.size) (hB1 : 1 < B) (hcode : CodeB B w a is) (hT : Tab w) (hP : P10 w) (hv : progOk is = true) (hs : StOk is s) (hpl : s.pl < is.length) (h50 : s.stack.length < 50) (hy : y.text.size <= 2000) :
    Calls Tryz.prog 179 #[.pointer (some ⟨m, 0, none⟩), turnV false 0 ⟨#[]⟩ ask nm s.steps, .agg #[.bool y.has, .int .i64 y.code, .string y.text]] w fun e w' => AnsPost is ask nm y s B m (.slice a is.length cap) w e w' := by
  have hlen := prog_len hv
  have hp200 := hs.pl
  have HV : Hid (progOk is = true) := hv
  have HC : Hid (CodeB B w a is) := hcode
  have HT : Hid (Tab w) := hT
  have HP : Hid (P10 w) := hP
  have HS : Hid (StOk is s) := hs
  obtain ⟨_, _, _, _, _, _, _, _, hmw, hBm, _⟩ := hM.all
  have hb0 : Below w.heap.size w (((w.alloc (.cells #[.bool false, .int .i64 0, .string ⟨#[]⟩, .bool ask, .string nm, .int .i64 s.steps] 173)).alloc (.cells #[.bool y.has, .int .i64 y.code, .string y.text] 178)).alloc (.cells #[.bool false, .int .i64 0, .string ⟨#[]⟩, .bool false, .string ⟨#[]⟩, .int .i64 0] 173)) := (((Below.refl _ _).alloc (Nat.le_refl _) _).alloc (by simp) _).alloc (by simp; omega) _
  obtain ⟨W, eW⟩ : ∃ W, (((w.alloc (.cells #[.bool false, .int .i64 0, .string ⟨#[]⟩, .bool ask, .string nm, .int .i64 s.steps] 173)).alloc (.cells #[.bool y.has, .int .i64 y.code, .string y.text] 178)).alloc (.cells #[.bool false, .int .i64 0, .string ⟨#[]⟩, .bool false, .string ⟨#[]⟩, .int .i64 0] 173)) = W := ⟨_, rfl⟩
  rw [eW] at hb0
  have HM1 : Hid (MOk B W m s.stack (.slice a is.length cap) s.pl s.steps s.looks) := hM.below hb0
  have HK1 : Hid (KB B m w W) := KB.old hb0 hB
  have HR1 : Hid (W.heap[w.heap.size + 1 + 1]? = some (.cells #[.bool false, .int .i64 0, .string ⟨#[]⟩, .bool false, .string ⟨#[]⟩, .int .i64 0] 173 (0, 0))) := by
    rw [<- eW]
    have h := heap_new ((w.alloc (.cells #[.bool false, .int .i64 0, .string ⟨#[]⟩, .bool ask, .string nm, .int .i64 s.steps] 173)).alloc (.cells #[.bool y.has, .int .i64 y.code, .string y.text] 178)) (.cells #[.bool false, .int .i64 0, .string ⟨#[]⟩, .bool false, .string ⟨#[]⟩, .int .i64 0] 173)
    rw [show ((w.alloc (.cells #[.bool false, .int .i64 0, .string ⟨#[]⟩, .bool ask, .string nm, .int .i64 s.steps] 173)).alloc (.cells #[.bool y.has, .int .i64 y.code, .string y.text] 178)).heap.size = w.heap.size + 1 + 1 from by simp] at h
    exact h
  have hB1' : B <= W.heap.size := Nat.le_trans hB hb0.size
  have hRw : w.heap.size <= w.heap.size + 1 + 1 := by omega
  have hRB : B <= w.heap.size + 1 + 1 := by omega
  have r0 : W.cell? ⟨w.heap.size, 3, none⟩ = some (.bool ask) := by rw [<- eW]; simp [go_sem]
  have r1 : W.cell? ⟨w.heap.size, 4, none⟩ = some (.string nm) := by rw [<- eW]; simp [go_sem]
  have r2 : W.cell? ⟨w.heap.size + 1, 0, none⟩ = some (.bool y.has) := by rw [<- eW]; simp [go_sem]
  have r3 : W.cell? ⟨w.heap.size + 1, 1, none⟩ = some (.int .i64 y.code) := by rw [<- eW]; simp [go_sem]
  have r4 : W.cell? ⟨w.heap.size + 1, 2, none⟩ = some (.string y.text) := by rw [<- eW]; simp [go_sem]
  have hfl : (flagB y.has).size <= 2000 := by rw [flagB_size]; omega
  clear hv hcode hT hP hs hM hb0
  unfold turnV
  cases ask
  · go_enter Tryz.func179, Tryz.ntmps179
    go_wp2_with (go_at_call 180; refine (oneIf_any _ _).mono ?_; rintro e w9 ⟨rfl, rfl⟩)
    clear eW
    refine (put_okK B m s.stack _ s.pl s.steps s.looks (flagB y.has) _ HM1.out hB1' hfl h50).mono ?_
    rintro e w1 ⟨rfl, hb1, hM1⟩
    have HMp : Hid (MOk B (w1.setCell ⟨m, 2, none⟩ (.int .i64 ((s.pl : Int) + 1))) m (s.stack ++ [flagB y.has]) (.slice a is.length cap) ((s.pl : Int) + 1) s.steps s.looks) := hM1.place _
    obtain ⟨c2, f2, _, _⟩ := hM1.cell2
    have HKp : Hid (KB B m w (w1.setCell ⟨m, 2, none⟩ (.int .i64 ((s.pl : Int) + 1)))) := (HK1.out.trans hb1).setM 2 hBm _
    have HRp : Hid ((w1.setCell ⟨m, 2, none⟩ (.int .i64 ((s.pl : Int) + 1))).heap[w.heap.size + 1 + 1]? = some (.cells #[.bool false, .int .i64 0, .string ⟨#[]⟩, .bool false, .string ⟨#[]⟩, .int .i64 0] 173 (0, 0))) := by
      rw [Below.heap_setCell w1 ⟨m, 2, none⟩ _ _ (by simp; omega)]; exact hb1.keep _ _ 173 (by decide) (by omega) HR1.out
    clear hM1 hb1 HM1 HK1 HR1 r0 r1 r2 r3 r4
    go_wp2_with fail
    refine (run_any B m is a cap ⟨s.pl + 1, s.stack ++ [flagB y.has], s.steps, s.looks⟩ _ HMp.out (Nat.le_trans hB HKp.out.size) hB1 (HC.out.belowB HKp.out.below) (HT.out.belowB HKp.out.below (by omega)) (HP.out.belowB HKp.out.below hB1) HV.out (ans_ok HS.out hlen.2 hpl h50 hfl)).mono ?_
    rintro e w2 ⟨hk2, hpost⟩
    have HK2 : Hid (KB B m w w2) := HKp.out.trans hk2
    have HR2 : Hid (w2.heap[w.heap.size + 1 + 1]? = some (.cells #[.bool false, .int .i64 0, .string ⟨#[]⟩, .bool false, .string ⟨#[]⟩, .int .i64 0] 173 (0, 0))) := hk2.keep _ _ 173 (by decide) (by omega) HRp.out
    have HG : Hid (ansP false nm y s = .go ⟨s.pl + 1, s.stack ++ [flagB y.has], s.steps, s.looks⟩) := show ansP false nm y s = .go ⟨s.pl + 1, s.stack ++ [flagB y.has], s.steps, s.looks⟩ from by simp [ansP]
    clear c2 f2 hk2
    rcases hpost with ⟨c, t, n, hru, rfl⟩ | ⟨ask', nm', s', hru, rfl, hso, hM2⟩
    · have HRU : Hid (Runs is ⟨s.pl + 1, s.stack ++ [flagB y.has], s.steps, s.looks⟩ (.over c t n)) := hru
      clear hru
      have hblk : w2.heap[w.heap.size + 1 + 1]? = some (.cells #[.bool false, .int .i64 0, .string ⟨#[]⟩, .bool false, .string ⟨#[]⟩, .int .i64 0] 173 (0, 0)) := HR2.out
      have k0 := Lib.cell_of_heap hblk 0
      have k1 := Lib.cell_of_heap hblk 1
      have k2 := Lib.cell_of_heap hblk 2
      have k3 := Lib.cell_of_heap hblk 3
      have k4 := Lib.cell_of_heap hblk 4
      have k5 := Lib.cell_of_heap hblk 5
      simp only [List.getElem?_toArray, List.getElem?_cons_zero, List.getElem?_cons_succ] at k0 k1 k2 k3 k4 k5
      have f0 : ∀ j, w2.frozen? ⟨w.heap.size + 1 + 1, j, none⟩ = false := fun j => Lib.frozen_of_heap hblk j
      clear hblk
      unfold turnV
      go_wp2
      exact bodyPost_ret (v := turnV true c t false ⟨#[]⟩ n) (by simp [results, Tryz.results179, go_sem, turnV, k0, k1, k2, k3, k4, k5]) rfl ⟨((((((HK2.out).setB 0 hRw hRB _).setB 1 hRw hRB _).setB 2 hRw hRB _).setB 3 hRw hRB _).setB 4 hRw hRB _).setB 5 hRw hRB _, Or.inr ⟨_, HG.out, Or.inl ⟨c, t, n, HRU.out, rfl⟩⟩⟩
    · have HRU : Hid (Runs is ⟨s.pl + 1, s.stack ++ [flagB y.has], s.steps, s.looks⟩ (.look ask' nm' s')) := hru
      have HSO : Hid (StOk is s') := hso
      have HM2 : Hid (MOk B w2 m s'.stack (.slice a is.length cap) s'.pl s'.steps s'.looks) := hM2
      clear hru hso hM2
      have hblk : w2.heap[w.heap.size + 1 + 1]? = some (.cells #[.bool false, .int .i64 0, .string ⟨#[]⟩, .bool false, .string ⟨#[]⟩, .int .i64 0] 173 (0, 0)) := HR2.out
      have k0 := Lib.cell_of_heap hblk 0
      have k1 := Lib.cell_of_heap hblk 1
      have k2 := Lib.cell_of_heap hblk 2
      have k3 := Lib.cell_of_heap hblk 3
      have k4 := Lib.cell_of_heap hblk 4
      have k5 := Lib.cell_of_heap hblk 5
      simp only [List.getElem?_toArray, List.getElem?_cons_zero, List.getElem?_cons_succ] at k0 k1 k2 k3 k4 k5
      have f0 : ∀ j, w2.frozen? ⟨w.heap.size + 1 + 1, j, none⟩ = false := fun j => Lib.frozen_of_heap hblk j
      clear hblk
      unfold turnV
      go_wp2
      exact bodyPost_ret (v := turnV false 0 ⟨#[]⟩ ask' nm' s'.steps) (by simp [results, Tryz.results179, go_sem, turnV, k0, k1, k2, k3, k4, k5]) rfl ⟨((((((HK2.out).setB 0 hRw hRB _).setB 1 hRw hRB _).setB 2 hRw hRB _).setB 3 hRw hRB _).setB 4 hRw hRB _).setB 5 hRw hRB _, Or.inr ⟨_, HG.out, Or.inr ⟨ask', nm', s', HRU.out, rfl, HSO.out, (MOk.turn (MOk.turn (MOk.turn (MOk.turn (MOk.turn (MOk.turn ⟨HM2.out, _, HR2.out⟩ 0 _) 1 _) 2 _) 3 _) 4 _) 5 _).1⟩⟩⟩
  · by_cases hh : y.has = true
    · have HY1 : Hid (y.has = true) := hh
      rw [hh] at r2 eW
      rw [hh]
      by_cases hc : y.code = 0
      · have HY2 : Hid (y.code = 0) := hc
        rw [hc] at r3 eW
        rw [hc]
        go_enter Tryz.func179, Tryz.ntmps179
        go_wp2_with fail
        clear eW
        refine (put_okK B m s.stack _ s.pl s.steps s.looks (y.text) _ HM1.out hB1' hy h50).mono ?_
        rintro e w1 ⟨rfl, hb1, hM1⟩
        have HMp : Hid (MOk B (w1.setCell ⟨m, 2, none⟩ (.int .i64 ((s.pl : Int) + 1))) m (s.stack ++ [y.text]) (.slice a is.length cap) ((s.pl : Int) + 1) s.steps s.looks) := hM1.place _
        obtain ⟨c2, f2, _, _⟩ := hM1.cell2
        have HKp : Hid (KB B m w (w1.setCell ⟨m, 2, none⟩ (.int .i64 ((s.pl : Int) + 1)))) := (HK1.out.trans hb1).setM 2 hBm _
        have HRp : Hid ((w1.setCell ⟨m, 2, none⟩ (.int .i64 ((s.pl : Int) + 1))).heap[w.heap.size + 1 + 1]? = some (.cells #[.bool false, .int .i64 0, .string ⟨#[]⟩, .bool false, .string ⟨#[]⟩, .int .i64 0] 173 (0, 0))) := by
          rw [Below.heap_setCell w1 ⟨m, 2, none⟩ _ _ (by simp; omega)]; exact hb1.keep _ _ 173 (by decide) (by omega) HR1.out
        clear hM1 hb1 HM1 HK1 HR1 r0 r1 r2 r3 r4
        go_wp2_with fail
        refine (run_any B m is a cap ⟨s.pl + 1, s.stack ++ [y.text], s.steps, s.looks⟩ _ HMp.out (Nat.le_trans hB HKp.out.size) hB1 (HC.out.belowB HKp.out.below) (HT.out.belowB HKp.out.below (by omega)) (HP.out.belowB HKp.out.below hB1) HV.out (ans_ok HS.out hlen.2 hpl h50 hy)).mono ?_
        rintro e w2 ⟨hk2, hpost⟩
        have HK2 : Hid (KB B m w w2) := HKp.out.trans hk2
        have HR2 : Hid (w2.heap[w.heap.size + 1 + 1]? = some (.cells #[.bool false, .int .i64 0, .string ⟨#[]⟩, .bool false, .string ⟨#[]⟩, .int .i64 0] 173 (0, 0))) := hk2.keep _ _ 173 (by decide) (by omega) HRp.out
        have HG : Hid (ansP true nm y s = .go ⟨s.pl + 1, s.stack ++ [y.text], s.steps, s.looks⟩) := show ansP true nm y s = .go ⟨s.pl + 1, s.stack ++ [y.text], s.steps, s.looks⟩ from by simp [ansP, HY1.out, HY2.out]
        clear c2 f2 hk2
        rcases hpost with ⟨c, t, n, hru, rfl⟩ | ⟨ask', nm', s', hru, rfl, hso, hM2⟩
        · have HRU : Hid (Runs is ⟨s.pl + 1, s.stack ++ [y.text], s.steps, s.looks⟩ (.over c t n)) := hru
          clear hru
          have hblk : w2.heap[w.heap.size + 1 + 1]? = some (.cells #[.bool false, .int .i64 0, .string ⟨#[]⟩, .bool false, .string ⟨#[]⟩, .int .i64 0] 173 (0, 0)) := HR2.out
          have k0 := Lib.cell_of_heap hblk 0
          have k1 := Lib.cell_of_heap hblk 1
          have k2 := Lib.cell_of_heap hblk 2
          have k3 := Lib.cell_of_heap hblk 3
          have k4 := Lib.cell_of_heap hblk 4
          have k5 := Lib.cell_of_heap hblk 5
          simp only [List.getElem?_toArray, List.getElem?_cons_zero, List.getElem?_cons_succ] at k0 k1 k2 k3 k4 k5
          have f0 : ∀ j, w2.frozen? ⟨w.heap.size + 1 + 1, j, none⟩ = false := fun j => Lib.frozen_of_heap hblk j
          clear hblk
          unfold turnV
          go_wp2
          exact bodyPost_ret (v := turnV true c t false ⟨#[]⟩ n) (by simp [results, Tryz.results179, go_sem, turnV, k0, k1, k2, k3, k4, k5]) rfl ⟨((((((HK2.out).setB 0 hRw hRB _).setB 1 hRw hRB _).setB 2 hRw hRB _).setB 3 hRw hRB _).setB 4 hRw hRB _).setB 5 hRw hRB _, Or.inr ⟨_, HG.out, Or.inl ⟨c, t, n, HRU.out, rfl⟩⟩⟩
        · have HRU : Hid (Runs is ⟨s.pl + 1, s.stack ++ [y.text], s.steps, s.looks⟩ (.look ask' nm' s')) := hru
          have HSO : Hid (StOk is s') := hso
          have HM2 : Hid (MOk B w2 m s'.stack (.slice a is.length cap) s'.pl s'.steps s'.looks) := hM2
          clear hru hso hM2
          have hblk : w2.heap[w.heap.size + 1 + 1]? = some (.cells #[.bool false, .int .i64 0, .string ⟨#[]⟩, .bool false, .string ⟨#[]⟩, .int .i64 0] 173 (0, 0)) := HR2.out
          have k0 := Lib.cell_of_heap hblk 0
          have k1 := Lib.cell_of_heap hblk 1
          have k2 := Lib.cell_of_heap hblk 2
          have k3 := Lib.cell_of_heap hblk 3
          have k4 := Lib.cell_of_heap hblk 4
          have k5 := Lib.cell_of_heap hblk 5
          simp only [List.getElem?_toArray, List.getElem?_cons_zero, List.getElem?_cons_succ] at k0 k1 k2 k3 k4 k5
          have f0 : ∀ j, w2.frozen? ⟨w.heap.size + 1 + 1, j, none⟩ = false := fun j => Lib.frozen_of_heap hblk j
          clear hblk
          unfold turnV
          go_wp2
          exact bodyPost_ret (v := turnV false 0 ⟨#[]⟩ ask' nm' s'.steps) (by simp [results, Tryz.results179, go_sem, turnV, k0, k1, k2, k3, k4, k5]) rfl ⟨((((((HK2.out).setB 0 hRw hRB _).setB 1 hRw hRB _).setB 2 hRw hRB _).setB 3 hRw hRB _).setB 4 hRw hRB _).setB 5 hRw hRB _, Or.inr ⟨_, HG.out, Or.inr ⟨ask', nm', s', HRU.out, rfl, HSO.out, (MOk.turn (MOk.turn (MOk.turn (MOk.turn (MOk.turn (MOk.turn ⟨HM2.out, _, HR2.out⟩ 0 _) 1 _) 2 _) 3 _) 4 _) 5 _).1⟩⟩⟩
      · have hcb : (y.code == 0) = false := by simpa using hc
        have HA : Hid (ansP true nm y s = .over 5 nm s.steps) := show ansP true nm y s = .over 5 nm s.steps from by simp [ansP, HY1.out, hc]
        obtain ⟨z0, zp, _, _, _, _, _, _, _, _, gm⟩ := HM1.out.all
        have HG : Hid (Mach W m _ _ s.pl s.steps s.looks) := gm
        clear gm
        go_enter Tryz.func179, Tryz.ntmps179
        go_wp2_with fail
        clear eW
        refine (over_any m _ _ s.pl s.steps s.looks 5 nm _ HG.out).mono ?_
        rintro e w2 ⟨rfl, hb2⟩
        have HK2 : Hid (KB B m w w2) := HK1.out.trans (KB.old hb2 hB1')
        have hblk : w2.heap[w.heap.size + 1 + 1]? = some (.cells #[.bool false, .int .i64 0, .string ⟨#[]⟩, .bool false, .string ⟨#[]⟩, .int .i64 0] 173 (0, 0)) := (by rw [hb2.block _ (blk_lt HR1.out)]; exact HR1.out)
        have k0 := Lib.cell_of_heap hblk 0
        have k1 := Lib.cell_of_heap hblk 1
        have k2 := Lib.cell_of_heap hblk 2
        have k3 := Lib.cell_of_heap hblk 3
        have k4 := Lib.cell_of_heap hblk 4
        have k5 := Lib.cell_of_heap hblk 5
        simp only [List.getElem?_toArray, List.getElem?_cons_zero, List.getElem?_cons_succ] at k0 k1 k2 k3 k4 k5
        have f0 : ∀ j, w2.frozen? ⟨w.heap.size + 1 + 1, j, none⟩ = false := fun j => Lib.frozen_of_heap hblk j
        clear hblk r0 r1 r2 r3 r4
        unfold turnV
        go_wp2
        exact bodyPost_ret (v := turnV true 5 nm false ⟨#[]⟩ s.steps) (by simp [results, Tryz.results179, go_sem, turnV, k0, k1, k2, k3, k4, k5]) rfl ⟨((((((HK2.out).setB 0 hRw hRB _).setB 1 hRw hRB _).setB 2 hRw hRB _).setB 3 hRw hRB _).setB 4 hRw hRB _).setB 5 hRw hRB _, Or.inl ⟨5, nm, s.steps, HA.out, rfl⟩⟩
    · have hh' : y.has = false := by simpa using hh
      rw [hh'] at r2 eW
      rw [hh']
      have HA : Hid (ansP true nm y s = .over 4 nm s.steps) := show ansP true nm y s = .over 4 nm s.steps from by simp [ansP, hh']
      obtain ⟨z0, zp, _, _, _, _, _, _, _, _, gm⟩ := HM1.out.all
      have HG : Hid (Mach W m _ _ s.pl s.steps s.looks) := gm
      clear gm
      go_enter Tryz.func179, Tryz.ntmps179
      go_wp2_with fail
      clear eW
      refine (over_any m _ _ s.pl s.steps s.looks 4 nm _ HG.out).mono ?_
      rintro e w2 ⟨rfl, hb2⟩
      have HK2 : Hid (KB B m w w2) := HK1.out.trans (KB.old hb2 hB1')
      have hblk : w2.heap[w.heap.size + 1 + 1]? = some (.cells #[.bool false, .int .i64 0, .string ⟨#[]⟩, .bool false, .string ⟨#[]⟩, .int .i64 0] 173 (0, 0)) := (by rw [hb2.block _ (blk_lt HR1.out)]; exact HR1.out)
      have k0 := Lib.cell_of_heap hblk 0
      have k1 := Lib.cell_of_heap hblk 1
      have k2 := Lib.cell_of_heap hblk 2
      have k3 := Lib.cell_of_heap hblk 3
      have k4 := Lib.cell_of_heap hblk 4
      have k5 := Lib.cell_of_heap hblk 5
      simp only [List.getElem?_toArray, List.getElem?_cons_zero, List.getElem?_cons_succ] at k0 k1 k2 k3 k4 k5
      have f0 : ∀ j, w2.frozen? ⟨w.heap.size + 1 + 1, j, none⟩ = false := fun j => Lib.frozen_of_heap hblk j
      clear hblk r0 r1 r2 r3 r4
      unfold turnV
      go_wp2
      exact bodyPost_ret (v := turnV true 4 nm false ⟨#[]⟩ s.steps) (by simp [results, Tryz.results179, go_sem, turnV, k0, k1, k2, k3, k4, k5]) rfl ⟨((((((HK2.out).setB 0 hRw hRB _).setB 1 hRw hRB _).setB 2 hRw hRB _).setB 3 hRw hRB _).setB 4 hRw hRB _).setB 5 hRw hRB _, Or.inl ⟨4, nm, s.steps, HA.out, rfl⟩⟩
end Go.Proofs.YtmeojnaoljgieaeGreatDoor
