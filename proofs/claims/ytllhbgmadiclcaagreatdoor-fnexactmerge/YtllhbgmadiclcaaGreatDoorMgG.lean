import Derived.RangeFuncNested
import Derived.RangeFuncBound
import Derived.RangeFuncCalls
import Derived.RangeFuncLeaves
import Derived.Shelf.Abstract
import Derived.Shelf.RegionOpen
import Derived.WalkKit
import Derived.OwnWalkIn
import Derived.TacticsInMore
import Derived.LoopNIn
import Derived.LoopIn
import Derived.Maps.AppendAt
import Derived.Test.YtllhbgmadiclcaaGreatDoorProg
import Derived.Test.YtllhbgmadiclcaaGreatDoorMgE
import Derived.WideKeyEntry
import Derived.Test.YtllhbgmadiclcaaGreatDoorNmE
namespace Go.Proofs.YtllhbgmadiclcaaGreatDoor
open Go.RowKit Go.Shelf
set_option linter.unusedVariables false
attribute [local go_sem] Oper.semAt_some

/-- A record as a Go value. -/
structure RV where
  ca : Option Addr
  cn : Nat
  cc : Nat
  la : Option Addr
  ln : Nat
  lc : Nat
  out : ByteArray
def RV.cv (x : RV) : Value := .slice x.ca x.cn x.cc
def RV.lv (x : RV) : Value := .slice x.la x.ln x.lc
def RV.cells (x : RV) : List Value := [x.cv, x.lv, .string x.out]
def RV.agg (x : RV) : Value := .agg #[.slice x.ca x.cn x.cc, .slice x.la x.ln x.lc, .string x.out]
/-- What has come when k are over. -/
def comes (vals : Nat → RV) (stays : Nat → Bool) (k : Nat) : List RV := ((List.range k).filter stays).map vals
theorem comes_yes {vals : Nat → RV} {stays : Nat → Bool} {k : Nat} (h : stays k = true) : comes vals stays (k + 1) = comes vals stays k ++ [vals k] := by simp [comes, List.range_succ, h]
theorem comes_no {vals : Nat → RV} {stays : Nat → Bool} {k : Nat} (h : stays k = false) : comes vals stays (k + 1) = comes vals stays k := by simp [comes, List.range_succ, h]
theorem comes_length (vals : Nat → RV) (stays : Nat → Bool) (k : Nat) : (comes vals stays k).length ≤ k := by
  unfold comes
  rw [List.length_map]
  exact Nat.le_trans (List.length_filter_le _ _) (by simp)
theorem grown_of_below {w w' : World} (h : Below w.heap.size w w') : w.grownBy w' none := ⟨h.os, h.tape, h.output, h.size, fun k hk _ => h.block k hk⟩

end Go.Proofs.YtllhbgmadiclcaaGreatDoor
namespace Go.Proofs.YtllhbgmadiclcaaGreatDoor
open Go.RowKit Go.Shelf
set_option linter.unusedVariables false
attribute [local go_sem] Oper.semAt_some

/-- What the closure may turn. -/
def IsMap (A : World) (k : Nat) : Prop := ∃ es c, A.heap[k]? = some (.map es c)
theorem IsMap.lt {A : World} {k : Nat} (h : IsMap A k) : k < A.heap.size := by
  obtain ⟨es, c, h⟩ := h
  exact (Array.getElem?_eq_some_iff.1 h).1
theorem MapK.isMap {kt : TypeId} {w : World} {b n : Nat} {f : Value → Option Nat} (h : MapK kt w b n f) : IsMap w b := by
  obtain ⟨D, ⟨es, cl, h1, _⟩, _⟩ := h
  exact ⟨es, cl, h1⟩
structure TX (m1 m2 : Nat) (A B : World) : Prop where
  keep : KeepX A.heap.size (fun b => b = m1 ∨ b = m2) A B
  map : ∀ k, (k = m1 ∨ k = m2) → IsMap A k → IsMap B k
theorem TX.below {m1 m2 : Nat} {A B : World} (h : Below A.heap.size A B) : TX m1 m2 A B := ⟨⟨h.os, h.tape, h.output, h.size, fun k hk _ => h.block k hk⟩, fun k _ hm => by
  have hl := hm.lt
  obtain ⟨es, c, hm⟩ := hm
  exact ⟨es, c, (h.block k hl).trans hm⟩⟩
theorem TX.cell {m1 m2 : Nat} {A B : World} (h : TX m1 m2 A B) {b j : Nat} {v : Value} (hb : b ≠ m1) (hb2 : b ≠ m2) (hc : A.cell? ⟨b, j, none⟩ = some v) : B.cell? ⟨b, j, none⟩ = some v := by
  rw [World.cell?_of_block (a := ⟨b, j, none⟩) (h.keep.block b (World.block_lt_of_cell? _ _ hc) (by omega))]; exact hc

/-- A place in a list; what has come when k are over. -/
abbrev At (len : Nat) := { i : Nat // i < len }
def comI (len : Nat) (stays : Nat → Bool) (k : Nat) : List (At len) := ((List.range k).filter stays).filterMap fun i => if h : i < len then some ⟨i, h⟩ else none
theorem comI_yes {len k : Nat} {stays : Nat → Bool} (hk : k < len) (h : stays k = true) : comI len stays (k + 1) = comI len stays k ++ [⟨k, hk⟩] := by simp [comI, List.range_succ, h, hk]
theorem comI_no {len k : Nat} {stays : Nat → Bool} (h : stays k = false) : comI len stays (k + 1) = comI len stays k := by simp [comI, List.range_succ, h]
theorem comI_length (len : Nat) (stays : Nat → Bool) (k : Nat) : (comI len stays k).length ≤ k := by
  unfold comI
  exact Nat.le_trans (List.length_filterMap_le _ _) (Nat.le_trans (List.length_filter_le _ _) (by simp))

set_option maxRecDepth 100000 in
set_option maxHeartbeats 1000000 in
theorem those1X (n l Bl Bs bp len qc N m1 m2 : Nat) (qa : Option Addr) (vals : Nat → RV) (stays : Nat → Bool) (hn : 1 ≤ n) (hN : len ≤ N) (h63 : len ≤ 1048576) (J Jx : List (At len) → World → Prop) (Kp : World → World → Prop) (St : World → Prop) (MS : Nat → World → Prop)
    (hJ : ∀ s A B, J s A → TX m1 m2 A B → J s B) (hSt : ∀ A B, St A → TX m1 m2 A B → St B) (hStK : ∀ A B, St A → Kp A B → St B) (hMS : ∀ k A B, MS k A → Below A.heap.size A B → MS k B) (hMSK : ∀ k A B, MS k A → Kp A B → MS k B)
    (hY : ∀ pre x W, J pre W → pre.length < N → YieldAt Fence.wide (n - 1) Tryz.prog l #[(vals x.1).agg] W fun e W' =>
      (e = .returned (.bool true) ∧ J (pre ++ [x]) W' ∧ Kp W W') ∨ (e = .returned (.bool false) ∧ Jx (pre ++ [x]) W'))
    (hm : ∀ A, St A → m1 < A.heap.size ∧ m2 < A.heap.size)
    (hl : ∀ A, St A → A.cell? ⟨Bl, 0, none⟩ = some (.slice qa len qc)) (hs : ∀ A, St A → A.cell? ⟨Bs, 0, none⟩ = some (.func (.func 27) #[] #[.pointer (some ⟨bp, 0, none⟩)]))
    (hrow : ∀ A, St A → ∀ i, i < len → ∃ b off, qa = some ⟨b, off, none⟩ ∧ A.cell? ⟨b, off + i * 3, none⟩ = some (vals i).cv ∧ A.cell? ⟨b, off + i * 3 + 1, none⟩ = some (vals i).lv ∧ A.cell? ⟨b, off + i * 3 + 2, none⟩ = some (.string (vals i).out))
    (hst : ∀ A, St A → ∀ i, i < len → MS i A → Calls Tryz.prog 27 #[(vals i).agg, .pointer (some ⟨bp, 0, none⟩)] A fun e w' => TX m1 m2 A w' ∧ MS (i + 1) w' ∧ e = .returned (.bool (stays i)))
    (W : World) (hS0 : St W) (hM0 : MS 0 W) (h0 : J [] W) :
    CallsIn Fence.wide n Tryz.prog 46 #[.func (.yield l) #[] #[], .pointer (some ⟨Bl, 0, none⟩), .pointer (some ⟨Bs, 0, none⟩)] W fun e W' => (∃ v, e = .returned v) ∧
      ((∃ ys, ys = comI len stays len ∧ J ys W') ∨ (∃ pre, True ∧ Jx pre W')) := by
  refine callsIn_of_wp Tryz.func46 rfl trivial ?_ rfl
  have hl0 := hl W hS0
  simp only [Tryz.ntmps46, List.size_toArray, List.length_cons, List.length_nil, Nat.reduceAdd, Nat.reduceSub, Array.replicate_succ, Array.replicate_zero, List.push_toArray, List.append_toArray, List.nil_append, List.cons_append]
  gi_wp2
  gi_loopw [8] (fun i wr => ∃ k : Nat, k ≤ len ∧ i = .int .i64 k ∧ Hid (J (comI len stays k) wr) ∧ Hid (St wr) ∧ Hid (MS k wr)) (fun i _ => len - (intOf i).toNat)
  case atStart => exact ⟨0, Nat.zero_le _, rfl, h0, hS0, hM0⟩
  case round =>
    obtain ⟨k, hk, rfl, HJ, HS, HM⟩ := hrel
    by_cases hlt : k < len
    · have hkI : (k : Int) < (len : Int) := by omega
      obtain ⟨b, off, rfl, c1, c2, c3⟩ := hrow wr HS.out k hlt
      obtain ⟨x, ex⟩ : ∃ x, vals k = x := ⟨_, rfl⟩
      rw [ex] at c1 c2 c3
      have HX : Hid (vals k = x) := ex
      obtain ⟨hm1, hm2⟩ := hm wr HS.out
      obtain ⟨w1, e1⟩ : ∃ y, wr.alloc (.cells #[x.cv, x.lv, .string x.out] 50) = y := ⟨_, rfl⟩
      have hb1 : Below wr.heap.size wr w1 := by rw [← e1]; exact (Below.refl _ _).alloc (Nat.le_refl _) _
      have d1 : w1.cell? ⟨wr.heap.size, 0, none⟩ = some x.cv := by rw [← e1]; simp [go_sem]
      have d2 : w1.cell? ⟨wr.heap.size, 1, none⟩ = some x.lv := by rw [← e1]; simp [go_sem]
      have d3 : w1.cell? ⟨wr.heap.size, 2, none⟩ = some (.string x.out) := by rw [← e1]; simp [go_sem]
      have HS1 : Hid (St w1) := hSt _ _ HS.out (TX.below hb1)
      have s1 : w1.cell? ⟨Bs, 0, none⟩ = some (.func (.func 27) #[] #[.pointer (some ⟨bp, 0, none⟩)]) := hs w1 HS1.out
      have HST : Hid (Calls Tryz.prog 27 #[x.agg, .pointer (some ⟨bp, 0, none⟩)] w1 fun e w' => TX m1 m2 w1 w' ∧ MS (k + 1) w' ∧ e = .returned (.bool (stays k))) := by
        have h := hst w1 HS1.out k hlt (hMS _ _ _ HM.out hb1)
        rw [ex] at h
        exact h
      have HJ1 : Hid (J (comI len stays k) w1) := hJ _ _ _ HJ.out (TX.below hb1)
      clear ex hb1
      obtain ⟨ca, cn, cc, la, ln, lc, out⟩ := x
      simp only [RV.cv, RV.lv, RV.agg] at *
      obtain ⟨v, hv⟩ : ∃ v, stays k = v := ⟨_, rfl⟩
      rw [hv] at HST
      have HV : Hid (stays k = v) := hv
      clear hv
      gi_wp2
      refine ⟨trivial, (callsIn_wide.2 HST.out).mono ?_⟩
      rintro e w2 ⟨ht2, hM2, rfl⟩
      dsimp only
      have HS2 : Hid (St w2) := hSt _ _ HS1.out ht2
      have HM2 : Hid (MS (k + 1) w2) := hM2
      have HJ2 : Hid (J (comI len stays k) w2) := hJ _ _ _ HJ1.out ht2
      have f1 := ht2.cell (by omega) (by omega) d1
      have f2 := ht2.cell (by omega) (by omega) d2
      have f3 := ht2.cell (by omega) (by omega) d3
      clear d1 d2 d3 s1 ht2 hM2 HST HJ HJ1 HS HS1 HM c1 c2 c3 e1
      cases v
      · have HC : Hid (comI len stays (k + 1) = comI len stays k) := comI_no HV.out
        gi_wp2
        refine ⟨fun _ h => (by cases h), ?_⟩
        gi_wp2
        go_roundw
        case rel => exact ⟨k + 1, by omega, by go_num, by rw [HC.out]; exact HJ2.out, HS2.out, HM2.out⟩
        case measure => simp [intOf]; omega
      · have HC : Hid (comI len stays (k + 1) = comI len stays k ++ [⟨k, hlt⟩]) := comI_yes hlt HV.out
        obtain ⟨fn, tmps, assign, body, hy, hR⟩ := hY (comI len stays k) ⟨k, hlt⟩ w2 HJ2.out (by have := comI_length len stays k; omega)
        dsimp only at hy
        rw [HX.out] at hy
        dsimp only [RV.agg] at hy
        gi_wp2
        refine hR.mono ?_
        rintro e w3 (⟨rfl, hJ3, hk3⟩ | ⟨rfl, hJx3⟩)
        · have HJ3 : Hid (J (comI len stays (k + 1)) w3) := by show J _ _; rw [HC.out]; exact hJ3
          have HS3 : Hid (St w3) := hStK _ _ HS2.out hk3
          have HM3 : Hid (MS (k + 1) w3) := hMSK _ _ _ HM2.out hk3
          clear hJ3 hk3
          gi_wp2
          go_roundw
          case rel => exact ⟨k + 1, by omega, by go_num, HJ3.out, HS3.out, HM3.out⟩
          case measure => simp [intOf]; omega
        · gi_wp2
          refine bodyPost_ret (results_none rfl _ _ _) rfl ?_
          exact ⟨⟨_, rfl⟩, .inr ⟨_, trivial, hJx3⟩⟩
    · have hkI : ¬ (k : Int) < (len : Int) := by omega
      obtain rfl : k = len := by omega
      gi_wp2
      go_end0
      exact ⟨⟨_, rfl⟩, Or.inl HJ.out⟩

end Go.Proofs.YtllhbgmadiclcaaGreatDoor
namespace Go.Proofs.YtllhbgmadiclcaaGreatDoor
open Go.RowKit
open Go.ChangeMaps (setBlock)
set_option linter.unusedVariables false

theorem entryLays {H : Type} {R : Value → Option (DataW H × List MemPlace)} {kt mt : TypeId} {w : World} {b : Nat} {es : Array MapEntry} {clock : Nat} (K : WideMaps.KeyLaw Tryz.prog kt) (ht : Tryz.prog.underlying mt = some (.map kt 3)) (hb : w.heap[b]? = some (.map es clock)) (F : WideElems.Fit Tryz.prog kt R es clock) {k : Value} {l : Lit} (hk : keyOf Tryz.prog kt k = some l)
    {v0 st : Value} {w1 : World} (hr : (Instr.mapEntry mt (.map (some b)) k).run Tryz.prog w = .ok (.tuple #[v0, st]) w1) :
    (Instr.lookup mt (.map (some b)) k false).run Tryz.prog w = .ok v0 w ∧ (Instr.mapUpdate mt (.map (some b)) k v0).run Tryz.prog w = .ok () w1 := by
  rcases K.find w hk es.toList F.keys with ⟨h1, h2⟩ | ⟨j, e0, h1, h2, h3⟩
  · have hm : (Instr.mapEntry mt (.map (some b)) k).run Tryz.prog w = .ok (.tuple #[.int .i64 0, goInt clock]) (setBlock w b (.map (es.push ⟨k, .int .i64 0, clock⟩) (clock + 1))) := by
      simp [Instr.mapEntry, run_underlying ht, MapKept.run_getObj_map hb, K.check w false hk, h1, MapKept.run_setObj_map _ hb, Result.andThen, setBlock]
    rw [hm] at hr
    simp only [Result.ok.injEq, Value.tuple.injEq, Array.mk.injEq, List.cons.injEq, and_true] at hr
    obtain ⟨⟨rfl, _⟩, rfl⟩ := hr
    constructor
    · simp [Instr.lookup, run_underlying ht, MapKept.run_getObj_map hb, K.check w es.isEmpty hk, h1, Result.andThen]
    · simp [Instr.mapUpdate, run_underlying ht, MapKept.run_getObj_map hb, K.check w false hk, h1, MapKept.run_setObj_map _ hb, Result.andThen, setBlock]
  · have hj : es[j]? = some e0 := by simpa using h2
    have hsame : es.modify j (fun e => { e with key := k }) = es := by
      apply Array.ext'
      rw [Array.toList_modify]
      apply List.ext_getElem?
      intro i
      rw [List.getElem?_modify]
      by_cases hij : j = i
      · subst hij
        simp [h2, ← h3]
      · simp [hij]
    have hsam2 : es.modify j (fun e => { e with key := k, val := e0.val }) = es := by
      apply Array.ext'
      rw [Array.toList_modify]
      apply List.ext_getElem?
      intro i
      rw [List.getElem?_modify]
      by_cases hij : j = i
      · subst hij
        simp [h2, ← h3]
      · simp [hij]
    have hm : (Instr.mapEntry mt (.map (some b)) k).run Tryz.prog w = .ok (.tuple #[e0.val, goInt e0.born]) (setBlock w b (.map es clock)) := by
      simp [Instr.mapEntry, run_underlying ht, MapKept.run_getObj_map hb, K.check w false hk, h1, hj, h3, K.stays w hk, hsame, MapKept.run_setObj_map _ hb, Result.andThen, setBlock]
    rw [hm] at hr
    simp only [Result.ok.injEq, Value.tuple.injEq, Array.mk.injEq, List.cons.injEq, and_true] at hr
    obtain ⟨⟨rfl, _⟩, rfl⟩ := hr
    constructor
    · simp [Instr.lookup, run_underlying ht, MapKept.run_getObj_map hb, K.check w es.isEmpty hk, h1, Result.andThen]
    · simp [Instr.mapUpdate, run_underlying ht, MapKept.run_getObj_map hb, K.check w false hk, h1, hj, h3, K.stays w hk, hsam2, MapKept.run_setObj_map _ hb, Result.andThen, setBlock]

open Classical in
theorem MapK.entry {kt mt : TypeId} {w : World} {b n : Nat} {f : Value → Option Nat} (h : MapK kt w b n f) (K : WideMaps.KeyLaw Tryz.prog kt) (ht : Tryz.prog.underlying mt = some (.map kt 3)) {k : Value} {l : Lit} (hk : keyOf Tryz.prog kt k = some l) (hn : n < maxLen) :
    ∃ st w1, (Instr.mapEntry mt (.map (some b)) k).run Tryz.prog w = .ok (.tuple #[.int .i64 ((f k).getD 0), st]) w1 ∧ w.grownBy w1 (some b) ∧ w1.heap.size = w.heap.size ∧
      (Instr.lookup mt (.map (some b)) k false).run Tryz.prog w1 = .ok (.int .i64 ((f k).getD 0)) w1 ∧
      ∀ v : Nat, ∃ w3, (Instr.entryStore mt (.map (some b)) st (.int .i64 v)).run Tryz.prog w1 = .ok () w3 ∧ MapK kt w3 b (if (f k).isSome then n else n + 1) (fun x => if x = k then some v else f x) ∧ w.grownBy w3 (some b) ∧ w3.heap.size = w.heap.size := by
  obtain ⟨D, ⟨es, cl, hb, F, _⟩, _⟩ := id h
  obtain ⟨v0, st, es1, clock1, h1, _, h3⟩ := WideElems.entry_then_store K ht (z := .int .i64 0) zero3 hb F hk
  obtain ⟨q1, q2⟩ := entryLays K ht hb F hk h1
  rw [(h.look K ht hk).2] at q1
  obtain rfl : (.int .i64 ((f k).getD 0)) = v0 := by simpa using q1
  obtain ⟨w1, r1, r2, r3⟩ := h.store K ht hk hn ((f k).getD 0)
  obtain rfl : setBlock w b (.map es1 clock1) = w1 := by
    rw [q2] at r1
    simpa using r1
  have hs1 : (setBlock w b (.map es1 clock1)).heap[b]? = some (.map es1 clock1) := ChangeMaps.heap_setBlock_same hb _
  refine ⟨goInt st, _, h1, r3, by simp [setBlock], ?_, fun v => ?_⟩
  · rw [(r2.look K ht hk).2]
    simp
  · obtain ⟨es', clock', s1, s2⟩ := h3 _ (.int .i64 v) hs1
    obtain ⟨w4, t1, t2, t3⟩ := h.store K ht hk hn v
    obtain rfl : setBlock w b (.map es' clock') = w4 := by
      rw [s2] at t1
      simpa using t1
    have e : setBlock (setBlock w b (.map es1 clock1)) b (.map es' clock') = setBlock w b (.map es' clock') := by simp [setBlock]
    rw [e] at s1
    exact ⟨_, s1, t2, t3, by simp [setBlock]⟩
end Go.Proofs.YtllhbgmadiclcaaGreatDoor
