import Derived.Test.YtllhbgmadiclcaaGreatDoorNmA
import Derived.RangeFuncNested
import Derived.RangeFuncBound
import Derived.RangeFuncCalls
import Derived.RangeFuncLeaves
import Derived.Shelf.Abstract
import Derived.Shelf.RegionOpen
import Derived.WalkKit
import Derived.OwnWalkIn
import Derived.TacticsInMore
import Derived.LoopNIn
import Derived.LoopIn
namespace Go.Proofs.YtllhbgmadiclcaaGreatDoor
open Go.RowKit
set_option linter.unusedVariables false

structure NumS (z : Cel3) (n : Nat) (f : Value → Option Nat) (rep : Nat → List Cel3) : Prop where
  zero : rep 0 = []
  inj : ∀ i j, i ≤ n → j ≤ n → rep i = rep j → i = j
  back : ∀ m, 1 ≤ m → m ≤ n → ∃ a c, a ≤ n ∧ f (.agg (keyA z a c)) = some m ∧ rep m = rep a ++ c ∧ (rep a).length % 8 = 0 ∧ 1 ≤ c.length ∧ c.length ≤ 8
  fwd : ∀ a c m, c.length ≤ 8 → (∀ x ∈ c, x ≠ z) → f (.agg (keyA z a c)) = some m → a ≤ n ∧ m ≤ n ∧ rep m = rep a ++ c
theorem NumS.new (z : Cel3) : NumS z 0 (fun _ => none) (fun _ => []) := ⟨rfl, fun i j hi hj _ => by omega, fun m h1 h2 => by omega, fun a c m _ _ h => by cases h⟩
/-- The same numbers, and more. -/
def Ext (n : Nat) (rep : Nat → List Cel3) (n' : Nat) (rep' : Nat → List Cel3) : Prop := n ≤ n' ∧ ∀ i, i ≤ n → rep' i = rep i
theorem Ext.refl (n : Nat) (rep : Nat → List Cel3) : Ext n rep n rep := ⟨Nat.le_refl _, fun _ _ => rfl⟩
theorem Ext.trans {n n' n'' : Nat} {rep rep' rep'' : Nat → List Cel3} (h : Ext n rep n' rep') (k : Ext n' rep' n'' rep'') : Ext n rep n'' rep'' := ⟨Nat.le_trans h.1 k.1, fun i hi => (k.2 i (Nat.le_trans hi h.1)).trans (h.2 i hi)⟩
theorem NumS.had {z : Cel3} {n : Nat} {f : Value → Option Nat} {rep : Nat → List Cel3} (h : NumS z n f rep) {k m : Nat} {c : List Cel3} (hc : c.length ≤ 8) (hz : ∀ x ∈ c, x ≠ z) (hf : f (.agg (keyA z k c)) = some m) : m ≤ n ∧ rep m = rep k ++ c := (h.fwd k c m hc hz hf).2
open Classical in
theorem NumS.put {z : Cel3} {n : Nat} {f : Value → Option Nat} {rep : Nat → List Cel3} (h : NumS z n f rep) {k : Nat} {c : List Cel3} (hk : k ≤ n) (h8 : (rep k).length % 8 = 0) (h1 : 1 ≤ c.length) (hc : c.length ≤ 8) (hz : ∀ x ∈ c, x ≠ z) (hf : f (.agg (keyA z k c)) = none) :
    NumS z (n + 1) (fun x => if x = .agg (keyA z k c) then some (n + 1) else f x) (fun i => if i = n + 1 then rep k ++ c else rep i) ∧ Ext n rep (n + 1) (fun i => if i = n + 1 then rep k ++ c else rep i) := by
  have hne : ∀ m, m ≤ n → rep m ≠ rep k ++ c := fun m hm e => by
    rcases Nat.eq_zero_or_pos m with q | q
    · subst q
      rw [h.zero] at e
      have := congrArg List.length e
      simp at this
      omega
    · obtain ⟨a, d, ha, hd, er, ea, l1, l2⟩ := h.back m q hm
      rw [er] at e
      have hlen := congrArg List.length e
      simp only [List.length_append] at hlen
      have hla : (rep a).length = (rep k).length := by omega
      obtain ⟨e1, rfl⟩ := List.append_inj e hla
      have := h.inj a k ha hk e1
      subst this
      rw [hf] at hd
      cases hd
  refine ⟨⟨?_, ?_, ?_, ?_⟩, Nat.le_succ _, fun i hi => ?_⟩
  · simp [h.zero]
  · intro i j hi hj e
    by_cases ei : i = n + 1 <;> by_cases ej : j = n + 1
    · omega
    · simp only [ei, if_true, if_neg ej] at e
      exact (hne j (by omega) e.symm).elim
    · simp only [ej, if_true, if_neg ei] at e
      exact (hne i (by omega) e).elim
    · simp only [if_neg ei, if_neg ej] at e
      exact h.inj i j (by omega) (by omega) e
  · intro m hm1 hm2
    by_cases em : m = n + 1
    · subst em
      exact ⟨k, c, by omega, by simp, by simp [show k ≠ n + 1 by omega], by simp [show k ≠ n + 1 by omega, h8], h1, hc⟩
    · obtain ⟨a, d, ha, hd, er, ea, l1, l2⟩ := h.back m hm1 (by omega)
      have hka : (Value.agg (keyA z a d)) ≠ .agg (keyA z k c) := fun e => by rw [e, hf] at hd; cases hd
      exact ⟨a, d, by omega, by simp only [if_neg hka]; exact hd, by simp only [if_neg em, if_neg (show a ≠ n + 1 by omega)]; exact er, by simp only [if_neg (show a ≠ n + 1 by omega)]; exact ea, l1, l2⟩
  · intro a d m hd hdz hm
    by_cases e : (Value.agg (keyA z a d)) = .agg (keyA z k c)
    · simp only [if_pos e] at hm
      obtain rfl := Option.some.inj hm
      obtain ⟨rfl, rfl⟩ := keyA_inj hd hc hdz hz (Value.agg.inj e)
      exact ⟨by omega, Nat.le_refl _, by simp [show a ≠ n + 1 by omega]⟩
    · simp only [if_neg e] at hm
      obtain ⟨ha, hm2, er⟩ := h.fwd a d m hd hdz hm
      exact ⟨by omega, by omega, by simp only [if_neg (show m ≠ n + 1 by omega), if_neg (show a ≠ n + 1 by omega)]; exact er⟩
  · simp only [if_neg (show i ≠ n + 1 by omega)]
/-- The i-th eight of a list. -/
def chunkT (xs : List Cel3) (i : Nat) : List Cel3 := (xs.drop (i * 8)).take 8
theorem chunkT_le (xs : List Cel3) (i : Nat) : (chunkT xs i).length ≤ 8 := by simp [chunkT]; omega
theorem chunkT_pos {xs : List Cel3} {i : Nat} (h : i * 8 < xs.length) : 1 ≤ (chunkT xs i).length := by simp [chunkT]; omega
theorem chunkT_mem {xs : List Cel3} {i : Nat} {x : Cel3} (h : x ∈ chunkT xs i) : x ∈ xs := List.mem_of_mem_drop (List.mem_of_mem_take h)
theorem chunkT_next (xs : List Cel3) (i : Nat) : xs.take (i * 8) ++ chunkT xs i = xs.take ((i + 1) * 8) := by
  unfold chunkT
  rw [Nat.succ_mul, List.take_add]

/-- What may turn. -/
structure KeepX (B : Nat) (X : Nat → Prop) (w w' : World) : Prop where
  os : w'.os = w.os
  tape : w'.tape = w.tape
  output : w'.output = w.output
  size : w.heap.size ≤ w'.heap.size
  block : ∀ k, k < B → ¬ X k → w'.heap[k]? = w.heap[k]?
theorem KeepX.refl (B : Nat) (X : Nat → Prop) (w : World) : KeepX B X w w := ⟨rfl, rfl, rfl, Nat.le_refl _, fun _ _ _ => rfl⟩
theorem KeepX.trans {B : Nat} {X : Nat → Prop} {a b c : World} (h : KeepX B X a b) (k : KeepX B X b c) : KeepX B X a c := ⟨k.os.trans h.os, k.tape.trans h.tape, k.output.trans h.output, Nat.le_trans h.size k.size, fun i hi hx => (k.block i hi hx).trans (h.block i hi hx)⟩
theorem KeepX.mono {B B' : Nat} {X X' : Nat → Prop} {a b : World} (h : KeepX B X a b) (hB : B' ≤ B) (hX : ∀ k, k < B' → X k → X' k) : KeepX B' X' a b := ⟨h.os, h.tape, h.output, h.size, fun i hi hx => h.block i (Nat.lt_of_lt_of_le hi hB) (fun q => hx (hX i hi q))⟩
theorem KeepX.of_below {B : Nat} {X : Nat → Prop} {a b : World} (h : Below B a b) : KeepX B X a b := ⟨h.os, h.tape, h.output, h.size, fun i hi _ => h.block i hi⟩
theorem KeepX.of_grown {B : Nat} {X : Nat → Prop} {a b : World} {row : Option Nat} (h : a.grownBy b row) (hB : B ≤ a.heap.size) (hr : ∀ r, row = some r → r < B → X r) : KeepX B X a b := ⟨h.os, h.tape, h.output, h.size, fun i hi hx => h.block i (Nat.lt_of_lt_of_le hi hB) (fun e => hx (hr i e.symm hi))⟩
theorem KeepX.cell {B : Nat} {X : Nat → Prop} {a b : World} (h : KeepX B X a b) {p : Addr} (hp : p.block < B) (hx : ¬ X p.block) : b.cell? p = a.cell? p := World.cell?_of_block (h.block _ hp hx)
end Go.Proofs.YtllhbgmadiclcaaGreatDoor
namespace Go.Proofs.YtllhbgmadiclcaaGreatDoor
open Go.RowKit Go.Shelf
set_option linter.unusedVariables false
attribute [local go_sem] Oper.semAt_some

abbrev Eight (len : Nat) := { i : Nat // i * 8 < len }
def chunkV (b off len i : Nat) : Value := .slice (some ⟨b, off + i * 8 * 3, none⟩) (min 8 (len - i * 8)) (min 8 (len - i * 8))
def firsts (len k : Nat) : List (Eight len) := (List.range k).filterMap (fun i => if h : i * 8 < len then some ⟨i, h⟩ else none)
theorem firsts_succ {len k : Nat} (h : k * 8 < len) : firsts len (k + 1) = firsts len k ++ [⟨k, h⟩] := by simp [firsts, List.range_succ, h]
theorem firsts_length {len k : Nat} (h : k ≤ (len + 7) / 8) : (firsts len k).length = k := by
  induction k with
  | zero => rfl
  | succ k ih =>
    have hk : k * 8 < len := by omega
    rw [firsts_succ hk, List.length_append, ih (by omega)]
    rfl

theorem grown_drew (w : World) : w.grownBy w.drew none := ⟨rfl, rfl, rfl, Nat.le_refl _, fun _ _ _ => rfl⟩

set_option maxRecDepth 100000 in
set_option maxHeartbeats 1000000 in
theorem chunk145_in (n l Bl Bn n₀ b off len qc Bj N : Nat) (qa : Option Addr) (X : Nat → Prop) (hn : 1 ≤ n) (hN : (len + 7) / 8 ≤ N) (h63 : len ≤ 1048576) (J Jx : List (Eight len) → World → Prop) (hJ : AbidesFrom Bj J)
    (hqa : 0 < len → qa = some ⟨b, off, none⟩) (hqc : len ≤ qc) (hqm : qc ≤ 9223372036854775807)
    (hY : ∀ pre x W, J pre W → pre.length < N → YieldAt Fence.wide (n - 1) Tryz.prog l #[chunkV b off len x.1] W fun e W' =>
      (e = .returned (.bool true) ∧ J (pre ++ [x]) W' ∧ KeepX n₀ X W W') ∨ (e = .returned (.bool false) ∧ Jx (pre ++ [x]) W'))
    (W : World) (hn0 : n₀ ≤ W.heap.size) (hBl : Bl < n₀) (hBn : Bn < n₀) (hXl : ¬ X Bl) (hXn : ¬ X Bn) (hl : W.cell? ⟨Bl, 0, none⟩ = some (.slice qa len qc)) (hs : W.cell? ⟨Bn, 0, none⟩ = some (.int .i64 8))
    (h0 : J [] W) :
    CallsIn Fence.wide n Tryz.prog 90 #[.func (.yield l) #[] #[], .pointer (some ⟨Bl, 0, none⟩), .pointer (some ⟨Bn, 0, none⟩)] W fun e W' => (∃ v, e = .returned v) ∧
      ((∃ ys, ys = firsts len ((len + 7) / 8) ∧ J ys W') ∨ (∃ pre, True ∧ Jx pre W')) := by
  refine callsIn_of_wp Tryz.func90 rfl trivial ?_ rfl
  simp only [Tryz.ntmps90, List.size_toArray, List.length_cons, List.length_nil, Nat.reduceAdd, Nat.reduceSub, Array.replicate_succ, Array.replicate_zero, List.push_toArray, List.append_toArray, List.nil_append, List.cons_append]
  gi_wp2
  gi_loopw [4] (fun i wr => ∃ k : Nat, k ≤ (len + 7) / 8 ∧ i = .int .i64 (k * 8 : Nat) ∧ Hid (J (firsts len k) wr) ∧ KeepX n₀ X W wr) (fun i _ => len + 8 - (intOf i).toNat)
  case atStart => exact ⟨0, Nat.zero_le _, rfl, h0, KeepX.refl _ _ _⟩
  case round =>
    obtain ⟨k, hk, rfl, HJ, hbr⟩ := hrel
    have cl : wr.cell? ⟨Bl, 0, none⟩ = some (.slice qa len qc) := (hbr.cell (p := ⟨Bl, 0, none⟩) hBl hXl).trans hl
    have cn : wr.cell? ⟨Bn, 0, none⟩ = some (.int .i64 8) := (hbr.cell (p := ⟨Bn, 0, none⟩) hBn hXn).trans hs
    by_cases hlt : k * 8 < len
    · have hkI : ((k * 8 : Nat) : Int) < (len : Int) := by omega
      obtain rfl := hqa (by omega)
      have HC : Hid (firsts len (k + 1) = firsts len k ++ [⟨k, hlt⟩]) := firsts_succ hlt
      obtain ⟨m, em⟩ : ∃ m, min 8 (len - k * 8) = m := ⟨_, rfl⟩
      have hm : Hid (min 8 (len - k * 8) = m) := em
      have a1 : (k : Int) * 8 ≤ (len : Int) := by omega
      have a2 : (len : Int) ≤ (qc : Int) := by omega
      have a3 : ((len : Int) - (k : Int) * 8) = ((len - k * 8 : Nat) : Int) := by omega
      gi_wp2
      gi_region
      have hif : (if ((len - k * 8 : Nat) : Int) < 8 then ((len - k * 8 : Nat) : Int) else 8) = (m : Int) := by rw [← em]; split <;> omega
      simp only [hif]
      have HJ1 : Hid (J (firsts len k) wr.drew) := hJ _ _ _ _ HJ.out (grown_drew _) (fun r e => by cases e)
      have hB1 : KeepX n₀ X W wr.drew := hbr.trans (KeepX.of_grown (grown_drew _) (by have := hbr.size; omega) (fun r e => by cases e))
      have cl1 : wr.drew.cell? ⟨Bl, 0, none⟩ = some (.slice (some ⟨b, off, none⟩) len qc) := cl
      have cn1 : wr.drew.cell? ⟨Bn, 0, none⟩ = some (.int .i64 8) := cn
      obtain ⟨w1, e1⟩ : ∃ w1, wr.drew = w1 := ⟨_, rfl⟩
      rw [e1] at HJ1 hB1 cl1 cn1
      rw [e1]
      have hm8 : m ≤ 8 := by omega
      have hmk : k * 8 + m ≤ len := by omega
      have a4 : (k : Int) * 8 ≤ (k : Int) * 8 + (m : Int) := by omega
      have a5 : (k : Int) * 8 + (m : Int) ≤ (qc : Int) := by omega
      have hcv : chunkV b off len k = .slice (some ⟨b, off + k * 8 * 3, none⟩) m m := by unfold chunkV; rw [em]
      clear e1 cl cn HJ hbr a1 a3 hif
      obtain ⟨fn, tmps, assign, body, hy, hR⟩ := hY (firsts len k) ⟨k, hlt⟩ w1 HJ1.out (by rw [firsts_length hk]; omega)
      dsimp only at hy
      rw [hcv] at hy
      gi_wp2
      refine hR.mono ?_
      rintro e w3 (⟨rfl, hJ3, hk3⟩ | ⟨rfl, hJx3⟩)
      · have HJ3 : Hid (J (firsts len (k + 1)) w3) := by show J _ _; rw [HC.out]; exact hJ3
        have hB3 : KeepX n₀ X W w3 := hB1.trans hk3
        have cn3 : w3.cell? ⟨Bn, 0, none⟩ = some (.int .i64 8) := (hB3.cell (p := ⟨Bn, 0, none⟩) hBn hXn).trans hs
        clear hJ3 hk3 HJ1 hB1 cl1 cn1 hR hy
        gi_wp2
        go_roundw
        case rel => exact ⟨k + 1, by omega, by go_num, HJ3.out, hB3⟩
        case measure => simp [intOf]; omega
      · gi_wp2
        refine bodyPost_ret (results_none rfl _ _ _) rfl ?_
        exact ⟨⟨_, rfl⟩, .inr ⟨_, trivial, hJx3⟩⟩
    · have hkI : ¬ ((k * 8 : Nat) : Int) < (len : Int) := by omega
      obtain rfl : k = (len + 7) / 8 := by omega
      gi_wp2
      go_end0
      exact ⟨⟨_, rfl⟩, Or.inl HJ.out⟩

end Go.Proofs.YtllhbgmadiclcaaGreatDoor
