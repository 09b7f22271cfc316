import Derived.Test.YtbbfboikigmghaaGreatDoorClB
import Derived.Deep.AppendLies
import Derived.Test.YtbbfboikigmghaaGreatDoorStB
import Derived.Maps.OwnSet
import Derived.ProofKit
namespace Go.Proofs.YtbbfboikigmghaaGreatDoor
open Go.RowKit
set_option linter.unusedVariables false
set_option maxHeartbeats 32000000
set_option maxRecDepth 100000
def mk6 (e : ByteArray × Option Md) (v : Value) : List Value :=
  match e.2 with
  | none => [.string e.1, .int .i64 0, .string ⟨#[]⟩, .slice none 0 0, .slice none 0 0, .bool false]
  | some d => [.string e.1, .int .i64 d.c, .string d.t, .slice none 0 0, v, .bool true]
theorem mk6_length (e : ByteArray × Option Md) (v : Value) : (mk6 e v).length = 6 := by unfold mk6; split <;> rfl
def msC : Ms -> (Nat -> Value) -> List Value
  | [], _ => []
  | e :: r, vs => mk6 e (vs 0) ++ msC r (fun i => vs (i + 1))
theorem msC_length : ∀ (ms : Ms) (vs : Nat -> Value), (msC ms vs).length = ms.length * 6
  | [], vs => rfl
  | e :: r, vs => by simp only [msC, List.length_append, mk6_length, msC_length r, List.length_cons]; omega
def mx (ms : Ms) (i : Nat) : ByteArray × Option Md := ms.getD i (ByteArray.empty, none)
theorem mx_cons_succ (e : ByteArray × Option Md) (r : Ms) (i : Nat) : mx (e :: r) (i + 1) = mx r i := by simp [mx]
theorem msC_get : ∀ (ms : Ms) (vs : Nat -> Value) (i j : Nat), i < ms.length -> j < 6 -> (msC ms vs)[i * 6 + j]? = (mk6 (mx ms i) (vs i))[j]?
  | [], vs, i, j, h, _ => by simp at h
  | e :: r, vs, 0, j, h, hj => by
    simp only [msC, Nat.zero_mul, Nat.zero_add]
    rw [List.getElem?_append_left (by rw [mk6_length]; exact hj)]
    simp [mx]
  | e :: r, vs, i + 1, j, h, hj => by
    simp only [msC]
    rw [List.getElem?_append_right (by rw [mk6_length]; omega), mk6_length, show (i + 1) * 6 + j - 6 = i * 6 + j from by omega, msC_get r (fun i => vs (i + 1)) i j (by simpa using h) hj, mx_cons_succ]
theorem msC_snoc : ∀ (ms : Ms) (e : ByteArray × Option Md) (vs : Nat -> Value), msC (ms ++ [e]) vs = msC ms vs ++ mk6 e (vs ms.length)
  | [], e, vs => by simp [msC]
  | x :: r, e, vs => by simp only [List.cons_append, msC, msC_snoc r, List.append_assoc, List.length_cons]
theorem msC_congr : ∀ (ms : Ms) (vs vs' : Nat -> Value), (∀ i, i < ms.length -> vs i = vs' i) -> msC ms vs = msC ms vs'
  | [], _, _, _ => rfl
  | e :: r, vs, vs', h => by
    simp only [msC]
    rw [h 0 (by simp), msC_congr r (fun i => vs (i + 1)) (fun i => vs' (i + 1)) (fun i hi => h (i + 1) (by simpa using hi))]
theorem mx_nm {ms : Ms} {i : Nat} : (mx ms i).1 = nx (nms ms) i := by
  unfold mx nx nms
  rw [List.getD_eq_getElem?_getD, List.getD_eq_getElem?_getD, List.getElem?_map]
  cases ms[i]? <;> rfl
theorem lk_at {ms : Ms} {nm : ByteArray} {i : Nat} (h : i < ms.length) (e : (mx ms i).1 = nm) (hf : ∀ j, j < i -> (mx ms j).1 ≠ nm) : lk ms nm = some (mx ms i).2 := by
  induction ms generalizing i with
  | nil => simp at h
  | cons x r ih =>
    obtain ⟨a, o⟩ := x
    cases i with
    | zero => have ha : a = nm := e; subst ha; rw [lk_cons_same]; rfl
    | succ i =>
      have ha : a ≠ nm := hf 0 (by omega)
      rw [lk_cons_other ha, mx_cons_succ]
      exact ih (by simpa using h) (by rw [mx_cons_succ] at e; exact e) (fun j hj => by have := hf (j + 1) (by omega); rw [mx_cons_succ] at this; exact this)
theorem lk_not {ms : Ms} {nm : ByteArray} (hf : ∀ j, j < ms.length -> (mx ms j).1 ≠ nm) : lk ms nm = none := by
  induction ms with
  | nil => rfl
  | cons x r ih =>
    obtain ⟨a, o⟩ := x
    have ha : a ≠ nm := hf 0 (by simp)
    rw [lk_cons_other ha]
    exact ih (fun j hj => by have := hf (j + 1) (by simpa using hj); rw [mx_cons_succ] at this; exact this)
theorem nodup_at {ms : Ms} (h : (nms ms).Nodup) {i j : Nat} (hi : i < ms.length) (hj : j < ms.length) (e : (mx ms i).1 = (mx ms j).1) : i = j := by
  rw [mx_nm, mx_nm] at e
  have hl : (nms ms).length = ms.length := by simp [nms]
  unfold nx at e
  rw [List.getD_eq_getElem?_getD, List.getD_eq_getElem?_getD, List.getElem?_eq_getElem (by omega), List.getElem?_eq_getElem (by omega)] at e
  simp only [Option.getD_some] at e
  have hp := List.pairwise_iff_getElem.mp h
  rcases Nat.lt_trichotomy i j with k | k | k
  · exact absurd e (hp i j (by omega) (by omega) k)
  · exact k
  · exact absurd e.symm (hp j i (by omega) (by omega) k)
def LooksO (w : World) (B : Nat) (v : Value) (ls : List G3) : Prop := ∃ xs, w.ownsRow B 174 3 v ls.length xs /\ FilledG ls ls.length xs
structure KS (B h : Nat) (w w' : World) : Prop where
  below : Below B w w'
  keep : ∀ b cs T, T ≠ 9 -> T ≠ 101 -> b ≠ h -> w.heap[b]? = some (.cells cs T (0, 0)) -> w'.heap[b]? = some (.cells cs T (0, 0))
theorem KS.trans {B h : Nat} {w w' w'' : World} (k : KS B h w w') (l : KS B h w' w'') : KS B h w w'' := ⟨k.below.trans l.below, fun b cs T h1 h2 h3 h4 => l.keep b cs T h1 h2 h3 (k.keep b cs T h1 h2 h3 h4)⟩
theorem KS.old {B h : Nat} {w w' : World} (hb : Below w.heap.size w w') (hB : B <= w.heap.size) : KS B h w w' := ⟨hb.mono hB, fun b cs T _ _ _ k => by rw [hb.block b (blk_lt k)]; exact k⟩
theorem KS.setH {B h : Nat} {w w' : World} (k : KS B h w w') (hB : B <= h) (j : Nat) (v : Value) : KS B h w (w'.setCell ⟨h, j, none⟩ v) := ⟨k.below.setCell (p := ⟨h, j, none⟩) hB _, fun b cs T h1 h2 h3 h4 => by rw [Below.heap_setCell w' ⟨h, j, none⟩ _ b h3]; exact k.keep b cs T h1 h2 h3 h4⟩
theorem KS.setN {B h b' : Nat} {w w' : World} (k : KS B h w w') (hB : B <= b') (hn : w.heap.size <= b') (j : Nat) (v : Value) : KS B h w (w'.setCell ⟨b', j, none⟩ v) := ⟨k.below.setCell (p := ⟨b', j, none⟩) hB _, fun b cs T h1 h2 h3 h4 => by rw [Below.heap_setCell w' ⟨b', j, none⟩ _ b (by have := blk_lt h4; simp; omega)]; exact k.keep b cs T h1 h2 h3 h4⟩
theorem KS.grown {B h T0 n sz : Nat} {w w' : World} {v : Value} {xs : List Value} (hT : T0 = 9 \/ T0 = 101) (ho : w.ownsRow B T0 sz v n xs) (hg : w.grownBy w' v.ownBlock) (hB : B <= w.heap.size) : KS B h w w' := by
  refine ⟨(Below.refl _ _).grown hg hB (fun k hk => (ho.lt k hk).1), fun b cs T h1 h2 h3 h4 => ?_⟩
  rw [hg.block b (blk_lt h4) ?_]
  · exact h4
  · intro e
    rcases ho.2 with ⟨rfl, _⟩ | ⟨g, cap, cur, rfl, hgB, hh, _⟩
    · simp [Value.ownBlock] at e
    · simp [Value.ownBlock] at e
      subst e
      rw [h4] at hh
      injection hh with hh
      injection hh with _ h5
      rcases hT with e | e
      · exact h1 (h5.trans e)
      · exact h2 (h5.trans e)
structure Shop (B h : Nat) (sv tv : Value) (w : World) (ms : Ms) (st : List ByteArray) (mv kv : Value) (vs : Nat -> Value) : Prop where
  hB : B <= h
  blk : w.heap[h]? = some (.cells #[sv, tv, mv, kv, .int .i64 0, .string ⟨#[]⟩, .slice none 0 0, .bool false] 98 (0, 0))
  row : w.ownsRow B 101 6 mv ms.length (msC ms vs)
  stk : w.ownsRow B 9 1 kv st.length (strV st)
  lks : ∀ i d, i < ms.length -> (mx ms i).2 = some d -> LooksO w B (vs i) d.ls
theorem LooksO.same {w w' : World} {B : Nat} {v : Value} {ls : List G3} (h : LooksO w B v ls) (hk : ∀ (b : Nat) (cs : Array Value), w.heap[b]? = some (Obj.cells cs 174 (0, 0)) -> w'.heap[b]? = some (Obj.cells cs 174 (0, 0))) : LooksO w' B v ls := by
  obtain ⟨xs, h1, h2⟩ := h
  refine ⟨xs, ⟨h1.1, ?_⟩, h2⟩
  rcases h1.2 with k | ⟨g, cap, cur, e, hg, hh, r⟩
  · exact Or.inl k
  · exact Or.inr ⟨g, cap, cur, e, hg, hk _ _ hh, r⟩
theorem LooksO.below {w w' : World} {B : Nat} {v : Value} {ls : List G3} (h : LooksO w B v ls) (hb : Below w.heap.size w w') : LooksO w' B v ls := h.same fun b cs k => by rw [hb.block b (blk_lt k)]; exact k
theorem Shop.below {B h : Nat} {sv tv : Value} {w w' : World} {ms : Ms} {st : List ByteArray} {mv kv : Value} {vs : Nat -> Value} (s : Shop B h sv tv w ms st mv kv vs) (hb : Below w.heap.size w w') : Shop B h sv tv w' ms st mv kv vs :=
  ⟨s.hB, by rw [hb.block h (blk_lt s.blk)]; exact s.blk, ownsRow_below s.row hb, ownsRow_below s.stk hb, fun i d hi e => (s.lks i d hi e).below hb⟩
theorem Shop.cells {B h : Nat} {sv tv : Value} {w : World} {ms : Ms} {st : List ByteArray} {mv kv : Value} {vs : Nat -> Value} (s : Shop B h sv tv w ms st mv kv vs) : w.cell? ⟨h, 0, none⟩ = some sv /\ w.cell? ⟨h, 1, none⟩ = some tv /\ w.cell? ⟨h, 2, none⟩ = some mv /\ w.cell? ⟨h, 3, none⟩ = some kv /\ w.cell? ⟨h, 7, none⟩ = some (.bool false) /\ ∀ j, w.frozen? ⟨h, j, none⟩ = false := by
  refine ⟨?_, ?_, ?_, ?_, ?_, fun j => Lib.frozen_of_heap s.blk j⟩ <;> rw [Lib.cell_of_heap s.blk] <;> rfl
theorem Shop.at_ {B h : Nat} {sv tv : Value} {w : World} {ms : Ms} {st : List ByteArray} {mv kv : Value} {vs : Nat -> Value} (s : Shop B h sv tv w ms st mv kv vs) : ∃ a cap, mv = .slice a ms.length cap /\ ∀ i, i < ms.length -> ∃ g, a = some ⟨g, 0, none⟩ /\ ∀ j, j < 6 -> w.cell? ⟨g, i * 6 + j, none⟩ = (mk6 (mx ms i) (vs i))[j]? := by
  have hr := s.row
  rcases hr.2 with ⟨e, h0⟩ | ⟨g, cap, cur, rfl, _⟩
  · exact ⟨none, 0, by rw [e, h0], fun i hi => by omega⟩
  · exact ⟨some ⟨g, 0, none⟩, cap, rfl, fun i hi => ⟨g, rfl, fun j hj => by rw [hr.cellAt (i * 6 + j) (by omega), msC_get ms vs i j hi hj]⟩⟩
theorem find_any (B h : Nat) (sv tv : Value) (ms : Ms) (st : List ByteArray) (mv kv : Value) (vs : Nat -> Value) (nm : ByteArray) (w : World) (s : Shop B h sv tv w ms st mv kv vs) (hl : ms.length <= 1048576) :
    Calls Tryz.prog 85 #[.pointer (some ⟨h, 0, none⟩), .string nm] w fun e w' => w' = w /\ ((∃ i : Nat, e = .returned (.int .i64 i) /\ i < ms.length /\ (mx ms i).1 = nm /\ ∀ j, j < i -> (mx ms j).1 ≠ nm) \/ (e = .returned (.int .i64 (-1)) /\ ∀ j, j < ms.length -> (mx ms j).1 ≠ nm)) := by
  obtain ⟨_, _, c2, _⟩ := s.cells
  obtain ⟨a, cap, rfl, hat⟩ := s.at_
  have HAT : Hid (∀ i, i < ms.length -> ∃ g, a = some ⟨g, 0, none⟩ /\ ∀ j, j < 6 -> w.cell? ⟨g, i * 6 + j, none⟩ = (mk6 (mx ms i) (vs i))[j]?) := hat
  clear hat s
  go_enter Tryz.func85, Tryz.ntmps85
  go_wp2
  go_loop [5] (fun i => ∃ k : Nat, k <= ms.length /\ i = .int .i64 k /\ Hid (∀ j, j < k -> (mx ms j).1 ≠ nm)) (fun i => ms.length - (intOf i).toNat)
  case atStart => exact ⟨0, Nat.zero_le _, rfl, (fun j hj => by omega : ∀ j, j < 0 -> (mx ms j).1 ≠ nm)⟩
  case round =>
    obtain ⟨k, hk, rfl, HK⟩ := hrel
    by_cases hlt : k < ms.length
    · have hkI : (k : Int) < (ms.length : Int) := by omega
      obtain ⟨g, rfl, hc⟩ := HAT.out k hlt
      have e0 := hc 0 (by omega)
      have e1 : w.cell? ⟨g, k * 6, none⟩ = some (.string (mx ms k).1) := by
        rw [Nat.add_zero] at e0
        rw [e0]
        unfold mk6
        split <;> rfl
      clear e0 hc
      have HQ : Hid ((mx ms k).1 = nm -> ∃ i : Nat, (Ending.returned (.int .i64 k) : Ending) = .returned (.int .i64 i) /\ i < ms.length /\ (mx ms i).1 = nm /\ ∀ j, j < i -> (mx ms j).1 ≠ nm) := fun q => ⟨k, rfl, hlt, q, HK.out⟩
      have HN : Hid ((mx ms k).1 ≠ nm -> ∀ j, j < k + 1 -> (mx ms j).1 ≠ nm) := fun q => ext_succ HK.out q
      generalize (mx ms k).1 = x at e1 HQ HN
      by_cases q : x = nm
      · have dq := str_eq q
        have HO : Hid _ := HQ.out q
        clear q HQ HN
        go_wp2_with fail
        go_ret
        exact ⟨rfl, Or.inl HO.out⟩
      · have dq := str_ne q
        have HO : Hid (∀ j, j < k + 1 -> (mx ms j).1 ≠ nm) := HN.out q
        clear q HQ HN
        go_wp2_with fail
        go_round
        case rel => exact ⟨k + 1, by omega, by go_num, HO.out⟩
        case measure => simp [intOf]; omega
    · have hkI : ¬ (k : Int) < (ms.length : Int) := by omega
      have HO : Hid (∀ j, j < ms.length -> (mx ms j).1 ≠ nm) := fun j hj => HK.out j (by omega)
      go_wp2_with fail
      go_ret
      exact ⟨rfl, Or.inr ⟨rfl, HO.out⟩⟩
abbrev Hs (n : Nat) (s : ByteArray) : ByteArray := ⟨(digs (hash s.data.toList) n).toArray⟩
def NoClash (n : Nat) (ss : List ByteArray) (k : Nat) : Prop := ∀ j, j < k -> ∀ i, i < j -> Hs n (nx ss i) = Hs n (nx ss j) -> nx ss i = nx ss j
def ClashAt (n : Nat) (ss : List ByteArray) (i j : Nat) : Prop :=
  i < j /\ j < ss.length /\ NoClash n ss j /\ Hs n (nx ss i) = Hs n (nx ss j) /\ nx ss i ≠ nx ss j /\ ∀ i', i' < i -> Hs n (nx ss i') = Hs n (nx ss j) -> nx ss i' = nx ss j
def ClashOut (n : Nat) (ss : List ByteArray) (A B : ByteArray) (ok : Bool) : Prop :=
  (ok = false /\ A = ⟨#[]⟩ /\ B = ⟨#[]⟩ /\ NoClash n ss ss.length) \/ (ok = true /\ ∃ i j, ClashAt n ss i j /\ A = nx ss i /\ B = nx ss j)
theorem ClashAt.not_none {n : Nat} {ss : List ByteArray} {i j : Nat} (h : ClashAt n ss i j) (h' : NoClash n ss ss.length) : False :=
  h.2.2.2.2.1 (h' j h.2.1 i h.1 h.2.2.2.1)
theorem ClashAt.unique {n : Nat} {ss : List ByteArray} {i j i' j' : Nat} (h : ClashAt n ss i j) (h' : ClashAt n ss i' j') : i = i' /\ j = j' := by
  have hj : j = j' := by
    rcases Nat.lt_trichotomy j j' with hl | hl | hl
    · exact absurd (h'.2.2.1 j hl i h.1 h.2.2.2.1) h.2.2.2.2.1
    · exact hl
    · exact absurd (h.2.2.1 j' hl i' h'.1 h'.2.2.2.1) h'.2.2.2.2.1
  subst hj
  refine ⟨?_, rfl⟩
  rcases Nat.lt_trichotomy i i' with hl | hl | hl
  · exact absurd (h'.2.2.2.2.2 i hl h.2.2.2.1) h.2.2.2.2.1
  · exact hl
  · exact absurd (h.2.2.2.2.2 i' hl h'.2.2.2.1) h'.2.2.2.2.1
theorem ClashOut.unique {n : Nat} {ss : List ByteArray} {A B A' B' : ByteArray} {ok ok' : Bool} (h : ClashOut n ss A B ok) (h' : ClashOut n ss A' B' ok') : A = A' /\ B = B' /\ ok = ok' := by
  rcases h with ⟨rfl, rfl, rfl, hn⟩ | ⟨rfl, i, j, hc, rfl, rfl⟩ <;> rcases h' with ⟨rfl, rfl, rfl, hn'⟩ | ⟨rfl, i', j', hc', rfl, rfl⟩
  · exact ⟨rfl, rfl, rfl⟩
  · exact (hc'.not_none hn).elim
  · exact (hc.not_none hn').elim
  · obtain ⟨rfl, rfl⟩ := hc.unique hc'
    exact ⟨rfl, rfl, rfl⟩
theorem noClash_succ {n : Nat} {ss : List ByteArray} {j : Nat} (h : NoClash n ss j) (h' : ∀ i, i < j -> Hs n (nx ss i) = Hs n (nx ss j) -> nx ss i = nx ss j) : NoClash n ss (j + 1) := by
  intro j' hj' i hi he
  rcases Nat.lt_or_ge j' j with hl | hl
  · exact h j' hl i hi he
  · obtain rfl : j' = j := by omega
    exact h' i hi he
def hcells (n : Nat) (ss : List ByteArray) (j : Nat) : List Value := (List.range j).map fun i => Value.string (Hs n (nx ss i))
theorem hcells_length (n : Nat) (ss : List ByteArray) (j : Nat) : (hcells n ss j).length = j := by simp [hcells]
theorem hcells_succ (n : Nat) (ss : List ByteArray) (j : Nat) : hcells n ss (j + 1) = hcells n ss j ++ [Value.string (Hs n (nx ss j))] := by simp [hcells, List.range_succ]
theorem hcells_get (n : Nat) (ss : List ByteArray) (j i : Nat) (h : i < j) : (hcells n ss j)[i]? = some (.string (Hs n (nx ss i))) := by simp [hcells, h]
theorem specSum_H (s : ByteArray) (n : Nat) (w : World) (hs : s.size <= 1048576) (h1 : 1 <= n) (h2 : n <= 8) :
    Calls Tryz.prog 20 #[.string s, .int .i64 n] w fun e w' => e = .returned (.string (Hs n s)) /\ Below w.heap.size w w' := specSum_yes s n w hs h1 h2
theorem Strs.at {w : World} {a : Option Addr} {ss : List ByteArray} (h : Strs w a ss) (i : Nat) (hi : i < ss.length) : ∃ b off, a = some ⟨b, off, none⟩ /\ w.cell? ⟨b, off + i, none⟩ = some (.string (Go.Proofs.YtbbfboikigmghaaGreatDoor.nx ss i)) := h i hi
section
open Go.Maps
theorem Tryz.laidOut : laidOutB Tryz.prog = true := by kernel_rfl
theorem law8 : Keyed Tryz.prog 116 := Keyed.of_law (deep_law_laid Tryz.laidOut (m := 66) (by omega) (of_decide_eq_true (by kernel_rfl)) (by kernel_rfl) (by kernel_rfl))
theorem zero3 (w : World) : (zeroValue 3).run Tryz.prog w = .ok (.int .i64 0) w := by kernel_rfl
def kl (V : Int) (n : Nat) : Lit :=
  .string (keyBytes [.int .u8 (cell8 V n 0), .int .u8 (cell8 V n 1), .int .u8 (cell8 V n 2), .int .u8 (cell8 V n 3), .int .u8 (cell8 V n 4), .int .u8 (cell8 V n 5), .int .u8 (cell8 V n 6), .int .u8 (cell8 V n 7)])
theorem cell8_wf (V : Int) (n j : Nat) : (Lit.int .u8 (cell8 V n j)).wf = true := by
  refine WalkArith.wf_u8 ?_
  unfold cell8
  split <;> omega
theorem key8 (V : Int) (n : Nat) : keyOf Tryz.prog 116 (.agg (cells8 V n)) = some (kl V n) := by
  have hk : Tryz.prog.keyType 116 = true := by kernel_rfl
  have hz : ∃ d, Tryz.prog.types.size = d + 1 := ⟨Tryz.prog.types.size - 1, by have : 116 < Tryz.prog.types.size := of_decide_eq_true (by kernel_rfl); omega⟩
  have hc : Tryz.prog.cellsOf 116 = 8 := by kernel_rfl
  have hc5 : Tryz.prog.cellsOf 5 = 1 := by kernel_rfl
  obtain ⟨d, hd⟩ := hz
  simp [keyOf, Tryz.underlying116, hk, Value.formed, hc, hc5, hd, cells8, Value.cells, Program.keyLits, Tryz.underlying5, cell8_wf, kl, List.range, List.range.loop]
theorem cell8_of_digs {V V' : Int} (hV : 0 <= V) (hV' : 0 <= V') {n : Nat} (h : digs V n = digs V' n) (j : Nat) : cell8 V n j = cell8 V' n j := by
  by_cases hj : j < n
  · have e1 := cell8_digs V hV n j (by rw [digs_length]; exact hj)
    have e2 := cell8_digs V' hV' n j (by rw [digs_length]; exact hj)
    simp only [h] at e1
    have := e1.trans e2.symm
    simpa using this
  · simp [cell8, hj]
theorem digs_of_cell8 {V V' : Int} (hV : 0 <= V) (hV' : 0 <= V') {n : Nat} (h : ∀ j, j < n -> cell8 V n j = cell8 V' n j) : digs V n = digs V' n := by
  apply List.ext_getElem (by simp [digs_length])
  intro j h1 h2
  have hj : j < n := by simpa [digs_length] using h1
  have e1 := cell8_digs V hV n j h1
  have e2 := cell8_digs V' hV' n j h2
  rw [h j hj] at e1
  have := e1.symm.trans e2
  simp only [Value.int.injEq, true_and] at this
  apply UInt8.toNat_inj.1
  omega
theorem kl_iff (s t : ByteArray) (n : Nat) (hn : n <= 8) : kl (hash s.data.toList) n = kl (hash t.data.toList) n ↔ Hs n s = Hs n t := by
  obtain ⟨hV1, _⟩ := hash_bd s.data.toList
  obtain ⟨hW1, _⟩ := hash_bd t.data.toList
  unfold Hs
  generalize hash s.data.toList = V at *
  generalize hash t.data.toList = V' at *
  constructor
  · intro h
    have h' : Value.agg (cells8 V n) = .agg (cells8 V' n) := law8.inj (key8 V n) (by rw [h]; exact key8 V' n)
    simp only [Value.agg.injEq, cells8] at h'
    simp at h'
    have : digs V n = digs V' n := digs_of_cell8 hV1 hW1 (fun j hj => by
      rcases (show j = 0 \/ j = 1 \/ j = 2 \/ j = 3 \/ j = 4 \/ j = 5 \/ j = 6 \/ j = 7 from by omega) with rfl | rfl | rfl | rfl | rfl | rfl | rfl | rfl <;> simp only [h'])
    rw [this]
  · intro h
    have hd : digs V n = digs V' n := by simpa using h
    unfold kl
    simp only [cell8_of_digs hV1 hW1 hd]
def kn (n : Nat) (ss : List ByteArray) (i : Nat) : Lit := kl (hash (nx ss i).data.toList) n
theorem kn_iff {n : Nat} (hn : n <= 8) {ss : List ByteArray} {i j : Nat} : kn n ss i = kn n ss j ↔ Hs n (nx ss i) = Hs n (nx ss j) := kl_iff _ _ n hn
def int0 : DataW Unit := .lit (.int .i64 0)
structure Firsts (n : Nat) (ss : List ByteArray) (j : Nat) (D : DataW Unit) : Prop where
  only : ∀ K, Maps.has D K = true -> ∃ i, i < j /\ K = kn n ss i
  there : ∀ i, i < j -> Maps.has D (kn n ss i) = true
  least : ∀ i, i < j -> ∃ f : Nat, f <= i /\ kn n ss f = kn n ss i /\ (∀ i', i' < f -> kn n ss i' ≠ kn n ss i) /\ D.atKey (kn n ss i) int0 = .lit (.int .i64 f)
theorem kn_key (n : Nat) (ss : List ByteArray) (i : Nat) : WideAt.IsKeyLit (kn n ss i) := law8.key (key8 _ n)
theorem firsts_start (n : Nat) (ss : List ByteArray) : Firsts n ss 0 (.map []) := ⟨fun K h => by simp [Maps.has] at h, fun i h => by omega, fun i h => by omega⟩
theorem firsts_put {n : Nat} {ss : List ByteArray} {j : Nat} {D : DataW Unit} (h : Firsts n ss j D) (hm : IsMap D) (hh : Maps.has D (kn n ss j) = false) : Firsts n ss (j + 1) (D.put (kn n ss j) (.lit (.int .i64 j))) := by
  have hne : ∀ i, i < j -> kn n ss i ≠ kn n ss j := fun i hi e => by have := h.there i hi; rw [e, hh] at this; cases this
  refine ⟨fun K hK => ?_, fun i hi => ?_, fun i hi => ?_⟩
  · by_cases e : K = kn n ss j
    · exact ⟨j, by omega, e⟩
    · rw [has_put_other e] at hK
      obtain ⟨i, hi, he⟩ := h.only K hK
      exact ⟨i, by omega, he⟩
  · rcases Nat.lt_or_ge i j with hl | hl
    · rw [has_put_other (hne i hl)]; exact h.there i hl
    · obtain rfl : i = j := by omega
      exact has_put_same hm (kn_key n ss i) _
  · rcases Nat.lt_or_ge i j with hl | hl
    · obtain ⟨f, h1, h2, h3, h4⟩ := h.least i hl
      exact ⟨f, h1, h2, h3, by rw [atKey_put_other (hne i hl)]; exact h4⟩
    · obtain rfl : i = j := by omega
      exact ⟨i, Nat.le_refl _, rfl, hne, atKey_put_same hm (kn_key n ss i) _ _⟩
theorem firsts_find {n : Nat} {ss : List ByteArray} {j : Nat} {D : DataW Unit} (h : Firsts n ss j D) (hh : Maps.has D (kn n ss j) = true) :
    ∃ f : Nat, f < j /\ kn n ss f = kn n ss j /\ (∀ i', i' < f -> kn n ss i' ≠ kn n ss j) /\ D.atKey (kn n ss j) int0 = .lit (.int .i64 f) := by
  obtain ⟨i, hi, he⟩ := h.only _ hh
  obtain ⟨f, h1, h2, h3, h4⟩ := h.least i hi
  rw [he]
  exact ⟨f, by omega, h2, h3, h4⟩
theorem firsts_keep {n : Nat} {ss : List ByteArray} {j : Nat} {D : DataW Unit} (h : Firsts n ss j D) (hh : Maps.has D (kn n ss j) = true) : Firsts n ss (j + 1) D := by
  obtain ⟨f, h1, h2, h3, h4⟩ := firsts_find h hh
  refine ⟨fun K hK => ?_, fun i hi => ?_, fun i hi => ?_⟩
  · obtain ⟨i, hi, he⟩ := h.only K hK
    exact ⟨i, by omega, he⟩
  · rcases Nat.lt_or_ge i j with hl | hl
    · exact h.there i hl
    · obtain rfl : i = j := by omega
      exact hh
  · rcases Nat.lt_or_ge i j with hl | hl
    · exact h.least i hl
    · obtain rfl : i = j := by omega
      exact ⟨f, by omega, h2, h3, h4⟩
end
section
open Go.Maps
theorem below3 {B : Nat} {w wr : World} (h : Below B w wr) (hB : B <= wr.heap.size) (o1 o2 o3 : Obj) : Below B w (((wr.alloc o1).alloc o2).alloc o3) :=
  ((h.alloc hB _).alloc (by simp; omega) _).alloc (by simp; omega) _
theorem find_eq {D : DataW Unit} {K : Lit} {f : Nat} {c : Int} (h : Hid (D.atKey K int0 = .lit (.int .i64 f))) (h' : D.atKey K (.lit (.int .i64 0)) = .lit (.int .i64 c)) : c = f := by
  have h := h.out
  unfold int0 at h
  rw [h'] at h
  simpa using h
theorem clashOfAny_yes (a : Option Addr) (cap : Nat) (ss : List ByteArray) (n : Nat) (w : World) (hc : Strs w a ss) (hl : ss.length <= 1048576) (hzz : ∀ j, (nx ss j).size <= 1048576) (h1 : 1 <= n) (h2 : n <= 8) :
    Calls Tryz.prog 30 #[.slice a ss.length cap, .int .i64 n] w fun e w' => Below w.heap.size w w' /\ ∃ A B ok, e = .returned (.tuple #[.string A, .string B, .bool ok]) /\ ClashOut n ss A B ok := by
  have hmm := @run_makeMap Tryz.prog
  go_enter Tryz.func30, Tryz.ntmps30
  go_wp2_with (first | (go_at_call 56; refine (validWidth_yes _ _ (by omega) (by omega)).mono ?_; rintro e w' ⟨rfl, rfl⟩))
  go_loopw [19] (fun i wr => ∃ j : Nat, ∃ D : DataW Unit, j <= ss.length /\ i = .int .i64 j /\ wr.ownsMap Tryz.prog 116 (plainElem Tryz.prog 3) w.heap.size j D /\ Firsts n ss j D /\ NoClash n ss j /\ Below w.heap.size w wr) (fun i _ => ss.length - (intOf i).toNat)
  case atStart => exact ⟨0, .map [], Nat.zero_le _, rfl, World.ownsMap_made _ _ _ _, firsts_start n ss, fun j hj => by omega, (Below.refl _ _).alloc (Nat.le_refl _) _⟩
  case round =>
    obtain ⟨j, D, hj, rfl, hown, hfi, hno, hbel⟩ := hrel
    by_cases hlt : j < ss.length
    · obtain ⟨b, off, rfl, hcj⟩ := (hc.below hbel).at j hlt
      have hsz : (nx ss j).size <= 1048576 := hzz j
      obtain ⟨s, hs⟩ : ∃ s, s = nx ss j := ⟨_, rfl⟩
      have HF : Hid (Firsts n ss j D) := hfi
      have Hno : Hid (NoClash n ss j) := hno
      obtain ⟨V, hV⟩ : ∃ V, hash s.data.toList = V := ⟨_, rfl⟩
      have HV : Hid (hash s.data.toList = V) := hV
      have hkn : kl V n = kn n ss j := by rw [<- hV, hs]; rfl
      have hkey : keyOf Tryz.prog 116 (.agg (cells8 V n)) = some (kn n ss j) := by rw [<- hkn]; exact key8 V n
      rw [<- hs] at hcj hsz
      have HS : Hid (s = nx ss j) := hs
      clear hs hV hkn hno
      have hB : w.heap.size <= wr.heap.size := hbel.size
      by_cases hh : Maps.has D (kn n ss j) = true
      · obtain ⟨f, f1, f2, f3, f4⟩ := firsts_find hfi hh
        have hcf : wr.cell? ⟨b, off + f, none⟩ = some (.string (nx ss f)) := by
          obtain ⟨b', off', he, h⟩ := (hc.below hbel).at f (by omega)
          cases he; exact h
        have HAT : Hid (D.atKey (kn n ss j) int0 = .lit (.int .i64 f)) := f4
        have HH : Hid (Maps.has D (kn n ss j) = true) := hh
        have HL : Hid (kn n ss f = kn n ss j /\ ∀ i', i' < f -> kn n ss i' ≠ kn n ss j) := ⟨f2, f3⟩
        have hcf3 : ∀ o1 o2 o3 : Obj, (((wr.alloc o1).alloc o2).alloc o3).cell? ⟨b, off + f, none⟩ = some (.string (nx ss f)) := fun o1 o2 o3 =>
          ((below3 (Below.refl wr.heap.size wr) (Nat.le_refl _) o1 o2 o3).cell (p := ⟨b, off + f, none⟩) (World.block_lt_of_cell? _ _ hcf)).trans hcf
        clear f4 f2 f3 hfi hc hcf
        obtain ⟨t, ht⟩ : ∃ t, t = nx ss f := ⟨_, rfl⟩
        rw [<- ht] at hcf3
        have HT : Hid (t = nx ss f) := ht
        clear ht
        by_cases hT : t = s
        · have e2 := str_eq hT
          have HE : Hid (t = s) := hT
          clear hT
          go_wp2_with (first | (go_at_call 57; refine (sumBytes_lit s n V _ HV hsz h1 h2).mono ?_; rintro e w' ⟨rfl, rfl⟩) | (at_lookup; refine wpList_lookup_own_ok_int _ rfl (.tmp 28) (.tmp 29) 115 rfl 116 3 .i64 law8 Tryz.underlying115 Tryz.underlying3 (zero3 _) w.heap.size j D rfl (((hown.alloc _).alloc _).alloc _) _ (kn n ss j) rfl hkey ?_; intro c hat hwc; obtain rfl : c = (f : Int) := find_eq HAT hat; clear hat hwc))
          go_roundw
          case rel =>
            refine ⟨j + 1, D, by omega, by go_num, (((hown.alloc _).alloc _).alloc _).mono (by omega), firsts_keep HF.out HH.out, noClash_succ Hno.out (fun i hi he => ?_), below3 hbel hB _ _ _⟩
            have hif : Hs n (nx ss i) = Hs n (nx ss f) := he.trans ((kn_iff h2).1 HL.out.1).symm
            have hfj : nx ss f = nx ss j := by rw [<- HT.out, <- HS.out]; exact HE.out
            rw [<- hfj]
            rcases Nat.lt_trichotomy i f with hl' | hl' | hl'
            · exact Hno.out f f1 i hl' hif
            · rw [hl']
            · exact (Hno.out i hi f hl' hif.symm).symm
          case measure => simp [intOf]; omega
        · have e2 := str_ne hT
          have HE : Hid (t ≠ s) := hT
          clear hT
          go_wp2_with (first | (go_at_call 57; refine (sumBytes_lit s n V _ HV hsz h1 h2).mono ?_; rintro e w' ⟨rfl, rfl⟩) | (at_lookup; refine wpList_lookup_own_ok_int _ rfl (.tmp 28) (.tmp 29) 115 rfl 116 3 .i64 law8 Tryz.underlying115 Tryz.underlying3 (zero3 _) w.heap.size j D rfl (((hown.alloc _).alloc _).alloc _) _ (kn n ss j) rfl hkey ?_; intro c hat hwc; obtain rfl : c = (f : Int) := find_eq HAT hat; clear hat hwc))
          go_ret3
          refine ⟨below3 hbel hB _ _ _, t, s, true, rfl, Or.inr ⟨rfl, f, j, ⟨f1, hlt, Hno.out, (kn_iff h2).1 HL.out.1, ?_, ?_⟩, HT.out, HS.out⟩⟩
          · rw [<- HT.out, <- HS.out]; exact HE.out
          · intro i' hi' he; exact absurd ((kn_iff h2).2 he) (HL.out.2 i' hi')
      · have hh : Maps.has D (kn n ss j) = false := by simpa using hh
        have HH : Hid (Maps.has D (kn n ss j) = false) := hh
        clear hfi hc
        go_wp2_with (first | (go_at_call 57; refine (sumBytes_lit s n V _ HV hsz h1 h2).mono ?_; rintro e w' ⟨rfl, rfl⟩) | (at_lookup; refine wpList_lookup_own_ok_int _ rfl (.tmp 28) (.tmp 29) 115 rfl 116 3 .i64 law8 Tryz.underlying115 Tryz.underlying3 (zero3 _) w.heap.size j D rfl (((hown.alloc _).alloc _).alloc _) _ (kn n ss j) rfl hkey ?_; intro c hat hwc) | (at_mapUpdate; refine wpList_mapUpdate_own _ rfl (.tmp 35) (.tmp 36) (.tmp 37) 115 rfl 116 3 law8 Tryz.underlying115 (plainElem Tryz.prog 3) w.heap.size j D rfl (((hown.alloc _).alloc _).alloc _) (by unfold maxLen; omega) _ _ (kn n ss j) rfl rfl hkey (.lit (.int .i64 j)) [] (plainElem_int Tryz.underlying3 (WalkArith.wf_i64 (by omega))) ?_; intro w1 hown1 hgrow1))
        go_roundw
        case rel => exact ⟨j + 1, _, by omega, by go_num, hown1, firsts_put HF.out hown.isMap HH.out, noClash_succ Hno.out (fun i hi he => by have h := HF.out.there i hi; rw [(kn_iff h2).2 he, HH.out] at h; cases h), (below3 hbel hB _ _ _).grown hgrow1 (by simp; omega) (fun k hk => by cases hk; exact Nat.le_refl _)⟩
        case measure => simp [intOf]; omega
    · have ej : j = ss.length := by omega
      have HN : Hid (NoClash n ss ss.length) := by rw [<- ej]; exact hno
      clear ej hno
      go_wp2
      go_ret3
      exact ⟨hbel, ⟨#[]⟩, ⟨#[]⟩, false, rfl, Or.inl ⟨rfl, rfl, rfl, HN.out⟩⟩
theorem clashOfAny_no (a : Option Addr) (len cap : Nat) (n : Int) (w : World) (h : n < 1 \/ 8 < n) :
    Calls Tryz.prog 30 #[.slice a len cap, .int .i64 n] w fun e w' => w = w' /\ e = .returned (.tuple #[.string ⟨#[]⟩, .string ⟨#[]⟩, .bool false]) := by
  go_enter Tryz.func30, Tryz.ntmps30
  go_wp2_with (first | (go_at_call 56; refine (validWidth_no _ _ h).mono ?_; rintro e w' ⟨rfl, rfl⟩))
  go_ret3
  exact ⟨rfl, rfl⟩
end
end Go.Proofs.YtbbfboikigmghaaGreatDoor
