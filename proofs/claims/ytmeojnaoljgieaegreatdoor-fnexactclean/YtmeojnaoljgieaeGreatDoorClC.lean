import Derived.Test.YtmeojnaoljgieaeGreatDoorClB
import Derived.Deep.AppendLies
namespace Go.Proofs.YtmeojnaoljgieaeGreatDoor
open Go.RowKit
set_option linter.unusedVariables false
def mk6 (e : ByteArray × Option Md) (v : Value) : List Value :=
  match e.2 with
  | none => [.string e.1, .int .i64 0, .string ⟨#[]⟩, .slice none 0 0, .slice none 0 0, .bool false]
  | some d => [.string e.1, .int .i64 d.c, .string d.t, .slice none 0 0, v, .bool true]
theorem mk6_length (e : ByteArray × Option Md) (v : Value) : (mk6 e v).length = 6 := by unfold mk6; split <;> rfl
def msC : Ms → (Nat → Value) → List Value
  | [], _ => []
  | e :: r, vs => mk6 e (vs 0) ++ msC r (fun i => vs (i + 1))
theorem msC_length : ∀ (ms : Ms) (vs : Nat → Value), (msC ms vs).length = ms.length * 6
  | [], vs => rfl
  | e :: r, vs => by simp only [msC, List.length_append, mk6_length, msC_length r, List.length_cons]; omega
def mx (ms : Ms) (i : Nat) : ByteArray × Option Md := ms.getD i (ByteArray.empty, none)
theorem mx_cons_succ (e : ByteArray × Option Md) (r : Ms) (i : Nat) : mx (e :: r) (i + 1) = mx r i := by simp [mx]
theorem msC_get : ∀ (ms : Ms) (vs : Nat → Value) (i j : Nat), i < ms.length → j < 6 → (msC ms vs)[i * 6 + j]? = (mk6 (mx ms i) (vs i))[j]?
  | [], vs, i, j, h, _ => by simp at h
  | e :: r, vs, 0, j, h, hj => by
    simp only [msC, Nat.zero_mul, Nat.zero_add]
    rw [List.getElem?_append_left (by rw [mk6_length]; exact hj)]
    simp [mx]
  | e :: r, vs, i + 1, j, h, hj => by
    simp only [msC]
    rw [List.getElem?_append_right (by rw [mk6_length]; omega), mk6_length, show (i + 1) * 6 + j - 6 = i * 6 + j from by omega, msC_get r (fun i => vs (i + 1)) i j (by simpa using h) hj, mx_cons_succ]
theorem msC_snoc : ∀ (ms : Ms) (e : ByteArray × Option Md) (vs : Nat → Value), msC (ms ++ [e]) vs = msC ms vs ++ mk6 e (vs ms.length)
  | [], e, vs => by simp [msC]
  | x :: r, e, vs => by simp only [List.cons_append, msC, msC_snoc r, List.append_assoc, List.length_cons]
theorem msC_congr : ∀ (ms : Ms) (vs vs' : Nat → Value), (∀ i, i < ms.length → vs i = vs' i) → msC ms vs = msC ms vs'
  | [], _, _, _ => rfl
  | e :: r, vs, vs', h => by
    simp only [msC]
    rw [h 0 (by simp), msC_congr r (fun i => vs (i + 1)) (fun i => vs' (i + 1)) (fun i hi => h (i + 1) (by simpa using hi))]
theorem mx_nm {ms : Ms} {i : Nat} : (mx ms i).1 = nx (nms ms) i := by
  unfold mx nx nms
  rw [List.getD_eq_getElem?_getD, List.getD_eq_getElem?_getD, List.getElem?_map]
  cases ms[i]? <;> rfl
theorem lk_at {ms : Ms} {nm : ByteArray} {i : Nat} (h : i < ms.length) (e : (mx ms i).1 = nm) (hf : ∀ j, j < i → (mx ms j).1 ≠ nm) : lk ms nm = some (mx ms i).2 := by
  induction ms generalizing i with
  | nil => simp at h
  | cons x r ih =>
    obtain ⟨a, o⟩ := x
    cases i with
    | zero => have ha : a = nm := e; subst ha; rw [lk_cons_same]; rfl
    | succ i =>
      have ha : a ≠ nm := hf 0 (by omega)
      rw [lk_cons_other ha, mx_cons_succ]
      exact ih (by simpa using h) (by rw [mx_cons_succ] at e; exact e) (fun j hj => by have := hf (j + 1) (by omega); rw [mx_cons_succ] at this; exact this)
theorem lk_not {ms : Ms} {nm : ByteArray} (hf : ∀ j, j < ms.length → (mx ms j).1 ≠ nm) : lk ms nm = none := by
  induction ms with
  | nil => rfl
  | cons x r ih =>
    obtain ⟨a, o⟩ := x
    have ha : a ≠ nm := hf 0 (by simp)
    rw [lk_cons_other ha]
    exact ih (fun j hj => by have := hf (j + 1) (by simpa using hj); rw [mx_cons_succ] at this; exact this)
theorem nodup_at {ms : Ms} (h : (nms ms).Nodup) {i j : Nat} (hi : i < ms.length) (hj : j < ms.length) (e : (mx ms i).1 = (mx ms j).1) : i = j := by
  rw [mx_nm, mx_nm] at e
  have hl : (nms ms).length = ms.length := by simp [nms]
  unfold nx at e
  rw [List.getD_eq_getElem?_getD, List.getD_eq_getElem?_getD, List.getElem?_eq_getElem (by omega), List.getElem?_eq_getElem (by omega)] at e
  simp only [Option.getD_some] at e
  have hp := List.pairwise_iff_getElem.mp h
  rcases Nat.lt_trichotomy i j with k | k | k
  · exact absurd e (hp i j (by omega) (by omega) k)
  · exact k
  · exact absurd e.symm (hp j i (by omega) (by omega) k)
def LooksO (w : World) (B : Nat) (v : Value) (ls : List G3) : Prop := ∃ xs, w.ownsRow B 39 3 v ls.length xs ∧ FilledG ls ls.length xs
structure KS (B h : Nat) (w w' : World) : Prop where
  below : Below B w w'
  keep : ∀ b cs T, T ≠ 9 → T ≠ 103 → b ≠ h → w.heap[b]? = some (.cells cs T (0, 0)) → w'.heap[b]? = some (.cells cs T (0, 0))
theorem KS.trans {B h : Nat} {w w' w'' : World} (k : KS B h w w') (l : KS B h w' w'') : KS B h w w'' := ⟨k.below.trans l.below, fun b cs T h1 h2 h3 h4 => l.keep b cs T h1 h2 h3 (k.keep b cs T h1 h2 h3 h4)⟩
theorem KS.old {B h : Nat} {w w' : World} (hb : Below w.heap.size w w') (hB : B ≤ w.heap.size) : KS B h w w' := ⟨hb.mono hB, fun b cs T _ _ _ k => by rw [hb.block b (blk_lt k)]; exact k⟩
theorem KS.setH {B h : Nat} {w w' : World} (k : KS B h w w') (hB : B ≤ h) (j : Nat) (v : Value) : KS B h w (w'.setCell ⟨h, j, none⟩ v) := ⟨k.below.setCell (p := ⟨h, j, none⟩) hB _, fun b cs T h1 h2 h3 h4 => by rw [Below.heap_setCell w' ⟨h, j, none⟩ _ b h3]; exact k.keep b cs T h1 h2 h3 h4⟩
theorem KS.setN {B h b' : Nat} {w w' : World} (k : KS B h w w') (hB : B ≤ b') (hn : w.heap.size ≤ b') (j : Nat) (v : Value) : KS B h w (w'.setCell ⟨b', j, none⟩ v) := ⟨k.below.setCell (p := ⟨b', j, none⟩) hB _, fun b cs T h1 h2 h3 h4 => by rw [Below.heap_setCell w' ⟨b', j, none⟩ _ b (by have := blk_lt h4; simp; omega)]; exact k.keep b cs T h1 h2 h3 h4⟩
theorem KS.grown {B h T0 n sz : Nat} {w w' : World} {v : Value} {xs : List Value} (hT : T0 = 9 ∨ T0 = 103) (ho : w.ownsRow B T0 sz v n xs) (hg : w.grownBy w' v.ownBlock) (hB : B ≤ w.heap.size) : KS B h w w' := by
  refine ⟨(Below.refl _ _).grown hg hB (fun k hk => (ho.lt k hk).1), fun b cs T h1 h2 h3 h4 => ?_⟩
  rw [hg.block b (blk_lt h4) ?_]
  · exact h4
  · intro e
    rcases ho.2 with ⟨rfl, _⟩ | ⟨g, cap, cur, rfl, hgB, hh, _⟩
    · simp [Value.ownBlock] at e
    · simp [Value.ownBlock] at e
      subst e
      rw [h4] at hh
      injection hh with hh
      injection hh with _ h5
      rcases hT with e | e
      · exact h1 (h5.trans e)
      · exact h2 (h5.trans e)
structure Shop (B h : Nat) (sv tv : Value) (w : World) (ms : Ms) (st : List ByteArray) (mv kv : Value) (vs : Nat → Value) : Prop where
  hB : B ≤ h
  blk : w.heap[h]? = some (.cells #[sv, tv, mv, kv, .int .i64 0, .string ⟨#[]⟩, .slice none 0 0, .bool false] 100 (0, 0))
  row : w.ownsRow B 103 6 mv ms.length (msC ms vs)
  stk : w.ownsRow B 9 1 kv st.length (strV st)
  lks : ∀ i d, i < ms.length → (mx ms i).2 = some d → LooksO w B (vs i) d.ls
theorem LooksO.same {w w' : World} {B : Nat} {v : Value} {ls : List G3} (h : LooksO w B v ls) (hk : ∀ (b : Nat) (cs : Array Value), w.heap[b]? = some (Obj.cells cs 39 (0, 0)) → w'.heap[b]? = some (Obj.cells cs 39 (0, 0))) : LooksO w' B v ls := by
  obtain ⟨xs, h1, h2⟩ := h
  refine ⟨xs, ⟨h1.1, ?_⟩, h2⟩
  rcases h1.2 with k | ⟨g, cap, cur, e, hg, hh, r⟩
  · exact Or.inl k
  · exact Or.inr ⟨g, cap, cur, e, hg, hk _ _ hh, r⟩
theorem LooksO.below {w w' : World} {B : Nat} {v : Value} {ls : List G3} (h : LooksO w B v ls) (hb : Below w.heap.size w w') : LooksO w' B v ls := h.same fun b cs k => by rw [hb.block b (blk_lt k)]; exact k
theorem Shop.below {B h : Nat} {sv tv : Value} {w w' : World} {ms : Ms} {st : List ByteArray} {mv kv : Value} {vs : Nat → Value} (s : Shop B h sv tv w ms st mv kv vs) (hb : Below w.heap.size w w') : Shop B h sv tv w' ms st mv kv vs :=
  ⟨s.hB, by rw [hb.block h (blk_lt s.blk)]; exact s.blk, ownsRow_below s.row hb, ownsRow_below s.stk hb, fun i d hi e => (s.lks i d hi e).below hb⟩
theorem Shop.cells {B h : Nat} {sv tv : Value} {w : World} {ms : Ms} {st : List ByteArray} {mv kv : Value} {vs : Nat → Value} (s : Shop B h sv tv w ms st mv kv vs) : w.cell? ⟨h, 0, none⟩ = some sv ∧ w.cell? ⟨h, 1, none⟩ = some tv ∧ w.cell? ⟨h, 2, none⟩ = some mv ∧ w.cell? ⟨h, 3, none⟩ = some kv ∧ w.cell? ⟨h, 7, none⟩ = some (.bool false) ∧ ∀ j, w.frozen? ⟨h, j, none⟩ = false := by
  refine ⟨?_, ?_, ?_, ?_, ?_, fun j => Lib.frozen_of_heap s.blk j⟩ <;> rw [Lib.cell_of_heap s.blk] <;> rfl
theorem Shop.at_ {B h : Nat} {sv tv : Value} {w : World} {ms : Ms} {st : List ByteArray} {mv kv : Value} {vs : Nat → Value} (s : Shop B h sv tv w ms st mv kv vs) : ∃ a cap, mv = .slice a ms.length cap ∧ ∀ i, i < ms.length → ∃ g, a = some ⟨g, 0, none⟩ ∧ ∀ j, j < 6 → w.cell? ⟨g, i * 6 + j, none⟩ = (mk6 (mx ms i) (vs i))[j]? := by
  have hr := s.row
  rcases hr.2 with ⟨e, h0⟩ | ⟨g, cap, cur, rfl, _⟩
  · exact ⟨none, 0, by rw [e, h0], fun i hi => by omega⟩
  · exact ⟨some ⟨g, 0, none⟩, cap, rfl, fun i hi => ⟨g, rfl, fun j hj => by rw [hr.cellAt (i * 6 + j) (by omega), msC_get ms vs i j hi hj]⟩⟩
set_option maxHeartbeats 2000000 in
theorem find_any (B h : Nat) (sv tv : Value) (ms : Ms) (st : List ByteArray) (mv kv : Value) (vs : Nat → Value) (nm : ByteArray) (w : World) (s : Shop B h sv tv w ms st mv kv vs) (hl : ms.length ≤ 1048576) :
    Calls Tryz.prog 50 #[.pointer (some ⟨h, 0, none⟩), .string nm] w fun e w' => w' = w ∧ ((∃ i : Nat, e = .returned (.int .i64 i) ∧ i < ms.length ∧ (mx ms i).1 = nm ∧ ∀ j, j < i → (mx ms j).1 ≠ nm) ∨ (e = .returned (.int .i64 (-1)) ∧ ∀ j, j < ms.length → (mx ms j).1 ≠ nm)) := by
  obtain ⟨_, _, c2, _⟩ := s.cells
  obtain ⟨a, cap, rfl, hat⟩ := s.at_
  have HAT : Hid (∀ i, i < ms.length → ∃ g, a = some ⟨g, 0, none⟩ ∧ ∀ j, j < 6 → w.cell? ⟨g, i * 6 + j, none⟩ = (mk6 (mx ms i) (vs i))[j]?) := hat
  clear hat s
  go_enter Tryz.func50, Tryz.ntmps50
  go_wp2
  go_loop [5] (fun i => ∃ k : Nat, k ≤ ms.length ∧ i = .int .i64 k ∧ Hid (∀ j, j < k → (mx ms j).1 ≠ nm)) (fun i => ms.length - (intOf i).toNat)
  case atStart => exact ⟨0, Nat.zero_le _, rfl, (fun j hj => by omega : ∀ j, j < 0 → (mx ms j).1 ≠ nm)⟩
  case round =>
    obtain ⟨k, hk, rfl, HK⟩ := hrel
    by_cases hlt : k < ms.length
    · have hkI : (k : Int) < (ms.length : Int) := by omega
      obtain ⟨g, rfl, hc⟩ := HAT.out k hlt
      have e0 := hc 0 (by omega)
      have e1 : w.cell? ⟨g, k * 6, none⟩ = some (.string (mx ms k).1) := by
        rw [Nat.add_zero] at e0
        rw [e0]
        unfold mk6
        split <;> rfl
      clear e0 hc
      have HQ : Hid ((mx ms k).1 = nm → ∃ i : Nat, (Ending.returned (.int .i64 k) : Ending) = .returned (.int .i64 i) ∧ i < ms.length ∧ (mx ms i).1 = nm ∧ ∀ j, j < i → (mx ms j).1 ≠ nm) := fun q => ⟨k, rfl, hlt, q, HK.out⟩
      have HN : Hid ((mx ms k).1 ≠ nm → ∀ j, j < k + 1 → (mx ms j).1 ≠ nm) := fun q => ext_succ HK.out q
      generalize (mx ms k).1 = x at e1 HQ HN
      by_cases q : x = nm
      · have dq := str_eq q
        have HO : Hid _ := HQ.out q
        clear q HQ HN
        go_wp2_with fail
        go_ret
        exact ⟨rfl, Or.inl HO.out⟩
      · have dq := str_ne q
        have HO : Hid (∀ j, j < k + 1 → (mx ms j).1 ≠ nm) := HN.out q
        clear q HQ HN
        go_wp2_with fail
        go_round
        case rel => exact ⟨k + 1, by omega, by go_num, HO.out⟩
        case measure => simp [intOf]; omega
    · have hkI : ¬ (k : Int) < (ms.length : Int) := by omega
      have HO : Hid (∀ j, j < ms.length → (mx ms j).1 ≠ nm) := fun j hj => HK.out j (by omega)
      go_wp2_with fail
      go_ret
      exact ⟨rfl, Or.inr ⟨rfl, HO.out⟩⟩
end Go.Proofs.YtmeojnaoljgieaeGreatDoor
