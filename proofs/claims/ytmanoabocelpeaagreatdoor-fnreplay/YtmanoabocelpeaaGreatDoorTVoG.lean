import Derived.Test.YtmanoabocelpeaaGreatDoorTClB
import Derived.Deep.AppendLies
import Derived.Test.YtmanoabocelpeaaGreatDoorTVoA
namespace Go.Proofs.YtmanoabocelpeaaGreatDoor
open Go.RowKit
set_option linter.unusedVariables false
set_option maxHeartbeats 8000000
set_option maxRecDepth 100000
def mk6 (e : ByteArray × Option Md) (v : Value) : List Value :=
 match e.2 with
 | none => [.string e.1, .int .i64 0, .string ⟨#[]⟩, .slice none 0 0, .slice none 0 0, .bool false]
 | some d => [.string e.1, .int .i64 d.c, .string d.t, .slice none 0 0, v, .bool true]
theorem mk6_length (e : ByteArray × Option Md) (v : Value) : (mk6 e v).length = 6 := by unfold mk6; split <;> rfl
def msC : Ms -> (Nat -> Value) -> List Value
 | [], _ => []
 | e :: r, vs => mk6 e (vs 0) ++ msC r (fun i => vs (i + 1))
theorem msC_length : ∀ (ms : Ms) (vs : Nat -> Value), (msC ms vs).length = ms.length * 6
 | [], vs => rfl
 | e :: r, vs => by simp only [msC, List.length_append, mk6_length, msC_length r, List.length_cons]; omega
def mx (ms : Ms) (i : Nat) : ByteArray × Option Md := ms.getD i (ByteArray.empty, none)
theorem mx_cons_succ (e : ByteArray × Option Md) (r : Ms) (i : Nat) : mx (e :: r) (i + 1) = mx r i := by simp [mx]
theorem msC_get : ∀ (ms : Ms) (vs : Nat -> Value) (i j : Nat), i < ms.length -> j < 6 -> (msC ms vs)[i * 6 + j]? = (mk6 (mx ms i) (vs i))[j]?
 | [], vs, i, j, h, _ => by simp at h
 | e :: r, vs, 0, j, h, hj => by
  simp only [msC, Nat.zero_mul, Nat.zero_add]
  rw [List.getElem?_append_left (by rw [mk6_length]; exact hj)]
  simp [mx]
 | e :: r, vs, i + 1, j, h, hj => by
  simp only [msC]
  rw [List.getElem?_append_right (by rw [mk6_length]; omega), mk6_length, show (i + 1) * 6 + j - 6 = i * 6 + j from by omega, msC_get r (fun i => vs (i + 1)) i j (by simpa using h) hj, mx_cons_succ]
theorem msC_snoc : ∀ (ms : Ms) (e : ByteArray × Option Md) (vs : Nat -> Value), msC (ms ++ [e]) vs = msC ms vs ++ mk6 e (vs ms.length)
 | [], e, vs => by simp [msC]
 | x :: r, e, vs => by simp only [List.cons_append, msC, msC_snoc r, List.append_assoc, List.length_cons]
theorem msC_congr : ∀ (ms : Ms) (vs vs' : Nat -> Value), (∀ i, i < ms.length -> vs i = vs' i) -> msC ms vs = msC ms vs'
 | [], _, _, _ => rfl
 | e :: r, vs, vs', h => by
  simp only [msC]
  rw [h 0 (by simp), msC_congr r (fun i => vs (i + 1)) (fun i => vs' (i + 1)) (fun i hi => h (i + 1) (by simpa using hi))]
theorem mx_nm {ms : Ms} {i : Nat} : (mx ms i).1 = nx (nms ms) i := by
 unfold mx nx nms
 rw [List.getD_eq_getElem?_getD, List.getD_eq_getElem?_getD, List.getElem?_map]
 cases ms[i]? <;> rfl
theorem lk_at {ms : Ms} {nm : ByteArray} {i : Nat} (h : i < ms.length) (e : (mx ms i).1 = nm) (hf : ∀ j, j < i -> (mx ms j).1 ≠ nm) : lk ms nm = some (mx ms i).2 := by
 induction ms generalizing i with
 | nil => simp at h
 | cons x r ih =>
  obtain ⟨a, o⟩ := x
  cases i with
  | zero => have ha : a = nm := e; subst ha; rw [lk_cons_same]; rfl
  | succ i =>
   have ha : a ≠ nm := hf 0 (by omega)
   rw [lk_cons_other ha, mx_cons_succ]
   exact ih (by simpa using h) (by rw [mx_cons_succ] at e; exact e) (fun j hj => by have := hf (j + 1) (by omega); rw [mx_cons_succ] at this; exact this)
theorem lk_not {ms : Ms} {nm : ByteArray} (hf : ∀ j, j < ms.length -> (mx ms j).1 ≠ nm) : lk ms nm = none := by
 induction ms with
 | nil => rfl
 | cons x r ih =>
  obtain ⟨a, o⟩ := x
  have ha : a ≠ nm := hf 0 (by simp)
  rw [lk_cons_other ha]
  exact ih (fun j hj => by have := hf (j + 1) (by simpa using hj); rw [mx_cons_succ] at this; exact this)
theorem nodup_at {ms : Ms} (h : (nms ms).Nodup) {i j : Nat} (hi : i < ms.length) (hj : j < ms.length) (e : (mx ms i).1 = (mx ms j).1) : i = j := by
 rw [mx_nm, mx_nm] at e
 have hl : (nms ms).length = ms.length := by simp [nms]
 unfold nx at e
 rw [List.getD_eq_getElem?_getD, List.getD_eq_getElem?_getD, List.getElem?_eq_getElem (by omega), List.getElem?_eq_getElem (by omega)] at e
 simp only [Option.getD_some] at e
 have hp := List.pairwise_iff_getElem.mp h
 rcases Nat.lt_trichotomy i j with k | k | k
 ·exact absurd e (hp i j (by omega) (by omega) k)
 ·exact k
 ·exact absurd e.symm (hp j i (by omega) (by omega) k)
def LooksO (w : World) (B : Nat) (v : Value) (ls : List G3) : Prop := ∃ xs, w.ownsRow B 47 3 v ls.length xs /\ FilledG ls ls.length xs
structure KS (B h : Nat) (w w' : World) : Prop where
 below : Below B w w'
 keep : ∀ b cs T, T ≠ 9 -> T ≠ 60 -> b ≠ h -> w.heap[b]? = some (.cells cs T (0, 0)) -> w'.heap[b]? = some (.cells cs T (0, 0))
theorem KS.trans {B h : Nat} {w w' w'' : World} (k : KS B h w w') (l : KS B h w' w'') : KS B h w w'' := ⟨k.below.trans l.below, fun b cs T h1 h2 h3 h4 => l.keep b cs T h1 h2 h3 (k.keep b cs T h1 h2 h3 h4)⟩
theorem KS.old {B h : Nat} {w w' : World} (hb : Below w.heap.size w w') (hB : B <= w.heap.size) : KS B h w w' := ⟨hb.mono hB, fun b cs T _ _ _ k => by rw [hb.block b (blk_lt k)]; exact k⟩
theorem KS.setH {B h : Nat} {w w' : World} (k : KS B h w w') (hB : B <= h) (j : Nat) (v : Value) : KS B h w (w'.setCell ⟨h, j, none⟩ v) := ⟨k.below.setCell (p := ⟨h, j, none⟩) hB _, fun b cs T h1 h2 h3 h4 => by rw [Below.heap_setCell w' ⟨h, j, none⟩ _ b h3]; exact k.keep b cs T h1 h2 h3 h4⟩
theorem KS.setN {B h b' : Nat} {w w' : World} (k : KS B h w w') (hB : B <= b') (hn : w.heap.size <= b') (j : Nat) (v : Value) : KS B h w (w'.setCell ⟨b', j, none⟩ v) := ⟨k.below.setCell (p := ⟨b', j, none⟩) hB _, fun b cs T h1 h2 h3 h4 => by rw [Below.heap_setCell w' ⟨b', j, none⟩ _ b (by have := blk_lt h4; simp; omega)]; exact k.keep b cs T h1 h2 h3 h4⟩
theorem KS.grown {B h T0 n sz : Nat} {w w' : World} {v : Value} {xs : List Value} (hT : T0 = 9 \/ T0 = 60) (ho : w.ownsRow B T0 sz v n xs) (hg : w.grownBy w' v.ownBlock) (hB : B <= w.heap.size) : KS B h w w' := by
 refine ⟨(Below.refl _ _).grown hg hB (fun k hk => (ho.lt k hk).1), fun b cs T h1 h2 h3 h4 => ?_⟩
 rw [hg.block b (blk_lt h4) ?_]
 ·exact h4
 ·intro e
  rcases ho.2 with ⟨rfl, _⟩ | ⟨g, cap, cur, rfl, hgB, hh, _⟩
  ·simp [Value.ownBlock] at e
  ·simp [Value.ownBlock] at e
   subst e
   rw [h4] at hh
   injection hh with hh
   injection hh with _ h5
   rcases hT with e | e
   ·exact h1 (h5.trans e)
   ·exact h2 (h5.trans e)
structure Shop (B h : Nat) (sv tv : Value) (w : World) (ms : Ms) (st : List ByteArray) (mv kv : Value) (vs : Nat -> Value) : Prop where
 hB : B <= h
 blk : w.heap[h]? = some (.cells #[sv, tv, mv, kv, .int .i64 0, .string ⟨#[]⟩, .slice none 0 0, .bool false] 57 (0, 0))
 row : w.ownsRow B 60 6 mv ms.length (msC ms vs)
 stk : w.ownsRow B 9 1 kv st.length (strV st)
 lks : ∀ i d, i < ms.length -> (mx ms i).2 = some d -> LooksO w B (vs i) d.ls
theorem LooksO.same {w w' : World} {B : Nat} {v : Value} {ls : List G3} (h : LooksO w B v ls) (hk : ∀ (b : Nat) (cs : Array Value), w.heap[b]? = some (Obj.cells cs 47 (0, 0)) -> w'.heap[b]? = some (Obj.cells cs 47 (0, 0))) : LooksO w' B v ls := by
 obtain ⟨xs, h1, h2⟩ := h
 refine ⟨xs, ⟨h1.1, ?_⟩, h2⟩
 rcases h1.2 with k | ⟨g, cap, cur, e, hg, hh, r⟩
 ·exact Or.inl k
 ·exact Or.inr ⟨g, cap, cur, e, hg, hk _ _ hh, r⟩
theorem LooksO.below {w w' : World} {B : Nat} {v : Value} {ls : List G3} (h : LooksO w B v ls) (hb : Below w.heap.size w w') : LooksO w' B v ls := h.same fun b cs k => by rw [hb.block b (blk_lt k)]; exact k
theorem Shop.below {B h : Nat} {sv tv : Value} {w w' : World} {ms : Ms} {st : List ByteArray} {mv kv : Value} {vs : Nat -> Value} (s : Shop B h sv tv w ms st mv kv vs) (hb : Below w.heap.size w w') : Shop B h sv tv w' ms st mv kv vs :=
 ⟨s.hB, by rw [hb.block h (blk_lt s.blk)]; exact s.blk, ownsRow_below s.row hb, ownsRow_below s.stk hb, fun i d hi e => (s.lks i d hi e).below hb⟩
theorem Shop.cells {B h : Nat} {sv tv : Value} {w : World} {ms : Ms} {st : List ByteArray} {mv kv : Value} {vs : Nat -> Value} (s : Shop B h sv tv w ms st mv kv vs) : w.cell? ⟨h, 0, none⟩ = some sv /\ w.cell? ⟨h, 1, none⟩ = some tv /\ w.cell? ⟨h, 2, none⟩ = some mv /\ w.cell? ⟨h, 3, none⟩ = some kv /\ w.cell? ⟨h, 7, none⟩ = some (.bool false) /\ ∀ j, w.frozen? ⟨h, j, none⟩ = false := by
 refine ⟨?_, ?_, ?_, ?_, ?_, fun j => Lib.frozen_of_heap s.blk j⟩ <;> rw [Lib.cell_of_heap s.blk] <;> rfl
theorem Shop.at_ {B h : Nat} {sv tv : Value} {w : World} {ms : Ms} {st : List ByteArray} {mv kv : Value} {vs : Nat -> Value} (s : Shop B h sv tv w ms st mv kv vs) : ∃ a cap, mv = .slice a ms.length cap /\ ∀ i, i < ms.length -> ∃ g, a = some ⟨g, 0, none⟩ /\ ∀ j, j < 6 -> w.cell? ⟨g, i * 6 + j, none⟩ = (mk6 (mx ms i) (vs i))[j]? := by
 have hr := s.row
 rcases hr.2 with ⟨e, h0⟩ | ⟨g, cap, cur, rfl, _⟩
 ·exact ⟨none, 0, by rw [e, h0], fun i hi => by omega⟩
 ·exact ⟨some ⟨g, 0, none⟩, cap, rfl, fun i hi => ⟨g, rfl, fun j hj => by rw [hr.cellAt (i * 6 + j) (by omega), msC_get ms vs i j hi hj]⟩⟩
theorem find_any (B h : Nat) (sv tv : Value) (ms : Ms) (st : List ByteArray) (mv kv : Value) (vs : Nat -> Value) (nm : ByteArray) (w : World) (s : Shop B h sv tv w ms st mv kv vs) (hl : ms.length <= 1048576) :
  Calls Tryz.prog 16 #[.pointer (some ⟨h, 0, none⟩), .string nm] w fun e w' => w' = w /\ ((∃ i : Nat, e = .returned (.int .i64 i) /\ i < ms.length /\ (mx ms i).1 = nm /\ ∀ j, j < i -> (mx ms j).1 ≠ nm) \/ (e = .returned (.int .i64 (-1)) /\ ∀ j, j < ms.length -> (mx ms j).1 ≠ nm)) := by
 obtain ⟨_, _, c2, _⟩ := s.cells
 obtain ⟨a, cap, rfl, hat⟩ := s.at_
 have HAT : Hid (∀ i, i < ms.length -> ∃ g, a = some ⟨g, 0, none⟩ /\ ∀ j, j < 6 -> w.cell? ⟨g, i * 6 + j, none⟩ = (mk6 (mx ms i) (vs i))[j]?) := hat
 clear hat s
 go_enter Tryz.func16, Tryz.ntmps16
 go_wp2
 go_loop [5] (fun i => ∃ k : Nat, k <= ms.length /\ i = .int .i64 k /\ Hid (∀ j, j < k -> (mx ms j).1 ≠ nm)) (fun i => ms.length - (intOf i).toNat)
 case atStart => exact ⟨0, Nat.zero_le _, rfl, (fun j hj => by omega : ∀ j, j < 0 -> (mx ms j).1 ≠ nm)⟩
 case round =>
  obtain ⟨k, hk, rfl, HK⟩ := hrel
  by_cases hlt : k < ms.length
  ·have hkI : (k : Int) < (ms.length : Int) := by omega
   obtain ⟨g, rfl, hc⟩ := HAT.out k hlt
   have e0 := hc 0 (by omega)
   have e1 : w.cell? ⟨g, k * 6, none⟩ = some (.string (mx ms k).1) := by
    rw [Nat.add_zero] at e0
    rw [e0]
    unfold mk6
    split <;> rfl
   clear e0 hc
   have HQ : Hid ((mx ms k).1 = nm -> ∃ i : Nat, (Ending.returned (.int .i64 k) : Ending) = .returned (.int .i64 i) /\ i < ms.length /\ (mx ms i).1 = nm /\ ∀ j, j < i -> (mx ms j).1 ≠ nm) := fun q => ⟨k, rfl, hlt, q, HK.out⟩
   have HN : Hid ((mx ms k).1 ≠ nm -> ∀ j, j < k + 1 -> (mx ms j).1 ≠ nm) := fun q => ext_succ HK.out q
   generalize (mx ms k).1 = x at e1 HQ HN
   by_cases q : x = nm
   ·have dq := str_eq q
    have HO : Hid _ := HQ.out q
    clear q HQ HN
    go_wp2_with fail
    go_ret
    exact ⟨rfl, Or.inl HO.out⟩
   ·have dq := str_ne q
    have HO : Hid (∀ j, j < k + 1 -> (mx ms j).1 ≠ nm) := HN.out q
    clear q HQ HN
    go_wp2_with fail
    go_round
    case rel => exact ⟨k + 1, by omega, by go_num, HO.out⟩
    case measure => simp [intOf]; omega
  ·have hkI : ¬ (k : Int) < (ms.length : Int) := by omega
   have HO : Hid (∀ j, j < ms.length -> (mx ms j).1 ≠ nm) := fun j hj => HK.out j (by omega)
   go_wp2_with fail
   go_ret
   exact ⟨rfl, Or.inr ⟨rfl, HO.out⟩⟩
open Classical in
noncomputable def tcount (ts : List T2) (ms : Ms) : Nat := ((nms ms).filter fun n => decide (Has (tnames ts) n)).length
theorem tcount_app (ts : List T2) (ms : Ms) (nm : ByteArray) (o : Option Md) : tcount ts (ms ++ [(nm, o)]) = tcount ts ms + (if @decide (Has (tnames ts) nm) (Classical.propDecidable _) = true then 1 else 0) := by
 unfold tcount nms
 rw [List.map_append, List.filter_append, List.length_append]
 by_cases h : Has (tnames ts) nm <;> simp [h]
theorem tcount_set (ts : List T2) (ms : Ms) (nm : ByteArray) (d : Md) : tcount ts (setMd ms nm d) = tcount ts ms := by unfold tcount; rw [nms_set]
theorem set_length (ms : Ms) (nm : ByteArray) (d : Md) : (setMd ms nm d).length = ms.length := by simp [setMd]
theorem nodup_le {α : Type} [DecidableEq α] : ∀ (l m : List α), l.Nodup -> (∀ x ∈ l, x ∈ m) -> l.length <= m.length
 | [], m, _, _ => Nat.zero_le _
 | a :: l, m, h, hs => by
  have h' := List.nodup_cons.mp h
  have h1 : (m.filter fun x => decide (x ≠ a)).length < m.length := List.length_filter_lt_length_iff_exists.mpr ⟨a, hs a (by simp), by simp⟩
  have h2 := nodup_le l (m.filter fun x => decide (x ≠ a)) h'.2 (fun x hx => by
   rw [List.mem_filter]
   refine ⟨hs x (by simp [hx]), ?_⟩
   have : x ≠ a := fun e => h'.1 (e ▸ hx)
   simp [this])
  simp only [List.length_cons]
  omega
theorem tcount_le {ts : List T2} {ms : Ms} (h : (nms ms).Nodup) : tcount ts ms <= ts.length := by
 classical
 unfold tcount
 have h1 : ((nms ms).filter fun n => decide (Has (tnames ts) n)).Nodup := List.Pairwise.filter _ h
 have h2 : ∀ x ∈ (nms ms).filter (fun n => decide (Has (tnames ts) n)), x ∈ tnames ts := by
  intro x hx
  simp at hx
  obtain ⟨j, hj, e⟩ := hx.2
  unfold nx at e
  rw [List.getD_eq_getElem?_getD, List.getElem?_eq_getElem hj] at e
  simp at e
  rw [<- e]
  exact List.getElem_mem _
 have h3 := nodup_le _ _ h1 h2
 rw [tnames_length] at h3
 simpa using h3
noncomputable def phi (ts : List T2) (ms : Ms) : Int := (ms.length : Int) - 200 * (tcount ts ms : Int)
theorem phi_plain {ts : List T2} {ms : Ms} {nm : ByteArray} {o : Option Md} : phi ts (ms ++ [(nm, o)]) <= phi ts ms + 1 := by
 unfold phi
 rw [tcount_app, List.length_append, List.length_singleton]
 split <;> omega
theorem phi_push {ts : List T2} {ms : Ms} {nm : ByteArray} {o : Option Md} (h : Has (tnames ts) nm) : phi ts (ms ++ [(nm, o)]) = phi ts ms - 199 := by
 unfold phi
 rw [tcount_app, List.length_append, List.length_singleton, if_pos (by simp [h])]
 omega
theorem phi_set (ts : List T2) (ms : Ms) (nm : ByteArray) (d : Md) : phi ts (setMd ms nm d) = phi ts ms := by unfold phi; rw [tcount_set, set_length]
theorem phi_len {ss : List S2} {ts : List T2} {ms : Ms} {st : List ByteArray} (h : Inv ss ts ms st) (hl : ts.length <= 200) (hp : phi ts ms <= 1) : ms.length <= 40001 := by
 have := tcount_le (ts := ts) h.nd
 unfold phi at hp
 omega
theorem Does.phi_le {ss : List S2} {ts : List T2} (hv : SpV ss ts) {ms : Ms} {st : List ByteArray} {j : Job} {ms' : Ms} {a : Ans} (h : Does ss ts ms st j ms' a) : JobOk j -> Inv ss ts ms st -> (match j with | .run is ys ls => ys.length <= 200 | _ => True) -> phi ts ms' <= phi ts ms + (match j with | .make _ => 1 | .run _ ys _ => 200 - (ys.length : Int)) := by
 induction h with
 | known => intro _ _ _; simp only; omega
 | circle => intro _ _ _; simp only; omega
 | source => intro _ _ _; exact phi_plain
 | missing => intro _ _ _; exact phi_plain
 | deep => intro _ _ _; exact phi_plain
 | made h1 h2 h3 h4 h5 _ ih =>
  intro hj hi _
  have hth := h4 ▸ has_tgt h3
  have := ih ⟨hv.pr _ h3, fun i hi => by simp at hi, rfl⟩ (hi.push h1 hth) (by simp)
  rw [phi_push hth] at this
  rw [phi_set]
  simp only [List.length_nil] at this ⊢
  omega
 | fell h1 h2 h3 h4 h5 _ _ ih =>
  intro hj hi _
  have hth := h4 ▸ has_tgt h3
  have := ih ⟨hv.pr _ h3, fun i hi => by simp at hi, rfl⟩ (hi.push h1 hth) (by simp)
  rw [phi_push hth] at this
  simp only [List.length_nil] at this ⊢
  omega
 | over => intro _ _ hl; simp only at hl ⊢; omega
 | has h1 _ ih =>
  intro hj hi hl
  obtain ⟨k1, k2⟩ := hj.wait h1
  have := ih (hj.has _ _) hi (by simp; omega)
  simp only [List.length_append, List.length_singleton] at this ⊢
  omega
 | asked h1 hm _ ih1 ih2 =>
  intro hj hi hl
  obtain ⟨k1, k2⟩ := hj.wait h1
  have e1 := ih1 k2 hi trivial
  obtain ⟨i1, _, i3⟩ := hm.inv hv hi k2 trivial _ rfl
  have e2 := ih2 (hj.asked (i1.done _ _ i3) _) i1 (by simp; omega)
  simp only [List.length_append, List.length_singleton] at e1 e2 ⊢
  omega
 | askfell h1 _ _ ih =>
  intro hj hi hl
  obtain ⟨k1, k2⟩ := hj.wait h1
  have e1 := ih k2 hi trivial
  simp only at e1 ⊢
  omega
theorem set6_ne {w : World} {b b' : Nat} (h : b' ≠ b) (v0 v1 v2 v3 v4 v5 : Value) : ((((((w.setCell ⟨b, 0, none⟩ v0).setCell ⟨b, 1, none⟩ v1).setCell ⟨b, 2, none⟩ v2).setCell ⟨b, 3, none⟩ v3).setCell ⟨b, 4, none⟩ v4).setCell ⟨b, 5, none⟩ v5).heap[b']? = w.heap[b']? := by
 rw [Below.heap_setCell _ ⟨b, 5, none⟩ _ b' h, Below.heap_setCell _ ⟨b, 4, none⟩ _ b' h, Below.heap_setCell _ ⟨b, 3, none⟩ _ b' h, Below.heap_setCell _ ⟨b, 2, none⟩ _ b' h, Below.heap_setCell _ ⟨b, 1, none⟩ _ b' h, Below.heap_setCell _ ⟨b, 0, none⟩ _ b' h]
theorem below_set6 {B : Nat} {w w' : World} (hb : Below B w w') {b : Nat} (h : B <= b) (v0 v1 v2 v3 v4 v5 : Value) : Below B w ((((((w'.setCell ⟨b, 0, none⟩ v0).setCell ⟨b, 1, none⟩ v1).setCell ⟨b, 2, none⟩ v2).setCell ⟨b, 3, none⟩ v3).setCell ⟨b, 4, none⟩ v4).setCell ⟨b, 5, none⟩ v5) :=
 (((((hb.setCell (p := ⟨b, 0, none⟩) h _).setCell (p := ⟨b, 1, none⟩) h _).setCell (p := ⟨b, 2, none⟩) h _).setCell (p := ⟨b, 3, none⟩) h _).setCell (p := ⟨b, 4, none⟩) h _).setCell (p := ⟨b, 5, none⟩) h _
theorem six_cells {w : World} {b : Nat} {v0 v1 v2 v3 v4 v5 : Value} (h : w.heap[b]? = some (.cells #[v0, v1, v2, v3, v4, v5] 44 (0, 0))) : w.cell? ⟨b, 0, none⟩ = some v0 /\ w.cell? ⟨b, 1, none⟩ = some v1 /\ w.cell? ⟨b, 2, none⟩ = some v2 /\ w.cell? ⟨b, 3, none⟩ = some v3 /\ w.cell? ⟨b, 4, none⟩ = some v4 /\ w.cell? ⟨b, 5, none⟩ = some v5 /\ ∀ j, w.frozen? ⟨b, j, none⟩ = false := by
 refine ⟨?_, ?_, ?_, ?_, ?_, ?_, fun j => Lib.frozen_of_heap h j⟩ <;> rw [Lib.cell_of_heap h] <;> rfl
theorem P10.two {w : World} (h : P10 w) : 1 < w.heap.size := by
 unfold P10 Lib.TabIs World.var? at h
 rw [show Tryz.prog.globalNamed "internal/strconv.uint64pow10" = some 1 from by kernel_rfl] at h
 simp only [Option.bind_some] at h
 rcases Nat.lt_or_ge 1 w.heap.size with h' | h'
 ·exact h'
 ·rw [Array.getElem?_eq_none h'] at h; cases h
def Gn (is : List I3) (ys : List R3) (B m T : Nat) (cd : Value) (ov : Bool) (c : Int) (t : ByteArray) (ask : Bool) (nm : ByteArray) (st : Int) (w : World) : Prop :=
 w.heap[T]? = some (.cells #[.bool ov, .int .i64 c, .string t, .bool ask, .string nm, .int .i64 st] 44 (0, 0)) /\ T ≠ m /\ B <= T /\ m < w.heap.size /\ VAt is ys B m cd ov c t ask nm st w
theorem Gn.below {is : List I3} {ys : List R3} {B m T : Nat} {cd : Value} {ov : Bool} {c : Int} {t : ByteArray} {ask : Bool} {nm : ByteArray} {st : Int} {w w' : World} (h : Gn is ys B m T cd ov c t ask nm st w) (hb : Below w.heap.size w w') : Gn is ys B m T cd ov c t ask nm st w' :=
 ⟨by rw [hb.block _ (blk_lt h.1)]; exact h.1, h.2.1, h.2.2.1, Nat.lt_of_lt_of_le h.2.2.2.1 hb.size, h.2.2.2.2.mono (fun _ _ _ _ k => k.below hb)⟩
theorem begin_any (a : Option Addr) (cap : Nat) (is : List I3) (w : World) (hT : Tab w) (hP : P10 w) (hc : Row3 w a is) (hv : progOk is = true) :
  Calls Tryz.prog 86 #[.agg #[.slice a is.length cap]] w fun e w' => Below w.heap.size w w' /\ ∃ B m T ov c t ask nm st, w.heap.size <= B /\ B <= w'.heap.size /\ e = .returned (.tuple #[turnV ov c t ask nm st, .func (.func 97) #[] #[.pointer (some ⟨m, 0, none⟩), .pointer (some ⟨T, 0, none⟩)]]) /\ Gn is [] B m T (.slice a is.length cap) ov c t ask nm st w' := by
 have hP2 := hP.two
 obtain ⟨W, eW⟩ : ∃ W, ((w.alloc (.cells #[.slice a is.length cap] 37)).alloc (.cells #[.bool false, .int .i64 0, .string ⟨#[]⟩, .bool false, .string ⟨#[]⟩, .int .i64 0] 44)) = W := ⟨_, rfl⟩
 have hb0 : Below w.heap.size w W := by rw [<- eW]; exact ((Below.refl _ _).alloc (Nat.le_refl _) _).alloc (by simp) _
 have hWs : W.heap.size = w.heap.size + 1 + 1 := by rw [<- eW]; simp
 have x0 : W.cell? ⟨w.heap.size, 0, none⟩ = some (.slice a is.length cap) := by rw [<- eW]; simp [go_sem]
 have HR : Hid (W.heap[w.heap.size + 1]? = some (.cells #[.bool false, .int .i64 0, .string ⟨#[]⟩, .bool false, .string ⟨#[]⟩, .int .i64 0] 44 (0, 0))) := by
  show W.heap[w.heap.size + 1]? = _
  rw [<- eW]
  have h := heap_new (w.alloc (.cells #[.slice a is.length cap] 37)) (.cells #[.bool false, .int .i64 0, .string ⟨#[]⟩, .bool false, .string ⟨#[]⟩, .int .i64 0] 44)
  rw [show (w.alloc (.cells #[.slice a is.length cap] 37)).heap.size = w.heap.size + 1 from by simp] at h
  exact h
 have hbm : Below W.heap.size W (W.alloc (.cells #[.slice none 0 0, .slice a is.length cap, .int .i64 0, .int .i64 0, .int .i64 0] 73)) := (Below.refl _ _).alloc (Nat.le_refl _) _
 have HMK : Hid (MOk W.heap.size (W.alloc (.cells #[.slice none 0 0, .slice a is.length cap, .int .i64 0, .int .i64 0, .int .i64 0] 73)) W.heap.size s00.stack (.slice a is.length cap) s00.pl s00.steps s00.looks) := ⟨Nat.le_refl _, .slice none 0 0, heap_new _ _, ⟨by simp [s00, strV], Or.inl ⟨rfl, rfl⟩⟩⟩
 have HCB : Hid (CodeB W.heap.size W a is) := ⟨hc.below hb0, fun b off e => by
  have := (prog_len hv).1
  obtain ⟨b', off', e', c1, _, _⟩ := hc.below hb0 0 (by omega)
  rw [e] at e'; cases e'
  exact World.block_lt_of_cell? _ _ c1⟩
 have HT2 : Hid (Tab W) := hT.below hb0
 have HP2 : Hid (P10 W) := hP.below hb0
 have HBM : Hid (Below W.heap.size W (W.alloc (.cells #[.slice none 0 0, .slice a is.length cap, .int .i64 0, .int .i64 0, .int .i64 0] 73))) := hbm
 have HV : Hid (progOk is = true) := hv
 have HB0 : Hid (Below w.heap.size w W) := hb0
 have HWS : Hid (W.heap.size = w.heap.size + 1 + 1) := hWs
 clear hT hP hc hv hbm hb0 hWs
 go_enter Tryz.func86, Tryz.ntmps86
 go_wp2_with fail
 clear eW
 refine (run_any W.heap.size W.heap.size is a cap s00 _ HMK.out (by simp) (by have := HWS.out; omega) (HCB.out.belowB HBM.out) (HT2.out.below HBM.out) (HP2.out.below HBM.out) HV.out (s00_ok is)).mono ?_
 rintro e w3 ⟨hk3, hpost⟩
 obtain ⟨ov, c, t, ask, nm, st, rfl, hat⟩ := run_vat HV.out hpost
 have hz3 : W.heap.size + 1 <= w3.heap.size := by have := hk3.size; simpa using this
 have HB3 : Hid (Below W.heap.size W w3) := HBM.out.trans hk3.below
 have HAT : Hid (VAt is [] W.heap.size W.heap.size (.slice a is.length cap) ov c t ask nm st (w3.alloc (.cells #[.bool ov, .int .i64 c, .string t, .bool ask, .string nm, .int .i64 st] 44))) := hat.mono (fun _ _ _ _ k => k.alloc _)
 have HR4 : Hid ((w3.alloc (.cells #[.bool ov, .int .i64 c, .string t, .bool ask, .string nm, .int .i64 st] 44)).heap[w.heap.size + 1]? = some (.cells #[.bool false, .int .i64 0, .string ⟨#[]⟩, .bool false, .string ⟨#[]⟩, .int .i64 0] 44 (0, 0))) := by
  show (w3.alloc (.cells #[.bool ov, .int .i64 c, .string t, .bool ask, .string nm, .int .i64 st] 44)).heap[w.heap.size + 1]? = _
  have := HWS.out; rw [Lib.alloc_old w3 _ _ (by omega), HB3.out.block _ (by omega)]; exact HR.out
 have HTN : Hid ((w3.alloc (.cells #[.bool ov, .int .i64 c, .string t, .bool ask, .string nm, .int .i64 st] 44)).heap[w3.heap.size]? = some (.cells #[.bool ov, .int .i64 c, .string t, .bool ask, .string nm, .int .i64 st] 44 (0, 0))) := heap_new _ _
 have HB4 : Hid (Below W.heap.size W (w3.alloc (.cells #[.bool ov, .int .i64 c, .string t, .bool ask, .string nm, .int .i64 st] 44))) := HB3.out.alloc (by omega) _
 obtain ⟨z0, z1, z2, z3, z4, z5, zf⟩ := six_cells HR4.out
 clear hat hpost hk3 x0 HR
 unfold turnV
 go_wp2_with fail
 obtain ⟨n1, n2⟩ := storeT rfl HR4.out (.bool ov) (.int .i64 c) (.string t) (.bool ask) (.string nm) (.int .i64 st)
 obtain ⟨y0, y1, y2, y3, y4, y5, yf⟩ := six_cells n1
 refine bodyPost_ret (v := .tuple #[turnV ov c t ask nm st, .func (.func 97) #[] #[.pointer (some ⟨W.heap.size, 0, none⟩), .pointer (some ⟨w3.heap.size, 0, none⟩)]]) (by simp [results, Tryz.results86, go_sem, turnV, z0, z1, z2, z3, z4, z5]) rfl ⟨below_set6 (HB0.out.trans (HB4.out.mono (by have := HWS.out; omega))) (by omega) _ _ _ _ _ _, W.heap.size, W.heap.size, w3.heap.size, ov, c, t, ask, nm, st, by have := HWS.out; omega, by simp; omega, rfl, ?_, by omega, by omega, by simp; omega, ?_⟩
 ·rw [set6_ne (by have := HWS.out; omega)]; exact HTN.out
 ·exact HAT.out.mono (fun ss pl st' lk k => n2 _ _ _ _ _ _ _ k)
theorem NotOwn.congr {w w' : World} {m b : Nat} (h : w'.heap[m]? = w.heap[m]?) (k : NotOwn w m b) : NotOwn w' m b := fun v hv => k v (by
 have e : w'.cell? ⟨m, 0, none⟩ = w.cell? ⟨m, 0, none⟩ := by simp only [World.cell?, h]
 rw [<- e]; exact hv)
theorem goOn_any (B m T : Nat) (is : List I3) (a : Option Addr) (cap : Nat) (ys : List R3) (ask : Bool) (nm : ByteArray) (st : Int) (y y' : R3) (w : World) (hG : Gn is ys B m T (.slice a is.length cap) false 0 ⟨#[]⟩ ask nm st w) (hB : B <= w.heap.size) (hB1 : 1 < B) (hcode : CodeB B w a is) (hT : Tab w) (hP : P10 w) (hv : progOk is = true) (hy : y.text.size <= 2000) (hyy : ∀ nm s, ansP ask nm y s = ansP ask nm y' s) :
  Calls Tryz.prog 97 #[.agg #[.bool y.has, .int .i64 y.code, .string y.text], .pointer (some ⟨m, 0, none⟩), .pointer (some ⟨T, 0, none⟩)] w fun e w' => (Below B w w' /\ ∀ b cs X, X ≠ 9 -> b ≠ m -> b ≠ T -> w.heap[b]? = some (.cells cs X (0, 0)) -> w'.heap[b]? = some (.cells cs X (0, 0))) /\ (∀ b cs X, b ≠ m -> b ≠ T -> NotOwn w m b -> w.heap[b]? = some (.cells cs X (0, 0)) -> w'.heap[b]? = some (.cells cs X (0, 0)) /\ NotOwn w' m b) /\ ∃ ov c t ask' nm' st', e = .returned (turnV ov c t ask' nm' st') /\ Gn is (ys ++ [y']) B m T (.slice a is.length cap) ov c t ask' nm' st' w' := by
 obtain ⟨hTb, hTm, hBT, hml, hV⟩ := hG
 rcases hV with ⟨h0, _⟩ | ⟨_, _, _, s1, s', rfl, g1, g2, g3, g4, g5⟩
 ·cases h0
 obtain ⟨q1, q2, q3, q4, q5, q6, q7, q8⟩ := step0_look g1
 have h50 : s'.stack.length < 50 := by rw [q7, restL_length]; have := g3.len; omega
 have hTl := blk_lt hTb
 obtain ⟨W, eW⟩ : ∃ W, ((w.alloc (.cells #[.bool y.has, .int .i64 y.code, .string y.text] 49)).alloc (.cells #[.bool false, .int .i64 0, .string ⟨#[]⟩, .bool false, .string ⟨#[]⟩, .int .i64 0] 44)) = W := ⟨_, rfl⟩
 have hb0 : Below w.heap.size w W := by rw [<- eW]; exact ((Below.refl _ _).alloc (Nat.le_refl _) _).alloc (by simp) _
 have hWs : W.heap.size = w.heap.size + 1 + 1 := by rw [<- eW]; simp
 have x0 : W.cell? ⟨w.heap.size, 0, none⟩ = some (.bool y.has) := by rw [<- eW]; simp [go_sem]
 have x1 : W.cell? ⟨w.heap.size, 1, none⟩ = some (.int .i64 y.code) := by rw [<- eW]; simp [go_sem]
 have x2 : W.cell? ⟨w.heap.size, 2, none⟩ = some (.string y.text) := by rw [<- eW]; simp [go_sem]
 have HR : Hid (W.heap[w.heap.size + 1]? = some (.cells #[.bool false, .int .i64 0, .string ⟨#[]⟩, .bool false, .string ⟨#[]⟩, .int .i64 0] 44 (0, 0))) := by
  show W.heap[w.heap.size + 1]? = _
  rw [<- eW]
  have h := heap_new (w.alloc (.cells #[.bool y.has, .int .i64 y.code, .string y.text] 49)) (.cells #[.bool false, .int .i64 0, .string ⟨#[]⟩, .bool false, .string ⟨#[]⟩, .int .i64 0] 44)
  rw [show (w.alloc (.cells #[.bool y.has, .int .i64 y.code, .string y.text] 49)).heap.size = w.heap.size + 1 from by simp] at h
  exact h
 have HTW : Hid (W.heap[T]? = some (.cells #[.bool false, .int .i64 0, .string ⟨#[]⟩, .bool ask, .string nm, .int .i64 s'.steps] 44 (0, 0))) := by
  show W.heap[T]? = _
  rw [hb0.block _ hTl]; exact hTb
 have HKB : Hid (KB B m w W) := KB.old hb0 hB
 have HAn : Hid (∀ _ : Unit, Calls Tryz.prog 22 #[.pointer (some ⟨m, 0, none⟩), turnV false 0 ⟨#[]⟩ ask nm s'.steps, .agg #[.bool y.has, .int .i64 y.code, .string y.text]] W fun e w' => AnsPost is ask nm y s' B m (.slice a is.length cap) W e w') := fun _ =>
  answer_any B m is a cap ask nm y s' W (g5.below hb0) (by omega) hB1 (hcode.belowB (hb0.mono hB)) (hT.below hb0) (hP.below hb0) hv g4 (by omega) h50 hy
 have HG : Hid (step0 is s1 = .look ask nm s' /\ RQ is ys s1 /\ StOk is s1 /\ StOk is s' /\ ansP ask nm y s' = ansP ask nm y' s') := ⟨g1, g2, g3, g4, hyy nm s'⟩
 have HV : Hid (progOk is = true) := hv
 have HWS : Hid (W.heap.size = w.heap.size + 1 + 1) := hWs
 have HML0 : Hid (m < w.heap.size) := hml
 have HIN : Hid (B <= T /\ T ≠ m /\ T < w.heap.size /\ B <= w.heap.size) := ⟨hBT, hTm, hTl, hB⟩
 obtain ⟨k0, k1, k2, k3, k4, k5, kf⟩ := six_cells HTW.out
 obtain ⟨_, _, _, _, _, _, _, _, hmw, _, _⟩ := g5.all
 clear g1 g2 g3 g4 g5 hcode hT hP hv hb0 hTb q1 q2 q3 q4 q5 q6 q7 q8 h50 hWs
 unfold turnV at HAn
 go_enter Tryz.func97, Tryz.ntmps97
 go_wp2_with fail
 clear eW
 refine (HAn.out ()).mono ?_
 rintro e w4 ⟨hk4, hpost⟩
 obtain ⟨ov', c', t', ask', nm', st', rfl, hnext⟩ := ans_vat HV.out HG.out.1 HG.out.2.1 hy HG.out.2.2.2.2 HG.out.2.2.1 HG.out.2.2.2.1 hpost
 have hT4 : w4.heap[T]? = some (.cells #[.bool false, .int .i64 0, .string ⟨#[]⟩, .bool ask, .string nm, .int .i64 s'.steps] 44 (0, 0)) := hk4.keep _ _ 44 (by decide) HIN.out.2.1 HTW.out
 have hR4 : w4.heap[w.heap.size + 1]? = some (.cells #[.bool false, .int .i64 0, .string ⟨#[]⟩, .bool false, .string ⟨#[]⟩, .int .i64 0] 44 (0, 0)) := hk4.keep _ _ 44 (by decide) (by omega) HR.out
 obtain ⟨n1, n2⟩ := storeT rfl hT4 (.bool ov') (.int .i64 c') (.string t') (.bool ask') (.string nm') (.int .i64 st')
 have hTR : T ≠ w.heap.size + 1 := by have := HIN.out.2.2.1; omega
 have hTR' : w.heap.size + 1 ≠ T := fun e => hTR e.symm
 have hR5 := (set6_ne (w := w4) (b := T) (b' := w.heap.size + 1) (fun e => hTR e.symm) (.bool ov') (.int .i64 c') (.string t') (.bool ask') (.string nm') (.int .i64 st')).trans hR4
 obtain ⟨r1, r2⟩ := storeT rfl hR5 (.bool ov') (.int .i64 c') (.string t') (.bool ask') (.string nm') (.int .i64 st')
 have HKB2 : Hid (KB B m w w4) := HKB.out.trans hk4
 have HML : Hid (m < ((((((((((((w4.setCell ⟨T, 0, none⟩ (.bool ov')).setCell ⟨T, 1, none⟩ (.int .i64 c')).setCell ⟨T, 2, none⟩ (.string t')).setCell ⟨T, 3, none⟩ (.bool ask')).setCell ⟨T, 4, none⟩ (.string nm')).setCell ⟨T, 5, none⟩ (.int .i64 st')).setCell ⟨w.heap.size + 1, 0, none⟩ (.bool ov')).setCell ⟨w.heap.size + 1, 1, none⟩ (.int .i64 c')).setCell ⟨w.heap.size + 1, 2, none⟩ (.string t')).setCell ⟨w.heap.size + 1, 3, none⟩ (.bool ask')).setCell ⟨w.heap.size + 1, 4, none⟩ (.string nm')).setCell ⟨w.heap.size + 1, 5, none⟩ (.int .i64 st')).heap.size) := Nat.lt_of_lt_of_le hmw (below_set6 (below_set6 HKB2.out.below HIN.out.1 _ _ _ _ _ _) (b := w.heap.size + 1) (by have := HIN.out.2.2.2; omega) _ _ _ _ _ _).size
 have HNX : Hid (VAt is (ys ++ [y']) B m (.slice a is.length cap) ov' c' t' ask' nm' st' w4) := hnext
 obtain ⟨j0, j1, j2, j3, j4, j5, jf⟩ := six_cells hT4
 obtain ⟨z0, z1, z2, z3, z4, z5, zf⟩ := six_cells hR4
 have HN1 : Hid _ := n1
 have HN2 : Hid _ := n2
 have HR2 : Hid _ := r2
 clear k0 k1 k2 k3 k4 k5 kf hk4 hpost hnext HAn n1 n2 r1 r2 hR5 x0 x1 x2
 unfold turnV
 go_wp2_with fail
 refine bodyPost_ret (v := turnV ov' c' t' ask' nm' st') (by simp [results, Tryz.results97, go_sem, turnV, z0, z1, z2, z3, z4, z5]) rfl ⟨⟨below_set6 (below_set6 HKB2.out.below HIN.out.1 _ _ _ _ _ _) (by have := HIN.out.2.2.2; omega) _ _ _ _ _ _, ?_⟩, ?_, ov', c', t', ask', nm', st', rfl, ?_, HIN.out.2.1, HIN.out.1, HML.out, ?_⟩
 ·intro b cs X hX hbm hbT hb
  have hbl := blk_lt hb
  rw [set6_ne (by omega), set6_ne hbT]
  exact HKB2.out.keep b cs X hX hbm hb
 ·intro b cs X hbm hbT hno hb
  have hbl := blk_lt hb
  have hml' := HML0.out
  obtain ⟨q1, q2⟩ := HKB2.out.own hml' b cs X hbm hno hb
  refine ⟨?_, NotOwn.congr ?_ q2⟩
  ·rw [set6_ne (by omega), set6_ne hbT]
   exact q1
  ·rw [set6_ne (by omega), set6_ne (fun e => HIN.out.2.1 e.symm)]
 ·rw [set6_ne hTR]; exact HN1.out
 ·exact HNX.out.mono (fun ss pl st' lk k => HR2.out _ _ _ _ _ _ _ (HN2.out _ _ _ _ _ _ _ k))
end Go.Proofs.YtmanoabocelpeaaGreatDoor
