import Derived.Test.YtbbfboikigmghaaGreatDoorClF
import Derived.Test.YtbbfboikigmghaaGreatDoorDbB
import Derived.Deep.RegionLaw
import Derived.Deep.DeepCutAuto
import Derived.Laws.AppendOwnNone
namespace Go.Proofs.YtbbfboikigmghaaGreatDoor
open Go.RowKit
set_option linter.unusedVariables false
set_option maxHeartbeats 32000000
set_option maxRecDepth 100000
structure EnvS (W0 : World) (sa ta : Option Addr) (ss : List S2) (ts : List T2) : Prop where
  rs : RowS W0 sa ss
  rt : RowT W0 ta ts
  v : SpV ss ts
  l1 : ss.length <= 200
  l2 : ts.length <= 200
  xc : ∀ i j, (ix (tx ts i).code j).text.size <= 9223372036854775807
def MakeAt (W0 : World) (h : Nat) (sv tv : Value) (ss : List S2) (ts : List T2) (st : List ByteArray) : Prop :=
  ∀ (w : World) (ms : Ms) (nm : ByteArray) (mv kv : Value) (vs : Nat -> Value), Shop W0.heap.size h sv tv w ms st mv kv vs -> Inv ss ts ms st -> NameOk nm -> phi ts ms <= 0 -> Below W0.heap.size W0 w →
    Calls Tryz.prog 67 #[.pointer (some ⟨h, 0, none⟩), .string nm] w fun e w' => MakeP W0.heap.size h sv tv ss ts ms st vs nm w e w'
theorem own_set {w : World} {base e sz n : Nat} {v : Value} {xs : List Value} (ho : w.ownsRow base e sz v n xs) {b : Nat} {T : TypeId} {cs : Array Value} (hb : w.heap[b]? = some (.cells cs T (0, 0))) (hT : T ≠ e) (j : Nat) (u : Value) : (w.setCell ⟨b, j, none⟩ u).ownsRow base e sz v n xs := by
  refine ⟨ho.1, ?_⟩
  rcases ho.2 with r | ⟨g, cap, cur, rfl, hg, hh, r⟩
  · exact Or.inl r
  · refine Or.inr ⟨g, cap, cur, rfl, hg, ?_, r⟩
    rw [Below.heap_setCell w ⟨b, j, none⟩ _ g (fun e' => by
      have e' : g = b := e'
      subst e'
      rw [hh] at hb
      injection hb with hb
      injection hb with _ h5
      exact hT h5.symm)]
    exact hh
theorem LooksO.set {w : World} {B : Nat} {v : Value} {ls : List G3} (h : LooksO w B v ls) {b : Nat} {T : TypeId} {cs : Array Value} (hb : w.heap[b]? = some (.cells cs T (0, 0))) (hT : T ≠ 174) (j : Nat) (u : Value) : LooksO (w.setCell ⟨b, j, none⟩ u) B v ls := by
  obtain ⟨xs, h1, h2⟩ := h
  exact ⟨xs, own_set h1 hb hT j u, h2⟩
theorem Shop.set {B h : Nat} {sv tv : Value} {w : World} {ms : Ms} {st : List ByteArray} {mv kv : Value} {vs : Nat -> Value} (s : Shop B h sv tv w ms st mv kv vs) {b : Nat} {T : TypeId} {cs : Array Value} (hb : w.heap[b]? = some (.cells cs T (0, 0))) (h1 : T ≠ 174) (h2 : T ≠ 101) (h3 : T ≠ 9) (hne : b ≠ h) (j : Nat) (u : Value) : Shop B h sv tv (w.setCell ⟨b, j, none⟩ u) ms st mv kv vs :=
  ⟨s.hB, by rw [Below.heap_setCell w ⟨b, j, none⟩ _ h (fun e => hne e.symm)]; exact s.blk, own_set s.row hb h2 j u, own_set s.stk hb h3 j u, fun i d hi e => (s.lks i d hi e).set hb h1 j u⟩
theorem DeadAt.set {h : Nat} {sv tv : Value} {w : World} {ms : Ms} {a : Ans} {v : Value} (d : DeadAt h sv tv w ms a v) {b : Nat} (hne : b ≠ h) {T : TypeId} {cs : Array Value} (hb : w.heap[b]? = some (.cells cs T (0, 0))) (hT : T ≠ 9) (hT2 : T ≠ 101) (j : Nat) (u : Value) : DeadAt h sv tv (w.setCell ⟨b, j, none⟩ u) ms a v := by
  obtain ⟨mv, kv, c, t, chv, k1, k2, k3, bs, vs, k4⟩ := d
  refine ⟨mv, kv, c, t, chv, by rw [Below.heap_setCell w ⟨b, j, none⟩ _ h (fun e => hne e.symm)]; exact k1, k2, ?_, bs, vs, own_set k4 hb hT2 j u⟩
  cases a with
  | ok d => exact k3
  | circle ch => obtain ⟨e1, e2, base, e3⟩ := k3; exact ⟨e1, e2, base, own_set e3 hb hT j u⟩
  | deep nm => exact k3
theorem DeadAt.set3 {h : Nat} {sv tv : Value} {w : World} {ms : Ms} {a : Ans} {v : Value} (d : DeadAt h sv tv w ms a v) {b : Nat} {u0 u1 u2 : Value} (hb : w.heap[b]? = some (.cells #[u0, u1, u2] 96 (0, 0))) (hne : b ≠ h) (v0 v1 v2 : Value) : DeadAt h sv tv (((w.setCell ⟨b, 0, none⟩ v0).setCell ⟨b, 1, none⟩ v1).setCell ⟨b, 2, none⟩ v2) ms a v := by
  have e1 := Joins.block_setCell hb v0 (i := 0)
  have e2 := Joins.block_setCell e1 v1 (i := 1)
  exact ((d.set hne hb (by decide) (by decide) 0 v0).set hne e1 (by decide) (by decide) 1 v1).set hne e2 (by decide) (by decide) 2 v2
theorem Shop.set3 {B h : Nat} {sv tv : Value} {w : World} {ms : Ms} {st : List ByteArray} {mv kv : Value} {vs : Nat -> Value} (s : Shop B h sv tv w ms st mv kv vs) {b : Nat} {u0 u1 u2 : Value} (hb : w.heap[b]? = some (.cells #[u0, u1, u2] 96 (0, 0))) (hne : b ≠ h) (v0 v1 v2 : Value) : Shop B h sv tv (((w.setCell ⟨b, 0, none⟩ v0).setCell ⟨b, 1, none⟩ v1).setCell ⟨b, 2, none⟩ v2) ms st mv kv vs := by
  have e1 := Joins.block_setCell hb v0 (i := 0)
  have e2 := Joins.block_setCell e1 v1 (i := 1)
  exact ((s.set hb (by decide) (by decide) (by decide) hne 0 v0).set e1 (by decide) (by decide) (by decide) hne 1 v1).set e2 (by decide) (by decide) (by decide) hne 2 v2
theorem LooksO.set3 {w : World} {B : Nat} {v : Value} {ls : List G3} (h : LooksO w B v ls) {b : Nat} {u0 u1 u2 : Value} (hb : w.heap[b]? = some (.cells #[u0, u1, u2] 96 (0, 0))) (v0 v1 v2 : Value) : LooksO (((w.setCell ⟨b, 0, none⟩ v0).setCell ⟨b, 1, none⟩ v1).setCell ⟨b, 2, none⟩ v2) B v ls := by
  have e1 := Joins.block_setCell hb v0 (i := 0)
  have e2 := Joins.block_setCell e1 v1 (i := 1)
  exact ((h.set hb (by decide) 0 v0).set e1 (by decide) 1 v1).set e2 (by decide) 2 v2
theorem ks_set3 {B h b : Nat} {w w' : World} (k : KS B h w w') (hB : B <= b) (hn : w.heap.size <= b) (v0 v1 v2 : Value) : KS B h w (((w'.setCell ⟨b, 0, none⟩ v0).setCell ⟨b, 1, none⟩ v1).setCell ⟨b, 2, none⟩ v2) := ((k.setN hB hn 0 v0).setN hB hn 1 v1).setN hB hn 2 v2
theorem own_set_ne {w : World} {base e sz n : Nat} {v : Value} {xs : List Value} (ho : w.ownsRow base e sz v n xs) {b : Nat} (hb : v.ownBlock ≠ some b) (j : Nat) (u : Value) : (w.setCell ⟨b, j, none⟩ u).ownsRow base e sz v n xs := by
  refine ⟨ho.1, ?_⟩
  rcases ho.2 with r | ⟨g, cap, cur, rfl, hg, hh, r⟩
  · exact Or.inl r
  · refine Or.inr ⟨g, cap, cur, rfl, hg, ?_, r⟩
    rw [Below.heap_setCell w ⟨b, j, none⟩ _ g (fun e' => hb (by have e' : g = b := e'; simp [Value.ownBlock, e']))]
    exact hh
theorem Shop.set127 {B h : Nat} {sv tv : Value} {w : World} {ms : Ms} {st : List ByteArray} {mv kv : Value} {vs : Nat -> Value} (s : Shop B h sv tv w ms st mv kv vs) {b : Nat} {u0 u1 u2 : Value} (hb : w.heap[b]? = some (.cells #[u0, u1, u2] 170 (0, 0))) (hne : b ≠ h) (v0 v1 v2 : Value) : Shop B h sv tv (((w.setCell ⟨b, 0, none⟩ v0).setCell ⟨b, 1, none⟩ v1).setCell ⟨b, 2, none⟩ v2) ms st mv kv vs := by
  have e1 := Joins.block_setCell hb v0 (i := 0)
  have e2 := Joins.block_setCell e1 v1 (i := 1)
  exact ((s.set hb (by decide) (by decide) (by decide) hne 0 v0).set e1 (by decide) (by decide) (by decide) hne 1 v1).set e2 (by decide) (by decide) (by decide) hne 2 v2
theorem blk_set3 {w : World} {b b' : Nat} {o : Obj} (h : w.heap[b']? = some o) (hne : b' ≠ b) (v0 v1 v2 : Value) : (((w.setCell ⟨b, 0, none⟩ v0).setCell ⟨b, 1, none⟩ v1).setCell ⟨b, 2, none⟩ v2).heap[b']? = some o := by
  rw [Below.heap_setCell _ ⟨b, 2, none⟩ _ b' hne, Below.heap_setCell _ ⟨b, 1, none⟩ _ b' hne, Below.heap_setCell _ ⟨b, 0, none⟩ _ b' hne]
  exact h
theorem own_set3_ne {w : World} {base e sz n : Nat} {v : Value} {xs : List Value} (ho : w.ownsRow base e sz v n xs) {b : Nat} (hb : v.ownBlock ≠ some b) (v0 v1 v2 : Value) : (((w.setCell ⟨b, 0, none⟩ v0).setCell ⟨b, 1, none⟩ v1).setCell ⟨b, 2, none⟩ v2).ownsRow base e sz v n xs := own_set_ne (own_set_ne (own_set_ne ho hb 0 v0) hb 1 v1) hb 2 v2
theorem KS.grownNew {B h base e sz n : Nat} {W V w' : World} {v : Value} {xs : List Value} (k : KS B h W V) (ho : V.ownsRow base e sz v n xs) (hb : W.heap.size <= base) (hB : B <= W.heap.size) (hg : V.grownBy w' v.ownBlock) : KS B h W w' := by
  have hs := k.below.size
  refine ⟨k.below.grown hg (by omega) (fun q hq => by have := (ho.lt q hq).1; omega), fun b cs T h1 h2 h3 h4 => ?_⟩
  have hl := blk_lt h4
  rw [hg.block b (by omega) (fun e => by have := (ho.lt b e.symm).1; omega)]
  exact k.keep b cs T h1 h2 h3 h4
theorem far_grown {base e sz n : Nat} {V w' : World} {v : Value} {xs : List Value} (ho : V.ownsRow base e sz v n xs) (hg : V.grownBy w' v.ownBlock) {b : Nat} {cs : Array Value} {T : TypeId} (hT : T ≠ e) (h : V.heap[b]? = some (.cells cs T (0, 0))) : w'.heap[b]? = some (.cells cs T (0, 0)) := by
  rw [hg.block b (blk_lt h) ?_]
  · exact h
  · intro e1
    rcases ho.2 with ⟨rfl, _⟩ | ⟨g, cap, cur, rfl, hb, hh, _⟩
    · simp [Value.ownBlock] at e1
    · simp [Value.ownBlock] at e1
      subst e1
      rw [h] at hh
      injection hh with hh
      injection hh with _ h5
      exact hT h5
def Apart (ms : Ms) (vs : Nat -> Value) (v : Value) : Prop := ∀ i d, i < ms.length -> (mx ms i).2 = some d -> ∀ b, v.ownBlock = some b -> (vs i).ownBlock ≠ some b
theorem Apart.new {B h : Nat} {sv tv : Value} {w : World} {ms : Ms} {st : List ByteArray} {mv kv : Value} {vs : Nat -> Value} (s : Shop B h sv tv w ms st mv kv vs) {v : Value} (hv : ∀ b, v.ownBlock = some b -> w.heap.size <= b) : Apart ms vs v := by
  intro i d hi hd b hb e
  obtain ⟨ys, k1, _⟩ := s.lks i d hi hd
  have := (k1.lt b e).2
  have := hv b hb
  omega
theorem Apart.grown {B h : Nat} {sv tv : Value} {w : World} {ms : Ms} {st : List ByteArray} {mv kv : Value} {vs : Nat -> Value} (s : Shop B h sv tv w ms st mv kv vs) {v : Value} {g n cap : Nat} (a : Apart ms vs v) (hg : v.ownBlock = some g \/ g = w.heap.size) : Apart ms vs (.slice (some ⟨g, 0, none⟩) n cap) := by
  rcases hg with hg | hg
  · intro i d hi hd b hb
    simp [Value.ownBlock] at hb
    subst hb
    exact a i d hi hd g hg
  · exact Apart.new s (fun b hb => by simp [Value.ownBlock] at hb; omega)
theorem Apart.fr {w : World} {ms ms' : Ms} {vs vs' : Nat -> Value} {v : Value} (a : Apart ms vs v) (f : Fr w ms vs ms' vs') (hv : ∀ b, v.ownBlock = some b -> b < w.heap.size) : Apart ms' vs' v := by
  intro i d hi hd b hb e
  rcases f i d b hi hd e with ⟨d', q1, q2, q3⟩ | q
  · exact a i d' q1 q2 b hb q3
  · have := hv b hb; omega
theorem app_reply {B h base m n : Nat} {sv tv : Value} {W V w' : World} {ms : Ms} {st : List ByteArray} {mv kv yv lv : Value} {vs : Nat -> Value} {xs zs : List Value} {o : Obj} (s : Shop B h sv tv V ms st mv kv vs) (hy : V.ownsRow base 170 3 yv n xs) (hl : V.ownsRow base 174 3 lv m zs) (k : KS B h W V) (hb : W.heap.size <= base) (hB : B <= W.heap.size) (hg : (V.alloc o).grownBy w' yv.ownBlock) :
    Shop B h sv tv w' ms st mv kv vs /\ w'.ownsRow base 174 3 lv m zs /\ KS B h W w' /\ (∀ (b : Nat) (cs : Array Value) (T : TypeId), T ≠ 170 -> V.heap[b]? = some (Obj.cells cs T (0, 0)) -> w'.heap[b]? = some (Obj.cells cs T (0, 0))) := by
  have hbA : Below V.heap.size V (V.alloc o) := (Below.refl _ _).alloc (Nat.le_refl _) _
  have s1 := s.below hbA
  have y1 := ownsRow_below hy hbA
  have l1 := ownsRow_below hl hbA
  have hs := k.below.size
  have k1 : KS B h W (V.alloc o) := k.trans (KS.old hbA (by omega))
  refine ⟨s1.grown y1 hg (by decide) (by decide) (by decide) (lks_ne s1 y1 (by decide)), own_grown l1 y1 (by decide) hg, k1.grownNew y1 hb hB hg, fun b cs T hT hh => far_grown y1 hg hT ?_⟩
  rw [hbA.block b (blk_lt hh)]
  exact hh
theorem app_look {B h base m n : Nat} {sv tv : Value} {W V w' : World} {ms : Ms} {st : List ByteArray} {mv kv yv lv : Value} {vs : Nat -> Value} {xs zs : List Value} {o : Obj} (s : Shop B h sv tv V ms st mv kv vs) (hy : V.ownsRow base 170 3 yv n xs) (hl : V.ownsRow base 174 3 lv m zs) (k : KS B h W V) (hb : W.heap.size <= base) (hB : B <= W.heap.size) (ha : Apart ms vs lv) (hg : (V.alloc o).grownBy w' lv.ownBlock) :
    Shop B h sv tv w' ms st mv kv vs /\ w'.ownsRow base 170 3 yv n xs /\ KS B h W w' /\ (∀ g m' cap', lv.ownBlock = some g \/ g = V.heap.size + 1 -> Apart ms vs (.slice (some ⟨g, 0, none⟩) m' cap')) := by
  have hbA : Below V.heap.size V (V.alloc o) := (Below.refl _ _).alloc (Nat.le_refl _) _
  have s1 := s.below hbA
  have y1 := ownsRow_below hy hbA
  have l1 := ownsRow_below hl hbA
  have hs := k.below.size
  have k1 : KS B h W (V.alloc o) := k.trans (KS.old hbA (by omega))
  refine ⟨s1.grown l1 hg (by decide) (by decide) (by decide) (fun i d hi hd b hb => ha i d hi hd b hb), own_grown y1 l1 (by decide) hg, k1.grownNew l1 hb hB hg, fun g m' cap' hq => Apart.grown s1 ha ?_⟩
  rcases hq with hq | hq
  · exact Or.inl hq
  · right; simp; exact hq
theorem step_appH {s x : Operand} {W : World} {ops : Array Oper} {o : Oper} {a : Act} {K : Act -> World -> Prop} {Q : Exit -> Act -> World -> Prop} {E : Prop} (hgd : o.guard = none)
    (ho : o.op = .call { callee := .builtin .append, args := #[s, x], argTypes := #[99, 99] }) (B : Nat) (sa : Option Addr) (nn cap : Nat) (xs : List Value)
    (hs : a.eval s = .slice sa nn cap) (hown : W.ownsRow B 174 3 (.slice sa nn cap) nn xs) (d : Nat) (t u : ByteArray) (q : Bool) (hx : a.eval x = .slice (some ⟨d, 0, none⟩) 1 1) (hc : W.heap[d]? = some (.cells #[.string t, .bool q, .string u] 174 (0, 0))) (hB : B <= W.heap.size) (hn : nn <= 200)
    (h : ∀ g' cap' w', w'.ownsRow B 174 3 (.slice (some ⟨g', 0, none⟩) (nn + 1) cap') (nn + 1) (xs ++ [.string t, .bool q, .string u]) -> W.grownBy w' (Value.slice sa nn cap).ownBlock -> ((Value.slice sa nn cap).ownBlock = some g' \/ g' = W.heap.size) -> K (a.put o.dst (.slice (some ⟨g', 0, none⟩) (nn + 1) cap')) w') :
    if Region.wanted o (yielded ops a.tmps) = true then Oper.wp Tryz.prog o a W K Q else E := by
  obtain ⟨i0, hi, hz0, hz1, hz2⟩ := info_parts Tryz.info174
  refine step_append_lies (w := W) hgd s x 99 ho B 174 i0 (.agg #[.string ⟨#[]⟩, .bool false, .string ⟨#[]⟩]) 3 40 Tryz.underlying99 hi hz0 hz1 hz2 rfl (by decide) _ nn xs hs hown ⟨d, 0, none⟩ 1 1 [.string t, .bool q, .string u] hx rfl
    (World.news_of_block (cs := #[.string t, .bool q, .string u]) (t := 174) (fr := (0, 0)) hc) (by intro u hu; simp at hu; rcases hu with rfl | rfl | rfl <;> rfl) (by omega) (by unfold maxLen; omega) (by omega) hB W.heap.size rfl ?_
  intro g' cap' w' h1 h2 h3 h4
  exact h g' cap' w' h1 h2 h3
section
open Go.Deep
theorem bk8' {w : World} {b : Nat} {v0 v1 v2 v3 v4 v5 v6 v7 : Value} {T : TypeId} (h : w.heap[b]? = some (.cells #[v0, v1, v2, v3, v4, v5, v6, v7] T (0, 0))) : (w.cell? ⟨b, 0, none⟩ = some v0 /\ w.cell? ⟨b, 1, none⟩ = some v1 /\ w.cell? ⟨b, 2, none⟩ = some v2 /\ w.cell? ⟨b, 3, none⟩ = some v3) /\ (w.cell? ⟨b, 4, none⟩ = some v4 /\ w.cell? ⟨b, 5, none⟩ = some v5 /\ w.cell? ⟨b, 6, none⟩ = some v6 /\ w.cell? ⟨b, 7, none⟩ = some v7) /\ ∀ j, w.frozen? ⟨b, j, none⟩ = false := by
  refine ⟨⟨?_, ?_, ?_, ?_⟩, ⟨?_, ?_, ?_, ?_⟩, fun j => Lib.frozen_of_heap h j⟩ <;> rw [Lib.cell_of_heap h] <;> rfl
theorem mk6_done' {e : ByteArray × Option Md} {v : Value} {d : Md} (h : e.2 = some d) : mk6 e v = [.string e.1, .int .i64 d.c, .string d.t, .slice none 0 0, v, .bool true] := by unfold mk6; rw [h]
theorem mk6_not' {e : ByteArray × Option Md} {v : Value} (h : e.2 = none) : mk6 e v = [.string e.1, .int .i64 0, .string ⟨#[]⟩, .slice none 0 0, .slice none 0 0, .bool false] := by unfold mk6; rw [h]
theorem blk_lt_row {w : World} {B e sz n m cap g : Nat} {xs : List Value} (h : w.ownsRow B e sz (.slice (some ⟨g, 0, none⟩) n cap) m xs) : B <= w.heap.size := by
  rcases h.2 with ⟨q, _⟩ | ⟨g1, cap1, cur, q, hg, hh, _⟩
  · cases q
  · have := blk_lt hh; omega
/-- What l3Clean leaves: the shop, and the row of what was made. -/
def CleanQ (B : Nat) (ss : List S2) (tp : List T2) (nm : ByteArray) (e : Ending) (w' : World) : Prop :=
  ∃ (h : Nat) (ms : Ms) (a : Ans) (vs : Nat -> Value) (x0 x1 mv x3 x4 x5 x6 x7 : Value) (bs : Nat), e = .returned (.pointer (some ⟨h, 0, none⟩)) /\ B <= h /\ Does ss tp [] [] (.make nm) ms a /\ w'.heap[h]? = some (.cells #[x0, x1, mv, x3, x4, x5, x6, x7] 98 (0, 0)) /\ w'.ownsRow bs 101 6 mv ms.length (msC ms vs)
theorem l5Texts_of (n tb : Nat) (ra sa ua : Option Addr) (tc rl rc c1 c2 : Nat) (ts : List ByteArray) (ss : List S2) (tp : List T2) (nm : ByteArray) (w : World) (hE : EnvS w sa ua ss tp) (hnm : NameOk nm) (hst : Strs w (some ⟨tb, 0, none⟩) ts) (htx : TxOk n ts)
    (hC : ∀ V, Below w.heap.size w V -> Calls Tryz.prog 43 #[.agg #[.slice sa ss.length c1, .slice ua tp.length c2], .string nm] V fun e w' => Below V.heap.size V w' /\ CleanQ V.heap.size ss tp nm e w') :
    Calls Tryz.prog 19 #[.agg #[.int .i64 n, .slice (some ⟨tb, 0, none⟩) ts.length tc, .slice ra rl rc], .agg #[.slice sa ss.length c1, .slice ua tp.length c2], .string nm] w fun e w' => Below w.heap.size w w' /\ L5P w.heap.size ts ss tp nm e w' := by
  obtain ⟨W, eW⟩ : ∃ W, (w.alloc (.cells #[.int .i64 n, .slice (some ⟨tb, 0, none⟩) ts.length tc, .slice ra rl rc] 36)).alloc (.cells #[.slice sa ss.length c1, .slice ua tp.length c2] 41) = W := ⟨_, rfl⟩
  have hbW : Below w.heap.size w W := by rw [<- eW]; exact ((Below.refl _ _).alloc (Nat.le_refl _) _).alloc (by simp) _
  have hWa : W.heap[w.heap.size]? = some (.cells #[.int .i64 n, .slice (some ⟨tb, 0, none⟩) ts.length tc, .slice ra rl rc] 36 (0, 0)) := by
    rw [<- eW, Lib.alloc_old _ _ _ (by simp)]; exact heap_new _ _
  have hWb : W.heap[w.heap.size + 1]? = some (.cells #[.slice sa ss.length c1, .slice ua tp.length c2] 41 (0, 0)) := by
    rw [<- eW]
    have h := heap_new (w.alloc (.cells #[.int .i64 n, .slice (some ⟨tb, 0, none⟩) ts.length tc, .slice ra rl rc] 36)) (.cells #[.slice sa ss.length c1, .slice ua tp.length c2] 41)
    rw [show (w.alloc (.cells #[.int .i64 n, .slice (some ⟨tb, 0, none⟩) ts.length tc, .slice ra rl rc] 36)).heap.size = w.heap.size + 1 from by simp] at h
    exact h
  have k1 : W.cell? ⟨w.heap.size, 1, none⟩ = some (.slice (some ⟨tb, 0, none⟩) ts.length tc) := by rw [Lib.cell_of_heap hWa]; rfl
  have j0 : W.cell? ⟨w.heap.size + 1, 0, none⟩ = some (.slice sa ss.length c1) := by rw [Lib.cell_of_heap hWb]; rfl
  have j1 : W.cell? ⟨w.heap.size + 1, 1, none⟩ = some (.slice ua tp.length c2) := by rw [Lib.cell_of_heap hWb]; rfl
  have HB : Hid (Below w.heap.size w W) := hbW
  have HS : Hid (Strs W (some ⟨tb, 0, none⟩) ts) := hst.below hbW
  have HV : Hid (SpV ss tp /\ tp.length <= 200 /\ NameOk nm /\ TxOk n ts) := ⟨hE.v, hE.l2, hnm, htx⟩
  have HC := (show Hid _ from hC)
  have hlt : ts.length <= 5000 := htx.1
  obtain ⟨i9, hi9, hz9, hs9, hb9⟩ := info_parts Tryz.info9b
  have hWs : w.heap.size <= W.heap.size := hbW.size
  have HWB : Hid (W.heap[w.heap.size + 1]? = some (.cells #[.slice sa ss.length c1, .slice ua tp.length c2] 41 (0, 0))) := hWb
  have hW2 : w.heap.size + 1 < W.heap.size := blk_lt hWb
  have HO0 : Hid ((W.alloc (.cells #[] 9)).ownsRow W.heap.size 9 1 (.slice (some ⟨W.heap.size, 0, none⟩) 0 0) 0 []) := World.ownsRow_lit (base := W.heap.size) (e := 9) (size := 1) W #[] 0 (by simp) (by unfold maxLen; omega) rfl
  have HNW : Hid (∀ j u, (strV ts)[j]? = some u -> (W.alloc (.cells #[] 9)).cell? ((⟨tb, 0, none⟩ : Addr).add j) = some u) := fun j u hu => by
    have hj : j < ts.length := by
      rcases Nat.lt_or_ge j ts.length with q | q
      · exact q
      · rw [List.getElem?_eq_none (by simpa [strV] using q)] at hu; cases hu
    rw [strV_nx ts j hj] at hu
    cases hu
    obtain ⟨b, off, e, hc⟩ := (HS.out.below ((Below.refl _ _).alloc (Nat.le_refl _) (.cells #[] 9))) j hj
    cases e
    rw [Addr.add_lit]
    exact hc
  replace k1 := cell_below ((Below.refl _ _).alloc (Nat.le_refl _) (.cells #[] 9) : Below W.heap.size W _) k1
  clear hE hnm hst htx hC hWa hWb hbW j0 j1
  go_enter Tryz.func19, Tryz.ntmps19
  go_wp2_with (first | (at_builtin; refine wpList_append_own _ rfl (.tmp 10) (.tmp 12) 22 rfl W.heap.size 9 i9 (.string ⟨#[]⟩) 1 16 Tryz.underlying22 hi9 hz9 hs9 hb9 rfl (by decide) _ 0 [] rfl HO0.out ⟨tb, 0, none⟩ ts.length tc (strV ts) rfl (by simp [strV]) HNW.out (by intro u hu; obtain ⟨z, _, rfl⟩ := List.mem_map.mp hu; rfl) (by unfold maxLen; omega) (by omega) (by simp) ?_; intro v4 w4 hown4 hgrow4 hnil4; obtain ⟨a4, cp4, rfl⟩ : ∃ a cp, v4 = .slice a (0 + ts.length) cp := (by rcases hown4.2 with ⟨e, h0⟩ | ⟨g, cap, cur, e, _⟩; (exact ⟨none, 0, by rw [e, h0]⟩); (exact ⟨_, cap, e⟩)); rw [Nat.zero_add, List.nil_append] at hown4; have HO4 : Hid (w4.ownsRow W.heap.size 9 1 (.slice a4 ts.length cp4) ts.length (strV ts)) := hown4; have HG4 : Hid ((W.alloc (.cells #[] 9)).grownBy w4 (Value.slice (some ⟨W.heap.size, 0, none⟩) 0 0).ownBlock) := hgrow4; have hs4 : W.heap.size + 1 <= w4.heap.size := (by have := hgrow4.size; simpa using this); clear hown4 hgrow4 hnil4) | (at_builtin; refine wpList_append_own _ rfl (.tmp 13) (.tmp 14) 22 rfl W.heap.size 9 i9 (.string ⟨#[]⟩) 1 16 Tryz.underlying22 hi9 hz9 hs9 hb9 rfl (by decide) (.slice a4 ts.length cp4) ts.length (strV ts) ?_ (HO4.out.alloc _) ⟨w4.heap.size, 0, none⟩ 2 2 [.string ⟨#[49]⟩, .string ⟨#[48]⟩] rfl rfl (World.news_of_block (cs := #[.string ⟨#[49]⟩, .string ⟨#[48]⟩]) (t := 9) (fr := (0, 0)) (heap_new _ _)) (by intro u hu; simp at hu; rcases hu with rfl | rfl <;> rfl) (by unfold maxLen; omega) (by omega) (by simp; omega) ?_; (focus (simp [Act.eval]; done)); intro v5 w5 hown5 hgrow5 hnil5; obtain ⟨g5, cp5, rfl⟩ : ∃ g cp, v5 = .slice (some ⟨g, 0, none⟩) (ts.length + 2) cp := (by rcases hown5.2 with ⟨e, h0⟩ | ⟨g, cap, cur, e, _⟩; (omega); (exact ⟨g, cap, e⟩)); have HO5 : Hid (w5.ownsRow W.heap.size 9 1 (.slice (some ⟨g5, 0, none⟩) (ts.length + 2) cp5) (ts.length + 2) (strV ts ++ [.string ⟨#[49]⟩, .string ⟨#[48]⟩])) := hown5; have hB5 : w5.heap[w.heap.size + 1]? = some (.cells #[.slice sa ss.length c1, .slice ua tp.length c2] 41 (0, 0)) := (by rw [hgrow5.block _ (by simp; omega) (fun e => by rcases HO4.out.2 with ⟨q, _⟩ | ⟨g, cap, cur, q, hg, _⟩; (rw [q] at e; simp [Value.ownBlock] at e); (rw [q] at e; simp [Value.ownBlock] at e; omega)), Lib.alloc_old _ _ _ (by omega), HG4.out.block _ (by simp; omega) (by simp [Value.ownBlock]; omega), Lib.alloc_old _ _ _ (by omega)]; exact HWB.out); have j0 : w5.cell? ⟨w.heap.size + 1, 0, none⟩ = some (.slice sa ss.length c1) := (by rw [Lib.cell_of_heap hB5]; rfl); have j1 : w5.cell? ⟨w.heap.size + 1, 1, none⟩ = some (.slice ua tp.length c2) := (by rw [Lib.cell_of_heap hB5]; rfl); have HG5 : Hid ((w4.alloc (.cells #[.string ⟨#[49]⟩, .string ⟨#[48]⟩] 9)).grownBy w5 (Value.slice a4 ts.length cp4).ownBlock) := hgrow5; clear hown5 hgrow5 hnil5 hB5))
  have HB5 : Hid (Below w.heap.size w w5) := by
    have h1 : Below w.heap.size w w4 := below_grown (HB.out.alloc hWs _) (own_base HO0.out hWs) HG4.out (by simp; omega)
    exact below_grown (h1.alloc (by omega) _) (own_base (HO4.out.alloc _) hWs) HG5.out (by simp; omega)
  refine (HC.out _ HB5.out).mono ?_
  rintro e w6 ⟨hb6, h, ms, an, vs, x0, x1, mv, x3, x4, x5, x6, x7, bs, rfl, hh, hdo, hblk, hrow⟩
  obtain ⟨st', hinv, hml⟩ := Does.small HV.out.1 HV.out.2.1 HV.out.2.2.1 hdo
  have HINV : Hid (Inv ss tp ms st' /\ Does ss tp [] [] (.make nm) ms an) := ⟨hinv, hdo⟩
  obtain ⟨ma, mc, rfl⟩ : ∃ a cap, mv = .slice a ms.length cap := by
    rcases hrow.2 with ⟨e, h0⟩ | ⟨g, cap, cur, e, _⟩
    · exact ⟨none, 0, by rw [e, h0]⟩
    · exact ⟨_, _, e⟩
  have HO6 : Hid (w6.ownsRow W.heap.size 9 1 (.slice (some ⟨g5, 0, none⟩) (ts.length + 2) cp5) (ts.length + 2) (strV ts ++ [.string ⟨#[49]⟩, .string ⟨#[48]⟩])) := ownsRow_below HO5.out hb6
  have HB6 : Hid (Below w.heap.size w w6) := bt HB5.out hb6
  have HBL : Hid (w6.heap[h]? = some (.cells #[x0, x1, .slice ma ms.length mc, x3, x4, x5, x6, x7] 98 (0, 0))) := hblk
  have HRW : Hid (w6.ownsRow bs 101 6 (.slice ma ms.length mc) ms.length (msC ms vs)) := hrow
  clear hb6 hh hdo hblk hrow hinv HO5 HO4 HG4 HG5 HO0 HNW HC HWB
  go_wp2_with fail
  go_loopw [7, 9] (fun l i wr => ∃ k m g' cp : Nat, k <= ms.length /\ m = (ts ++ [one1, zero1] ++ forms (ms.take k)).length /\ l = .slice (some ⟨g', 0, none⟩) m cp /\ i = .int .i64 k /\ Hid (wr.ownsRow W.heap.size 9 1 (.slice (some ⟨g', 0, none⟩) m cp) m (strV (ts ++ [one1, zero1] ++ forms (ms.take k)))) /\ Hid (wr.heap[h]? = some (.cells #[x0, x1, .slice ma ms.length mc, x3, x4, x5, x6, x7] 98 (0, 0))) /\ Hid (wr.ownsRow bs 101 6 (.slice ma ms.length mc) ms.length (msC ms vs)) /\ Hid (Below w.heap.size w wr)) (fun _ i _ => ms.length - (intOf i).toNat)
  case atStart =>
    refine ⟨0, ts.length + 2, g5, cp5, Nat.zero_le _, by simp [forms], rfl, rfl, ?_, HBL, HRW, HB6⟩
    show World.ownsRow _ _ _ _ _ _ _
    have := HO6.out
    simpa [forms, strV, one1, zero1] using this
  case round =>
    obtain ⟨k, m, g', cp, hk, hm, rfl, rfl, HL, HH, HM, HBR⟩ := hrel
    obtain ⟨⟨y0, y1, y2, y3⟩, ⟨y4, y5, y6, y7⟩, yf⟩ := bk8' HH.out
    by_cases hlt2 : k < ms.length
    · have hkI : (k : Int) < (ms.length : Int) := by omega
      obtain ⟨gm, rfl⟩ : ∃ gm, ma = some ⟨gm, 0, none⟩ := by
        rcases HM.out.2 with ⟨e, h0⟩ | ⟨g, cap, cur, e, _⟩
        · omega
        · simp only [Value.slice.injEq] at e; exact ⟨g, e.1⟩
      have hc : ∀ j, j < 6 -> wr.cell? ⟨gm, k * 6 + j, none⟩ = (mk6 (mx ms k) (vs k))[j]? := fun j hj => by rw [HM.out.cellAt (k * 6 + j) (by omega), msC_get ms vs k j hlt2 hj]
      have hft := forms_snoc ms k hlt2
      cases hd : (mx ms k).2 with
      | none =>
        have c5 := hc 5 (by omega)
        rw [mk6_not' hd] at c5
        simp only [List.getElem?_cons_zero, List.getElem?_cons_succ] at c5
        have hfo : fo1 (mx ms k) = [] := by unfold fo1; rw [hd]
        rw [hfo, List.append_nil] at hft
        have HF : Hid (forms (ms.take (k + 1)) = forms (ms.take k)) := hft
        clear hc hft hfo hd
        go_wp2_with fail
        go_roundw
        case rel => exact ⟨k + 1, m, g', cp, by omega, by rw [HF.out]; exact hm, rfl, by go_num, by rw [HF.out]; exact HL, HH, HM, HBR⟩
        case measure => simp [intOf]; omega
      | some d =>
        have c5 := hc 5 (by omega)
        have c1' := hc 1 (by omega)
        have c2' := hc 2 (by omega)
        have c3' := hc 3 (by omega)
        rw [mk6_done' hd] at c5 c1' c2' c3'
        simp only [List.getElem?_cons_zero, List.getElem?_cons_succ] at c5 c1' c2' c3'
        have hdo := HINV.out.1.done (mx ms k).1 d (by rw [lk_mx HINV.out.1.nd hlt2, hd])
        have hfo : fo1 (mx ms k) = [formB d.c d.t] := by unfold fo1; rw [hd]
        rw [hfo] at hft
        have h0 := hdo.c0
        have h5 := hdo.c5
        have ht2 := hdo.t2
        obtain ⟨dc, dt, dls⟩ := d
        simp only at h0 h5 ht2 hft c1' c2' c3'
        obtain ⟨f, ef⟩ : ∃ f, formB dc dt = f := ⟨_, rfl⟩
        rw [ef] at hft
        have HF : Hid (forms (ms.take (k + 1)) = forms (ms.take k) ++ [f]) := hft
        have EF : Hid (formB dc dt = f) := ef
        clear hc hft hfo hd hdo ef
        have hmb : m <= 50000 := by
          have := forms_length (ms.take k)
          rw [List.length_take] at this
          rw [hm, List.length_append, List.length_append]
          simp only [List.length_cons, List.length_nil]
          omega
        have HMM : Hid (m = (ts ++ [one1, zero1] ++ forms (ms.take k)).length) := hm
        clear hm
        go_wp2_with fail
        refine (specForm_in dc dt wr h0 h5 ht2).mono ?_
        rintro e w7 ⟨rfl, hb7⟩
        rw [EF.out]
        have HL7 : Hid (w7.ownsRow W.heap.size 9 1 (.slice (some ⟨g', 0, none⟩) m cp) m (strV (ts ++ [one1, zero1] ++ forms (ms.take k)))) := ownsRow_below HL.out hb7
        have HH7 : Hid (w7.heap[h]? = some (.cells #[x0, x1, .slice (some ⟨gm, 0, none⟩) ms.length mc, x3, x4, x5, x6, x7] 98 (0, 0))) := blk_keep hb7 HH.out
        have HM7 : Hid (w7.ownsRow bs 101 6 (.slice (some ⟨gm, 0, none⟩) ms.length mc) ms.length (msC ms vs)) := ownsRow_below HM.out hb7
        have HB7 : Hid (Below w.heap.size w w7) := bt HBR.out hb7
        have hs7 : W.heap.size <= w7.heap.size := Nat.le_trans (Nat.le_trans (blk_lt_row HL.out) (Nat.le_refl _)) hb7.size
        clear hb7 c5 c1' c2' c3' y0 y1 y2 y3 y4 y5 y6 y7 yf
        go_wp2_with (first | (at_builtin; refine wpList_append_own _ rfl (.tmp 36) (.tmp 46) 22 rfl W.heap.size 9 i9 (.string ⟨#[]⟩) 1 16 Tryz.underlying22 hi9 hz9 hs9 hb9 rfl (by decide) (.slice (some ⟨g', 0, none⟩) m cp) m (strV (ts ++ [one1, zero1] ++ forms (ms.take k))) ?_ (HL7.out.alloc _) ⟨w7.heap.size, 0, none⟩ 1 1 [.string f] rfl rfl (World.news_of_block (cs := #[.string f]) (t := 9) (fr := (0, 0)) (heap_new _ _)) (by intro u hu; simp at hu; subst hu; rfl) (by unfold maxLen; omega) (by omega) (by simp; omega) ?_; (focus (simp [Act.eval]; done)); intro v8 w8 hown8 hgrow8 hnil8; obtain ⟨g8, cp8, rfl⟩ : ∃ g cp, v8 = .slice (some ⟨g, 0, none⟩) (m + 1) cp := (by rcases hown8.2 with ⟨e, h0⟩ | ⟨g, cap, cur, e, _⟩; (omega); (exact ⟨g, cap, e⟩)); have HO8 : Hid (w8.ownsRow W.heap.size 9 1 (.slice (some ⟨g8, 0, none⟩) (m + 1) cp8) (m + 1) (strV (ts ++ [one1, zero1] ++ forms (ms.take k)) ++ [.string f])) := hown8; have HG8 : Hid ((w7.alloc (.cells #[.string f] 9)).grownBy w8 (Value.slice (some ⟨g', 0, none⟩) m cp).ownBlock) := hgrow8; clear hown8 hgrow8 hnil8))
        go_roundw
        case rel =>
          have hbA : Below w7.heap.size w7 (w7.alloc (.cells #[.string f] 9)) := (Below.refl _ _).alloc (Nat.le_refl _) _
          refine ⟨k + 1, m + 1, g8, cp8, by omega, ?_, rfl, by go_num, ?_, far_grown (HL7.out.alloc _) HG8.out (by decide) (blk_keep hbA HH7.out), own_grown (ownsRow_below HM7.out hbA) (HL7.out.alloc _) (by decide) HG8.out, below_grown (HB7.out.alloc (by omega) _) (own_base (HL7.out.alloc _) hWs) HG8.out (by simp; omega)⟩
          · rw [HF.out, HMM.out]; simp; omega
          · show World.ownsRow _ _ _ _ _ _ _
            rw [HF.out]
            have := HO8.out
            simpa [strV] using this
        case measure => simp [intOf]; omega
    · obtain rfl : k = ms.length := by omega
      have hkI : ¬ (ms.length : Int) < (ms.length : Int) := by omega
      rw [List.take_length] at hm
      have HLF : Hid (wr.ownsRow W.heap.size 9 1 (.slice (some ⟨g', 0, none⟩) m cp) m (strV (dbT ts ms))) := by
        have := HL.out
        rw [List.take_length] at this
        exact this
      have hmb : m <= 50000 := by
        have := forms_length ms
        rw [hm, List.length_append, List.length_append]
        simp only [List.length_cons, List.length_nil]
        omega
      have HM2 : Hid (m = (dbT ts ms).length) := hm
      clear hm
      go_wp2_with fail
      refine bodyPost_ret (v := .slice (some ⟨g', 0, none⟩) m cp) (by simp [results, Tryz.results19, go_sem]) rfl ⟨HBR.out, g', cp, ms, an, by rw [<- HM2.out], HINV.out.2, by rw [<- HM2.out]; exact hmb, dbT_small HV.out.2.2.2 HINV.out.1, Nat.le_trans hWs (row_base HLF.out), ?_⟩
      rw [<- HM2.out]
      exact own_base HLF.out hWs
end
end Go.Proofs.YtbbfboikigmghaaGreatDoor
