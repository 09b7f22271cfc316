import Derived.Test.YtmanoabocelpeaaGreatDoorTClF
namespace Go.Proofs.YtmanoabocelpeaaGreatDoor
open Go.RowKit
set_option linter.unusedVariables false
set_option maxHeartbeats 8000000
set_option maxRecDepth 100000
structure EnvS (W0 : World) (sa ta : Option Addr) (ss : List S2) (ts : List T2) : Prop where
 rs : RowS W0 sa ss
 rt : RowT W0 ta ts
 v : SpV ss ts
 l1 : ss.length <= 200
 l2 : ts.length <= 200
 xc : ∀ i j, (ix (tx ts i).code j).text.size <= 9223372036854775807
def MakeAt (W0 : World) (h : Nat) (sv tv : Value) (ss : List S2) (ts : List T2) (st : List ByteArray) : Prop :=
 ∀ (w : World) (ms : Ms) (nm : ByteArray) (mv kv : Value) (vs : Nat -> Value), Shop W0.heap.size h sv tv w ms st mv kv vs -> Inv ss ts ms st -> NameOk nm -> phi ts ms <= 0 -> Below W0.heap.size W0 w →
  Calls Tryz.prog 29 #[.pointer (some ⟨h, 0, none⟩), .string nm] w fun e w' => MakeP W0.heap.size h sv tv ss ts ms st vs nm w e w'
theorem own_set {w : World} {base e sz n : Nat} {v : Value} {xs : List Value} (ho : w.ownsRow base e sz v n xs) {b : Nat} {T : TypeId} {cs : Array Value} (hb : w.heap[b]? = some (.cells cs T (0, 0))) (hT : T ≠ e) (j : Nat) (u : Value) : (w.setCell ⟨b, j, none⟩ u).ownsRow base e sz v n xs := by
 refine ⟨ho.1, ?_⟩
 rcases ho.2 with r | ⟨g, cap, cur, rfl, hg, hh, r⟩
 ·exact Or.inl r
 ·refine Or.inr ⟨g, cap, cur, rfl, hg, ?_, r⟩
  rw [Below.heap_setCell w ⟨b, j, none⟩ _ g (fun e' => by
   have e' : g = b := e'
   subst e'
   rw [hh] at hb
   injection hb with hb
   injection hb with _ h5
   exact hT h5.symm)]
  exact hh
theorem LooksO.set {w : World} {B : Nat} {v : Value} {ls : List G3} (h : LooksO w B v ls) {b : Nat} {T : TypeId} {cs : Array Value} (hb : w.heap[b]? = some (.cells cs T (0, 0))) (hT : T ≠ 47) (j : Nat) (u : Value) : LooksO (w.setCell ⟨b, j, none⟩ u) B v ls := by
 obtain ⟨xs, h1, h2⟩ := h
 exact ⟨xs, own_set h1 hb hT j u, h2⟩
theorem Shop.set {B h : Nat} {sv tv : Value} {w : World} {ms : Ms} {st : List ByteArray} {mv kv : Value} {vs : Nat -> Value} (s : Shop B h sv tv w ms st mv kv vs) {b : Nat} {T : TypeId} {cs : Array Value} (hb : w.heap[b]? = some (.cells cs T (0, 0))) (h1 : T ≠ 47) (h2 : T ≠ 60) (h3 : T ≠ 9) (hne : b ≠ h) (j : Nat) (u : Value) : Shop B h sv tv (w.setCell ⟨b, j, none⟩ u) ms st mv kv vs :=
 ⟨s.hB, by rw [Below.heap_setCell w ⟨b, j, none⟩ _ h (fun e => hne e.symm)]; exact s.blk, own_set s.row hb h2 j u, own_set s.stk hb h3 j u, fun i d hi e => (s.lks i d hi e).set hb h1 j u⟩
theorem DeadAt.set {h : Nat} {sv tv : Value} {w : World} {a : Ans} {v : Value} (d : DeadAt h sv tv w a v) {b : Nat} (hne : b ≠ h) {T : TypeId} {cs : Array Value} (hb : w.heap[b]? = some (.cells cs T (0, 0))) (hT : T ≠ 9) (j : Nat) (u : Value) : DeadAt h sv tv (w.setCell ⟨b, j, none⟩ u) a v := by
 obtain ⟨mv, kv, c, t, chv, k1, k2, k3⟩ := d
 refine ⟨mv, kv, c, t, chv, by rw [Below.heap_setCell w ⟨b, j, none⟩ _ h (fun e => hne e.symm)]; exact k1, k2, ?_⟩
 cases a with
 | ok d => exact k3
 | circle ch => obtain ⟨e1, e2, base, e3⟩ := k3; exact ⟨e1, e2, base, own_set e3 hb hT j u⟩
 | deep nm => exact k3
theorem DeadAt.set3 {h : Nat} {sv tv : Value} {w : World} {a : Ans} {v : Value} (d : DeadAt h sv tv w a v) {b : Nat} {u0 u1 u2 : Value} (hb : w.heap[b]? = some (.cells #[u0, u1, u2] 32 (0, 0))) (hne : b ≠ h) (v0 v1 v2 : Value) : DeadAt h sv tv (((w.setCell ⟨b, 0, none⟩ v0).setCell ⟨b, 1, none⟩ v1).setCell ⟨b, 2, none⟩ v2) a v := by
 have e1 := Joins.block_setCell hb v0 (i := 0)
 have e2 := Joins.block_setCell e1 v1 (i := 1)
 exact ((d.set hne hb (by decide) 0 v0).set hne e1 (by decide) 1 v1).set hne e2 (by decide) 2 v2
theorem Shop.set3 {B h : Nat} {sv tv : Value} {w : World} {ms : Ms} {st : List ByteArray} {mv kv : Value} {vs : Nat -> Value} (s : Shop B h sv tv w ms st mv kv vs) {b : Nat} {u0 u1 u2 : Value} (hb : w.heap[b]? = some (.cells #[u0, u1, u2] 32 (0, 0))) (hne : b ≠ h) (v0 v1 v2 : Value) : Shop B h sv tv (((w.setCell ⟨b, 0, none⟩ v0).setCell ⟨b, 1, none⟩ v1).setCell ⟨b, 2, none⟩ v2) ms st mv kv vs := by
 have e1 := Joins.block_setCell hb v0 (i := 0)
 have e2 := Joins.block_setCell e1 v1 (i := 1)
 exact ((s.set hb (by decide) (by decide) (by decide) hne 0 v0).set e1 (by decide) (by decide) (by decide) hne 1 v1).set e2 (by decide) (by decide) (by decide) hne 2 v2
theorem LooksO.set3 {w : World} {B : Nat} {v : Value} {ls : List G3} (h : LooksO w B v ls) {b : Nat} {u0 u1 u2 : Value} (hb : w.heap[b]? = some (.cells #[u0, u1, u2] 32 (0, 0))) (v0 v1 v2 : Value) : LooksO (((w.setCell ⟨b, 0, none⟩ v0).setCell ⟨b, 1, none⟩ v1).setCell ⟨b, 2, none⟩ v2) B v ls := by
 have e1 := Joins.block_setCell hb v0 (i := 0)
 have e2 := Joins.block_setCell e1 v1 (i := 1)
 exact ((h.set hb (by decide) 0 v0).set e1 (by decide) 1 v1).set e2 (by decide) 2 v2
theorem ks_set3 {B h b : Nat} {w w' : World} (k : KS B h w w') (hB : B <= b) (hn : w.heap.size <= b) (v0 v1 v2 : Value) : KS B h w (((w'.setCell ⟨b, 0, none⟩ v0).setCell ⟨b, 1, none⟩ v1).setCell ⟨b, 2, none⟩ v2) := ((k.setN hB hn 0 v0).setN hB hn 1 v1).setN hB hn 2 v2
theorem own_set_ne {w : World} {base e sz n : Nat} {v : Value} {xs : List Value} (ho : w.ownsRow base e sz v n xs) {b : Nat} (hb : v.ownBlock ≠ some b) (j : Nat) (u : Value) : (w.setCell ⟨b, j, none⟩ u).ownsRow base e sz v n xs := by
 refine ⟨ho.1, ?_⟩
 rcases ho.2 with r | ⟨g, cap, cur, rfl, hg, hh, r⟩
 ·exact Or.inl r
 ·refine Or.inr ⟨g, cap, cur, rfl, hg, ?_, r⟩
  rw [Below.heap_setCell w ⟨b, j, none⟩ _ g (fun e' => hb (by have e' : g = b := e'; simp [Value.ownBlock, e']))]
  exact hh
theorem Shop.set127 {B h : Nat} {sv tv : Value} {w : World} {ms : Ms} {st : List ByteArray} {mv kv : Value} {vs : Nat -> Value} (s : Shop B h sv tv w ms st mv kv vs) {b : Nat} {u0 u1 u2 : Value} (hb : w.heap[b]? = some (.cells #[u0, u1, u2] 49 (0, 0))) (hne : b ≠ h) (v0 v1 v2 : Value) : Shop B h sv tv (((w.setCell ⟨b, 0, none⟩ v0).setCell ⟨b, 1, none⟩ v1).setCell ⟨b, 2, none⟩ v2) ms st mv kv vs := by
 have e1 := Joins.block_setCell hb v0 (i := 0)
 have e2 := Joins.block_setCell e1 v1 (i := 1)
 exact ((s.set hb (by decide) (by decide) (by decide) hne 0 v0).set e1 (by decide) (by decide) (by decide) hne 1 v1).set e2 (by decide) (by decide) (by decide) hne 2 v2
theorem blk_set3 {w : World} {b b' : Nat} {o : Obj} (h : w.heap[b']? = some o) (hne : b' ≠ b) (v0 v1 v2 : Value) : (((w.setCell ⟨b, 0, none⟩ v0).setCell ⟨b, 1, none⟩ v1).setCell ⟨b, 2, none⟩ v2).heap[b']? = some o := by
 rw [Below.heap_setCell _ ⟨b, 2, none⟩ _ b' hne, Below.heap_setCell _ ⟨b, 1, none⟩ _ b' hne, Below.heap_setCell _ ⟨b, 0, none⟩ _ b' hne]
 exact h
theorem own_set3_ne {w : World} {base e sz n : Nat} {v : Value} {xs : List Value} (ho : w.ownsRow base e sz v n xs) {b : Nat} (hb : v.ownBlock ≠ some b) (v0 v1 v2 : Value) : (((w.setCell ⟨b, 0, none⟩ v0).setCell ⟨b, 1, none⟩ v1).setCell ⟨b, 2, none⟩ v2).ownsRow base e sz v n xs := own_set_ne (own_set_ne (own_set_ne ho hb 0 v0) hb 1 v1) hb 2 v2
theorem KS.grownNew {B h base e sz n : Nat} {W V w' : World} {v : Value} {xs : List Value} (k : KS B h W V) (ho : V.ownsRow base e sz v n xs) (hb : W.heap.size <= base) (hB : B <= W.heap.size) (hg : V.grownBy w' v.ownBlock) : KS B h W w' := by
 have hs := k.below.size
 refine ⟨k.below.grown hg (by omega) (fun q hq => by have := (ho.lt q hq).1; omega), fun b cs T h1 h2 h3 h4 => ?_⟩
 have hl := blk_lt h4
 rw [hg.block b (by omega) (fun e => by have := (ho.lt b e.symm).1; omega)]
 exact k.keep b cs T h1 h2 h3 h4
theorem far_grown {base e sz n : Nat} {V w' : World} {v : Value} {xs : List Value} (ho : V.ownsRow base e sz v n xs) (hg : V.grownBy w' v.ownBlock) {b : Nat} {cs : Array Value} {T : TypeId} (hT : T ≠ e) (h : V.heap[b]? = some (.cells cs T (0, 0))) : w'.heap[b]? = some (.cells cs T (0, 0)) := by
 rw [hg.block b (blk_lt h) ?_]
 ·exact h
 ·intro e1
  rcases ho.2 with ⟨rfl, _⟩ | ⟨g, cap, cur, rfl, hb, hh, _⟩
  ·simp [Value.ownBlock] at e1
  ·simp [Value.ownBlock] at e1
   subst e1
   rw [h] at hh
   injection hh with hh
   injection hh with _ h5
   exact hT h5
def Apart (ms : Ms) (vs : Nat -> Value) (v : Value) : Prop := ∀ i d, i < ms.length -> (mx ms i).2 = some d -> ∀ b, v.ownBlock = some b -> (vs i).ownBlock ≠ some b
theorem Apart.new {B h : Nat} {sv tv : Value} {w : World} {ms : Ms} {st : List ByteArray} {mv kv : Value} {vs : Nat -> Value} (s : Shop B h sv tv w ms st mv kv vs) {v : Value} (hv : ∀ b, v.ownBlock = some b -> w.heap.size <= b) : Apart ms vs v := by
 intro i d hi hd b hb e
 obtain ⟨ys, k1, _⟩ := s.lks i d hi hd
 have := (k1.lt b e).2
 have := hv b hb
 omega
theorem Apart.grown {B h : Nat} {sv tv : Value} {w : World} {ms : Ms} {st : List ByteArray} {mv kv : Value} {vs : Nat -> Value} (s : Shop B h sv tv w ms st mv kv vs) {v : Value} {g n cap : Nat} (a : Apart ms vs v) (hg : v.ownBlock = some g \/ g = w.heap.size) : Apart ms vs (.slice (some ⟨g, 0, none⟩) n cap) := by
 rcases hg with hg | hg
 ·intro i d hi hd b hb
  simp [Value.ownBlock] at hb
  subst hb
  exact a i d hi hd g hg
 ·exact Apart.new s (fun b hb => by simp [Value.ownBlock] at hb; omega)
theorem Apart.fr {w : World} {ms ms' : Ms} {vs vs' : Nat -> Value} {v : Value} (a : Apart ms vs v) (f : Fr w ms vs ms' vs') (hv : ∀ b, v.ownBlock = some b -> b < w.heap.size) : Apart ms' vs' v := by
 intro i d hi hd b hb e
 rcases f i d b hi hd e with ⟨d', q1, q2, q3⟩ | q
 ·exact a i d' q1 q2 b hb q3
 ·have := hv b hb; omega
theorem app_reply {B h base m n : Nat} {sv tv : Value} {W V w' : World} {ms : Ms} {st : List ByteArray} {mv kv yv lv : Value} {vs : Nat -> Value} {xs zs : List Value} {o : Obj} (s : Shop B h sv tv V ms st mv kv vs) (hy : V.ownsRow base 49 3 yv n xs) (hl : V.ownsRow base 47 3 lv m zs) (k : KS B h W V) (hb : W.heap.size <= base) (hB : B <= W.heap.size) (hg : (V.alloc o).grownBy w' yv.ownBlock) :
  Shop B h sv tv w' ms st mv kv vs /\ w'.ownsRow base 47 3 lv m zs /\ KS B h W w' /\ (∀ (b : Nat) (cs : Array Value) (T : TypeId), T ≠ 49 -> V.heap[b]? = some (Obj.cells cs T (0, 0)) -> w'.heap[b]? = some (Obj.cells cs T (0, 0))) := by
 have hbA : Below V.heap.size V (V.alloc o) := (Below.refl _ _).alloc (Nat.le_refl _) _
 have s1 := s.below hbA
 have y1 := ownsRow_below hy hbA
 have l1 := ownsRow_below hl hbA
 have hs := k.below.size
 have k1 : KS B h W (V.alloc o) := k.trans (KS.old hbA (by omega))
 refine ⟨s1.grown y1 hg (by decide) (by decide) (by decide) (lks_ne s1 y1 (by decide)), own_grown l1 y1 (by decide) hg, k1.grownNew y1 hb hB hg, fun b cs T hT hh => far_grown y1 hg hT ?_⟩
 rw [hbA.block b (blk_lt hh)]
 exact hh
theorem app_look {B h base m n : Nat} {sv tv : Value} {W V w' : World} {ms : Ms} {st : List ByteArray} {mv kv yv lv : Value} {vs : Nat -> Value} {xs zs : List Value} {o : Obj} (s : Shop B h sv tv V ms st mv kv vs) (hy : V.ownsRow base 49 3 yv n xs) (hl : V.ownsRow base 47 3 lv m zs) (k : KS B h W V) (hb : W.heap.size <= base) (hB : B <= W.heap.size) (ha : Apart ms vs lv) (hg : (V.alloc o).grownBy w' lv.ownBlock) :
  Shop B h sv tv w' ms st mv kv vs /\ w'.ownsRow base 49 3 yv n xs /\ KS B h W w' /\ (∀ g m' cap', lv.ownBlock = some g \/ g = V.heap.size + 1 -> Apart ms vs (.slice (some ⟨g, 0, none⟩) m' cap')) := by
 have hbA : Below V.heap.size V (V.alloc o) := (Below.refl _ _).alloc (Nat.le_refl _) _
 have s1 := s.below hbA
 have y1 := ownsRow_below hy hbA
 have l1 := ownsRow_below hl hbA
 have hs := k.below.size
 have k1 : KS B h W (V.alloc o) := k.trans (KS.old hbA (by omega))
 refine ⟨s1.grown l1 hg (by decide) (by decide) (by decide) (fun i d hi hd b hb => ha i d hi hd b hb), own_grown y1 l1 (by decide) hg, k1.grownNew l1 hb hB hg, fun g m' cap' hq => Apart.grown s1 ha ?_⟩
 rcases hq with hq | hq
 ·exact Or.inl hq
 ·right; simp; exact hq
theorem step_appH {s x : Operand} {W : World} {ops : Array Oper} {o : Oper} {a : Act} {K : Act -> World -> Prop} {Q : Exit -> Act -> World -> Prop} {E : Prop} (hgd : o.guard = none)
  (ho : o.op = .call { callee := .builtin .append, args := #[s, x], argTypes := #[29, 29] }) (B : Nat) (sa : Option Addr) (nn cap : Nat) (xs : List Value)
  (hs : a.eval s = .slice sa nn cap) (hown : W.ownsRow B 47 3 (.slice sa nn cap) nn xs) (d : Nat) (t u : ByteArray) (q : Bool) (hx : a.eval x = .slice (some ⟨d, 0, none⟩) 1 1) (hc : W.heap[d]? = some (.cells #[.string t, .bool q, .string u] 47 (0, 0))) (hB : B <= W.heap.size) (hn : nn <= 200)
  (h : ∀ g' cap' w', w'.ownsRow B 47 3 (.slice (some ⟨g', 0, none⟩) (nn + 1) cap') (nn + 1) (xs ++ [.string t, .bool q, .string u]) -> W.grownBy w' (Value.slice sa nn cap).ownBlock -> ((Value.slice sa nn cap).ownBlock = some g' \/ g' = W.heap.size) -> K (a.put o.dst (.slice (some ⟨g', 0, none⟩) (nn + 1) cap')) w') :
  if Region.wanted o (yielded ops a.tmps) = true then Oper.wp Tryz.prog o a W K Q else E := by
 obtain ⟨i0, hi, hz0, hz1, hz2⟩ := info_parts Tryz.info47
 refine step_append_lies (w := W) hgd s x 29 ho B 47 i0 (.agg #[.string ⟨#[]⟩, .bool false, .string ⟨#[]⟩]) 3 40 Tryz.underlying29 hi hz0 hz1 hz2 rfl (by decide) _ nn xs hs hown ⟨d, 0, none⟩ 1 1 [.string t, .bool q, .string u] hx rfl
  (World.news_of_block (cs := #[.string t, .bool q, .string u]) (t := 47) (fr := (0, 0)) hc) (by intro u hu; simp at hu; rcases hu with rfl | rfl | rfl <;> rfl) (by omega) (by unfold maxLen; omega) (by omega) hB W.heap.size rfl ?_
 intro g' cap' w' h1 h2 h3 h4
 exact h g' cap' w' h1 h2 h3
end Go.Proofs.YtmanoabocelpeaaGreatDoor
