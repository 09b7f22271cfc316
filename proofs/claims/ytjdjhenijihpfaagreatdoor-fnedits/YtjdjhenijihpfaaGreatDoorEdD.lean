import Derived.Test.YtjdjhenijihpfaaGreatDoorEdA
namespace Go.Proofs.YtjdjhenijihpfaaGreatDoor
open Go.RowKit Go.Deep
set_option linter.unusedVariables false

theorem blk_gb {W W' : World} {R b : Nat} {o : Obj} (h : W.heap[b]? = some o) (hg : W.grownBy W' (some R)) (hne : b ≠ R) : W'.heap[b]? = some o := by rw [hg.block b (blkW_lt h) (fun e => by injection e with e; omega)]; exact h
theorem blk_grow {W W' : World} {b : Nat} {row : Option Nat} {o : Obj} (h : W.heap[b]? = some o) (hg : W.grownBy W' row) (hne : row ≠ some b) : W'.heap[b]? = some o := by rw [hg.block b (blkW_lt h) (fun e => hne e.symm)]; exact h
theorem blk_set {W : World} {b c j : Nat} {o : Obj} (h : W.heap[b]? = some o) (hne : b ≠ c) (u : Value) : (W.setCell ⟨c, j, none⟩ u).heap[b]? = some o := by rw [Below.heap_setCell W ⟨c, j, none⟩ u b hne]; exact h
theorem own_gb {W W' : World} {R lo e sz n : Nat} {v : Value} {xs : List Value} (h : W.ownsRow lo e sz v n xs) (hg : W.grownBy W' (some R)) (hR : R < lo) : W'.ownsRow lo e sz v n xs := own_keepD h fun b hb hl => hg.block b hl (fun e => by injection e with e; omega)
theorem own_bel {W W' : World} {lo e sz n : Nat} {v : Value} {xs : List Value} (h : W.ownsRow lo e sz v n xs) (hb : Below W.heap.size W W') : W'.ownsRow lo e sz v n xs := own_keepD h fun b _ hl => hb.block b hl
theorem own_setL {W : World} {b j lo e sz n : Nat} {v : Value} {xs : List Value} (h : W.ownsRow lo e sz v n xs) (hb : b < lo) (u : Value) : (W.setCell ⟨b, j, none⟩ u).ownsRow lo e sz v n xs := own_keepD h fun c hc _ => Below.heap_setCell W ⟨b, j, none⟩ u c (by show c ≠ b; omega)
theorem RdK.grow {B R : Nat} {a : Option Addr} {len cap p K : Nat} {w0 w w' : World} {row : Option Nat} (h : RdK B R a len cap p K w0 w) (hB : B ≤ w0.heap.size) (hg : w.grownBy w' row) (hr : ∀ k, row = some k → w0.heap.size ≤ k) : RdK B R a len cap p K w0 w' := by
  obtain ⟨h1, p', h2, h3⟩ := h
  exact ⟨gb_trans h1 hg (fun k hk => Or.inr (hr k hk)), p', h2, h3.kept (Nat.le_trans hB h1.size) hg (fun k hk => Nat.le_trans hB (hr k hk))⟩
theorem RdK.set {B R : Nat} {a : Option Addr} {len cap p K b j : Nat} {w0 w : World} (h : RdK B R a len cap p K w0 w) (hB : B ≤ w0.heap.size) (hb : w0.heap.size ≤ b) (u : Value) : RdK B R a len cap p K w0 (w.setCell ⟨b, j, none⟩ u) := h.grow hB (grown_setCell w b j u) (fun k hk => by cases hk; exact hb)
theorem RdK.size {B R : Nat} {a : Option Addr} {len cap p K : Nat} {w0 w : World} (h : RdK B R a len cap p K w0 w) : w0.heap.size ≤ w.heap.size := h.1.size
theorem blk_c1 {w : World} {b T : Nat} {v : Value} (h : w.heap[b]? = some (.cells #[v] T (0, 0))) : w.cell? ⟨b, 0, none⟩ = some v := by rw [Lib.cell_of_heap h]; rfl

theorem Dw.setT {w : World} {b j lo T : Nat} {v1 v2 : Value} {l1 : List S2} {l2 : List TC} (h : Dw w lo v1 v2 l1 l2) (ht : HasT w b T) (h1 : T ≠ 60) (h2 : T ≠ 64) (h3 : T ≠ 84) (u : Value) : Dw (w.setCell ⟨b, j, none⟩ u) lo v1 v2 l1 l2 := ⟨own_setT h.s ht h1 u, own_setT h.t ht h2 u, fun a ha => own_setT (h.c a ha) ht h3 u⟩
/-- A space in work: its variable's block P, its rows, all from lo on. -/
structure Sw (V : World) (P lo : Nat) (v1 v2 : Value) (l1 : List S2) (l2 : List TC) : Prop where
  blk : V.heap[P]? = some (.cells #[v1, v2] 26 (0, 0))
  dw : Dw V lo v1 v2 l1 l2
  bd : BdS l1 l2
  ge : lo ≤ P
section
variable {V V' : World} {P lo : Nat} {v1 v2 nv : Value} {l1 : List S2} {l2 : List TC}
theorem Sw.c (h : Sw V P lo v1 v2 l1 l2) : V.cell? ⟨P, 0, none⟩ = some v1 ∧ V.cell? ⟨P, 1, none⟩ = some v2 ∧ ∀ j, V.frozen? ⟨P, j, none⟩ = false := ⟨(blk_c h.blk).1, (blk_c h.blk).2, fun j => Lib.frozen_of_heap h.blk j⟩
theorem Sw.below (h : Sw V P lo v1 v2 l1 l2) (hb : Below V.heap.size V V') : Sw V' P lo v1 v2 l1 l2 := ⟨blk_below h.blk hb, h.dw.below hb, h.bd, h.ge⟩
theorem Sw.gb {R : Nat} (h : Sw V P lo v1 v2 l1 l2) (hg : V.grownBy V' (some R)) (hR : R < lo) : Sw V' P lo v1 v2 l1 l2 := ⟨blk_gb h.blk hg (by have := h.ge; omega), h.dw.gb hg hR, h.bd, h.ge⟩
theorem Sw.set {b j T : Nat} (h : Sw V P lo v1 v2 l1 l2) (ht : HasT V b T) (h1 : T ≠ 60) (h2 : T ≠ 64) (h3 : T ≠ 84) (hne : b ≠ P) (u : Value) : Sw (V.setCell ⟨b, j, none⟩ u) P lo v1 v2 l1 l2 := ⟨blk_set h.blk (fun e => hne e.symm) u, h.dw.setT ht h1 h2 h3 u, h.bd, h.ge⟩
theorem Sw.noR (h : Sw V P lo v1 v2 l1 l2) : v1.ownBlock ≠ some P ∧ v2.ownBlock ≠ some P := ⟨HasT.ne (T := 26) ⟨_, h.blk⟩ h.dw.s (by decide), HasT.ne (T := 26) ⟨_, h.blk⟩ h.dw.t (by decide)⟩
theorem BdS.putS {s : S2} (h : BdS l1 l2) (hn : l1.length ≤ 201) (hs : s.name.size ≤ 50000 ∧ s.text.size ≤ 50000) : BdS (l1 ++ [s]) l2 := by
  refine ⟨by simp; omega, h.n2, fun x hx => ?_, h.t⟩
  rcases List.mem_append.1 hx with q | q
  · exact h.s x q
  · obtain rfl : x = s := by simpa using q
    exact hs
theorem BdS.putT {s : TC} (h : BdS l1 l2) (hn : l2.length ≤ 201) (hs : s.t.name.size ≤ 50000 ∧ s.t.code.length ≤ 400 ∧ ∀ x ∈ s.t.code, x.text.size ≤ 50000) : BdS l1 (l2 ++ [s]) := by
  refine ⟨h.n1, by simp; omega, h.s, fun x hx => ?_⟩
  rcases List.mem_append.1 hx with q | q
  · exact h.t x q
  · obtain rfl : x = s := by simpa using q
    exact hs
theorem Sw.putS {s : S2} (h : Sw V P lo v1 v2 l1 l2) (hg : V.grownBy V' v1.ownBlock) (hn : V'.ownsRow lo 60 2 nv (l1.length + 1) (srcV l1 ++ [.string s.name, .string s.text])) (hl : l1.length ≤ 201) (hs : s.name.size ≤ 50000 ∧ s.text.size ≤ 50000) : Sw (V'.setCell ⟨P, 0, none⟩ nv) P lo nv v2 (l1 ++ [s]) l2 := by
  have hb := blk_grow h.blk hg h.noR.1
  exact ⟨by rw [Joins.block_setCell hb]; rfl, (h.dw.putS hg hn).setT ⟨_, hb⟩ (by decide) (by decide) (by decide) nv, h.bd.putS hl hs, h.ge⟩
theorem Sw.putT {s : T2} {c : Value} (h : Sw V P lo v1 v2 l1 l2) (hc : V.ownsRow lo 84 3 c s.code.length (insC s.code)) (hg : V.grownBy V' v2.ownBlock) (hn : V'.ownsRow lo 64 2 nv (l2.length + 1) (tcV l2 ++ [.string s.name, c])) (hl : l2.length ≤ 201) (hs : s.name.size ≤ 50000 ∧ s.code.length ≤ 400 ∧ ∀ x ∈ s.code, x.text.size ≤ 50000) : Sw (V'.setCell ⟨P, 1, none⟩ nv) P lo v1 nv l1 (l2 ++ [⟨s, c⟩]) := by
  have hb := blk_grow h.blk hg h.noR.2
  exact ⟨by rw [Joins.block_setCell hb]; rfl, (h.dw.putT hc hg hn).setT ⟨_, hb⟩ (by decide) (by decide) (by decide) nv, h.bd.putT hl hs, h.ge⟩
/-- What the append of a row leaves of the space's block. -/
theorem Sw.app {row : Option Nat} (h : Sw V P lo v1 v2 l1 l2) (hg : V.grownBy V' row) (hr : row = v1.ownBlock ∨ row = v2.ownBlock) : V'.heap[P]? = some (.cells #[v1, v2] 26 (0, 0)) := blk_grow h.blk hg (by rcases hr with rfl | rfl <;> first | exact h.noR.1 | exact h.noR.2)
end
theorem BdS.nil : BdS [] [] := ⟨by simp, by simp, fun x hx => (by cases hx), fun x hx => (by cases hx)⟩
theorem hid {p : Prop} (h : p) : Hid p := h
theorem all_snoc {α : Type} {p : α → Prop} {l : List α} {x : α} (h : ∀ a ∈ l, p a) (hx : p x) : ∀ a ∈ l ++ [x], p a := fun a ha => by
  rcases List.mem_append.1 ha with q | q
  · exact h a q
  · obtain rfl := List.mem_singleton.1 q
    exact hx
theorem short2 {x y : I3} (h1 : x.text.size ≤ 50000) (h2 : y.text.size ≤ 50000) : ∀ a ∈ [x, y], a.text.size ≤ 50000 := fun a ha => by
  simp at ha
  rcases ha with rfl | rfl <;> assumption
theorem short3 {x y z : I3} (h1 : x.text.size ≤ 50000) (h2 : y.text.size ≤ 50000) (h3 : z.text.size ≤ 50000) : ∀ a ∈ [x, y, z], a.text.size ≤ 50000 := fun a ha => by
  simp at ha
  rcases ha with rfl | rfl | rfl <;> assumption
/-- The space is given back through the result's block. -/
theorem Dw.ret {w : World} {b lo : Nat} {x y v1 v2 : Value} {l1 : List S2} {l2 : List TC} (h : Dw w lo v1 v2 l1 l2) (hb : w.heap[b]? = some (.cells #[x, y] 26 (0, 0))) : Dw ((w.setCell ⟨b, 0, none⟩ v1).setCell ⟨b, 1, none⟩ v2) lo v1 v2 l1 l2 :=
  (h.setT ⟨_, hb⟩ (by decide) (by decide) (by decide) _).setT (HasT.set ⟨_, hb⟩ _) (by decide) (by decide) (by decide) _
/-- A new block's world gets a name. -/
theorem name_alloc {W : World} {o : Obj} {Q : World → Prop} (h : ∀ wN, Below W.heap.size W wN → Hid (wN.heap[W.heap.size]? = some o) → Q wN) : Q (W.alloc o) := h _ ((Below.refl _ _).alloc (Nat.le_refl _) _) (heapW_new _ _)
/-- What a draw of a space gives. -/
def SpP (B R : Nat) (a : Option Addr) (len cap p K : Nat) (w : World) (e : Ending) (w' : World) : Prop :=
  ∃ v1 v2 l1 l2, e = .returned (.agg #[v1, v2]) ∧ Dw w' w.heap.size v1 v2 l1 l2 ∧ BdS l1 l2 ∧ RdK B R a len cap p K w w'
theorem own_nm {w : World} {B e sz n : Nat} {v : Value} {xs : List Value} (h : w.ownsRow B e sz v n xs) : v.oneCell' = true := by
  rcases h.2 with ⟨rfl, _⟩ | ⟨g, cap, cur, rfl, _⟩ <;> rfl
end Go.Proofs.YtjdjhenijihpfaaGreatDoor
