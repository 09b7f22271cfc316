import Derived.Test.YtjdjhenijihpfaaGreatDoorDrp
namespace Go.Proofs.YtjdjhenijihpfaaGreatDoor
open Go.RowKit
set_option linter.unusedVariables false

/-- A space's block and its owned rows. -/
structure Sp (w : World) (b lo hi : Nat) (v1 v2 : Value) (ss : List S2) (ts : List T2) : Prop where
  blk : w.heap[b]? = some (.cells #[v1, v2] 26 (0, 0))
  s : OwnS w lo hi v1 ss
  t : OwnT w lo hi v2 ts
theorem Sp.below {w w' : World} {b lo hi : Nat} {v1 v2 : Value} {ss : List S2} {ts : List T2} (h : Sp w b lo hi v1 v2 ss ts) (hb : Below w.heap.size w w') : Sp w' b lo hi v1 v2 ss ts :=
  ⟨by rw [hb.block _ (blkW_lt h.blk)]; exact h.blk, h.s.below hb, h.t.below hb⟩
theorem Sp.keep {w w' : World} {b lo hi lo' hi' : Nat} {v1 v2 : Value} {ss : List S2} {ts : List T2} (h : Sp w b lo hi v1 v2 ss ts) (hk : KeepR lo' hi' w w') (hb : b < lo' ∨ hi' ≤ b) (hd : hi ≤ lo' ∨ hi' ≤ lo) : Sp w' b lo hi v1 v2 ss ts :=
  ⟨by rw [hk b (blkW_lt h.blk) hb]; exact h.blk, h.s.keep hk hd, h.t.keep hk hd⟩
theorem Sp.c {w : World} {b lo hi : Nat} {v1 v2 : Value} {ss : List S2} {ts : List T2} (h : Sp w b lo hi v1 v2 ss ts) : w.cell? ⟨b, 0, none⟩ = some v1 ∧ w.cell? ⟨b, 1, none⟩ = some v2 :=
  ⟨by rw [Lib.cell_of_heap h.blk]; rfl, by rw [Lib.cell_of_heap h.blk]; rfl⟩
theorem Sp.new {w : World} {lo hi : Nat} {v1 v2 : Value} {ss : List S2} {ts : List T2} (h1 : OwnS w lo hi v1 ss) (h2 : OwnT w lo hi v2 ts) : Sp (w.alloc (.cells #[v1, v2] 26)) w.heap.size lo hi v1 v2 ss ts :=
  ⟨heapW_new _ _, h1.below ((Below.refl _ _).alloc (Nat.le_refl _) _), h2.below ((Below.refl _ _).alloc (Nat.le_refl _) _)⟩
theorem blk_c {w : World} {b T : Nat} {v1 v2 : Value} (h : w.heap[b]? = some (.cells #[v1, v2] T (0, 0))) : w.cell? ⟨b, 0, none⟩ = some v1 ∧ w.cell? ⟨b, 1, none⟩ = some v2 :=
  ⟨by rw [Lib.cell_of_heap h]; rfl, by rw [Lib.cell_of_heap h]; rfl⟩
theorem blk_below {w w' : World} {b : Nat} {o : Obj} (h : w.heap[b]? = some o) (hb : Below w.heap.size w w') : w'.heap[b]? = some o := by rw [hb.block _ (blkW_lt h)]; exact h
theorem blk_keep {w w' : World} {b lo hi : Nat} {o : Obj} (h : w.heap[b]? = some o) (hk : KeepR lo hi w w') (hb : b < lo ∨ hi ≤ b) : w'.heap[b]? = some o := by rw [hk b (blkW_lt h) hb]; exact h

/-- What the marks of a space end at. -/
def kQ (ss : List S2) (ts : List T2) : Nat := kT (fun i => (tx ts i).code.length) (1 + 2 * ss.length) ts.length
theorem kQ_le {ss : List S2} {ts : List T2} (h : SpSmall ss ts) : kT (fun i => (tx ts i).code.length) (1 + 2 * ss.length) ts.length ≤ 800000000000000 := by
  have h1 := kT_bound (fun i => (tx ts i).code.length) (1 + 2 * ss.length) ts.length h.lc
  have h2 := h.ls
  have h3 := h.lt
  have h4 : ts.length * 3145729 ≤ 1048576 * 3145729 := Nat.mul_le_mul_right _ h3
  omega
def MkL (w : World) (lo hi : Nat) (v1 v2 : Value) (ss : List S2) (ts : List T2) : Prop := MkSp w lo hi 1 v1 v2 ss.length ts.length (fun i => (tx ts i).code.length)
theorem MkL.below {w w' : World} {lo hi : Nat} {v1 v2 : Value} {ss : List S2} {ts : List T2} (h : MkL w lo hi v1 v2 ss ts) (hb : Below w.heap.size w w') : MkL w' lo hi v1 v2 ss ts := MkSp.below h hb
theorem implDrop_own {w w0 : World} {sa ta : Option Addr} {lo hi : Nat} {v1 v2 : Value} {ss : List S2} {ts : List T2} (t : ByteArray) (hT : Tab w) (h : SpOk w0 sa ss ta ts) (h1 : OwnS w lo hi v1 ss) (h2 : OwnT w lo hi v2 ts) (hs : SpSmall ss ts) (ht : t.size ≤ 9223372036854775807) :
    Calls Tryz.prog 14 #[.agg #[v1, v2], .string t] w fun e w' => Below w.heap.size w w' ∧ DropOut w.heap.size w' e ss ts t := by
  obtain ⟨a1, p1, rfl, r1⟩ := h1.sl
  obtain ⟨a2, p2, rfl, r2⟩ := h2.sl
  exact implDrop_any a1 a2 p1 p2 ss ts t w hT (h.move r1 r2) hs ht
theorem specDrop_own {w w0 : World} {sa ta : Option Addr} {lo hi : Nat} {v1 v2 : Value} {ss : List S2} {ts : List T2} (t : ByteArray) (h : SpOk w0 sa ss ta ts) (h1 : OwnS w lo hi v1 ss) (h2 : OwnT w lo hi v2 ts) (hs : SpSmall ss ts) (ht : t.size ≤ 9223372036854775807) :
    Calls Tryz.prog 15 #[.agg #[v1, v2], .string t] w fun e w' => Below w.heap.size w w' ∧ DropOut w.heap.size w' e ss ts t := by
  obtain ⟨a1, p1, rfl, r1⟩ := h1.sl
  obtain ⟨a2, p2, rfl, r2⟩ := h2.sl
  exact specDrop_any a1 a2 p1 p2 ss ts t w (h.move r1 r2) hs ht

end Go.Proofs.YtjdjhenijihpfaaGreatDoor
