/-
  Owned rows between two heap sizes.
-/
import Derived.Test.YtmeojnaoljgieadDoorMkO
import Derived.Test.YtmeojnaoljgieadDoorCln
import Derived.Test.YtmeojnaoljgieadDoorStLaw
namespace Go.Proofs.YtmeojnaoljgieadDoor
open Go.RowKit
set_option linter.unusedVariables false

/-- The blocks from lo to hi alone may differ. -/
def KeepR (lo hi : Nat) (w w' : World) : Prop := ∀ b, b < w.heap.size → (b < lo ∨ hi ≤ b) → w'.heap[b]? = w.heap[b]?
theorem KeepR.refl {lo hi : Nat} (w : World) : KeepR lo hi w w := fun _ _ _ => rfl
theorem KeepR.trans {lo hi : Nat} {a b c : World} (h : KeepR lo hi a b) (hs : a.heap.size ≤ b.heap.size) (k : KeepR lo hi b c) : KeepR lo hi a c := fun i hi hr => (k i (by omega) hr).trans (h i hi hr)
theorem KeepR.of_below {lo hi : Nat} {w w' : World} (h : Below w.heap.size w w') : KeepR lo hi w w' := fun b hb _ => h.block b hb
theorem KeepO.keepR {lo hi : Nat} {ob : Option Nat} {w w' : World} (h : KeepO ob w w') (hin : ∀ b, ob = some b → lo ≤ b ∧ b < hi) : KeepR lo hi w w' := fun b hb hr => h b hb (fun e => by have := hin b e.symm; omega)
theorem KeepR.set {lo hi : Nat} {w : World} {g : Nat} (h1 : lo ≤ g) (h2 : g < hi) (j : Nat) (v : Value) : KeepR lo hi w (w.setCell ⟨g, j, none⟩ v) := fun b hb hr => Below.heap_setCell w ⟨g, j, none⟩ v b (by show b ≠ g; omega)

/-- An owned row, its block below hi. -/
structure RowO (w : World) (lo hi e sz : Nat) (v : Value) (n : Nat) (xs : List Value) : Prop where
  own : w.ownsRow lo e sz v n xs
  top : ∀ b, v.ownBlock = some b → b < hi
theorem own_same {w w' : World} {B e sz n : Nat} {v : Value} {xs : List Value} (h : w.ownsRow B e sz v n xs) (hk : ∀ b, v.ownBlock = some b → w'.heap[b]? = w.heap[b]?) : w'.ownsRow B e sz v n xs := by
  refine ⟨h.1, ?_⟩
  rcases h.2 with h2 | ⟨g, cap, cur, hv, hg, hh, r⟩
  · exact Or.inl h2
  · refine Or.inr ⟨g, cap, cur, hv, hg, ?_, r⟩
    subst hv
    rw [hk g rfl]; exact hh
theorem RowO.same {w w' : World} {lo hi e sz n : Nat} {v : Value} {xs : List Value} (h : RowO w lo hi e sz v n xs) (hk : ∀ b, v.ownBlock = some b → w'.heap[b]? = w.heap[b]?) : RowO w' lo hi e sz v n xs := ⟨own_same h.own hk, h.top⟩
theorem RowO.below {w w' : World} {lo hi e sz n : Nat} {v : Value} {xs : List Value} (h : RowO w lo hi e sz v n xs) (hb : Below w.heap.size w w') : RowO w' lo hi e sz v n xs := h.same fun b e => hb.block b (h.own.lt b e).2
theorem RowO.keep {w w' : World} {lo hi lo' hi' e sz n : Nat} {v : Value} {xs : List Value} (h : RowO w lo hi e sz v n xs) (hk : KeepR lo' hi' w w') (hd : hi ≤ lo' ∨ hi' ≤ lo) : RowO w' lo hi e sz v n xs := h.same fun b e => hk b (h.own.lt b e).2 (by have h1 := (h.own.lt b e).1; have h2 := h.top b e; omega)
theorem RowO.wide {w : World} {lo hi lo' hi' e sz n : Nat} {v : Value} {xs : List Value} (h : RowO w lo hi e sz v n xs) (h1 : lo' ≤ lo) (h2 : hi ≤ hi') : RowO w lo' hi' e sz v n xs := ⟨own_base h.own h1, fun b e => by have := h.top b e; omega⟩
theorem RowO.nil (w : World) (lo hi e sz : Nat) : RowO w lo hi e sz (.slice none 0 0) 0 [] := ⟨World.ownsRow_nil _ _ _ _, fun b e => by simp [Value.ownBlock] at e⟩
theorem RowO.new {w : World} {lo e sz n : Nat} {v : Value} {xs : List Value} (h : w.ownsRow lo e sz v n xs) : RowO w lo w.heap.size e sz v n xs := ⟨h, fun b e => (h.lt b e).2⟩
theorem neT {w : World} {B B' e e' sz sz' n n' : Nat} {v v' : Value} {xs xs' : List Value} (h : w.ownsRow B e sz v n xs) (h' : w.ownsRow B' e' sz' v' n' xs') (hne : e ≠ e') : ∀ b, v.ownBlock = some b → v'.ownBlock ≠ some b := by
  intro b hb eb
  rcases h.2 with ⟨rfl, _⟩ | ⟨g, cap, cur, rfl, hg, hh, _⟩
  · simp [Value.ownBlock] at hb
  · rcases h'.2 with ⟨rfl, _⟩ | ⟨g', cap', cur', rfl, hg', hh', _⟩
    · simp [Value.ownBlock] at eb
    · simp only [Value.ownBlock, Option.some.injEq] at hb eb
      subst hb
      rw [eb] at hh'
      rw [hh] at hh'
      simp at hh'
      exact hne hh'.2

theorem row_slice {w : World} {lo hi e sz : Nat} {v : Value} {n : Nat} {ys : List Value} (h : RowO w lo hi e sz v n ys) : ∃ va vc, v = .slice va n vc := by
  rcases own_casesM h.own with ⟨hv, rfl⟩ | ⟨g', c', hv⟩
  · exact ⟨_, _, hv⟩
  · exact ⟨_, _, hv⟩

end Go.Proofs.YtmeojnaoljgieadDoor
