/-
  A run in plain words: one instruction, a run to its next look, a run with replies; each is unique.
-/
import Derived.Test.YtmeojnaoljgieabDoorNMach
import Derived.Test.YtmeojnaoljgieabDoorNPiece
import Derived.Test.YtmeojnaoljgieabDoorNValid
namespace Go.Proofs.YtmeojnaoljgieabDoor
open Go.RowKit
set_option linter.unusedVariables false

structure St where
  pl : Nat
  stack : List ByteArray
  steps : Nat
  looks : Nat
inductive Out where
  | go (s : St)
  | over (c : Int) (t : ByteArray) (n : Nat)
  | look (ask : Bool) (nm : ByteArray) (s : St)

def decB (n : Nat) : ByteArray := ⟨(Lib.decDigits n).toArray⟩
def emptyB (a : ByteArray) : Bool := a.toList.isEmpty || a.toList == [48]

/-- What an instruction puts; a: the top, b: below it. -/
def outP (o : Nat) (t : ByteArray) (n : Nat) (a b : ByteArray) : List ByteArray :=
  match o with
  | 1 => [t]
  | 2 => [b ++ a]
  | 3 => [a.extract 0 (min n a.size)]
  | 4 => [a.extract (min n a.size) a.size]
  | 5 => [pieceP a n]
  | 6 => [flagB (b.toList == a.toList)]
  | 7 => [a, a]
  | 8 => [a, b]
  | _ => []
def nextP (o n pl : Nat) (a : ByteArray) : Nat := if o = 10 then n else if o = 11 ∧ emptyB a = true then n else pl + 1
def takesN (o : Nat) : Nat := (takesOf.getD o 0).toNat
def topB (l : List ByteArray) : ByteArray := l.getD (l.length - 1) ByteArray.empty
def subB (l : List ByteArray) : ByteArray := l.getD (l.length - 2) ByteArray.empty
def restL (l : List ByteArray) (k : Nat) : List ByteArray := l.take (l.length - k)

open Classical in
/-- One instruction i at a place, the step counted already in s'. -/
noncomputable def insP (i : I3) (s : St) : Out :=
  let o := i.op.toNat
  let n := i.n.toNat
  let a := topB s.stack
  let b := subB s.stack
  let r := restL s.stack (takesN o)
  if s.stack.length < takesN o then .over 2 (decB s.pl) (s.steps + 1)
  else if o = 15 then .over 0 a (s.steps + 1)
  else if o = 14 then .over 1 a (s.steps + 1)
  else if o = 12 ∨ o = 13 then
    (if ¬ NameOk a then .over 2 (decB s.pl) (s.steps + 1)
     else if s.looks = 200 then .over 3 ⟨#[]⟩ (s.steps + 1)
     else .look (o == 12) a ⟨s.pl, r, s.steps + 1, s.looks + 1⟩)
  else if 50 < r.length + (outP o i.text n a b).length ∨ ∃ x ∈ outP o i.text n a b, 2000 < x.size then .over 2 (decB s.pl) (s.steps + 1)
  else .go ⟨nextP o n s.pl a, r ++ outP o i.text n a b, s.steps + 1, s.looks⟩

noncomputable def step0 (is : List I3) (s : St) : Out :=
  if is.length ≤ s.pl then .over 2 (decB s.pl) s.steps
  else if s.steps = 2000 then .over 3 ⟨#[]⟩ s.steps
  else insP (ix is s.pl) s

/-- What holds all along. -/
structure StOk (is : List I3) (s : St) : Prop where
  pl : s.pl ≤ 200
  len : s.stack.length ≤ 50
  size : ∀ x ∈ s.stack, x.size ≤ 2000
  steps : s.steps ≤ 2000
  looks : s.looks ≤ 200

/-- A run to its next look or its end. -/
inductive Runs (is : List I3) : St → Out → Prop
  | over {s c t n} : step0 is s = .over c t n → Runs is s (.over c t n)
  | look {s ask nm s'} : step0 is s = .look ask nm s' → Runs is s (.look ask nm s')
  | go {s s' o} : step0 is s = .go s' → Runs is s' o → Runs is s o

theorem Runs.unique {is : List I3} {s : St} {o o' : Out} (h : Runs is s o) (h' : Runs is s o') : o = o' := by
  induction h with
  | over h1 => cases h' with
    | over h2 => rw [h1] at h2; exact h2
    | look h2 => rw [h1] at h2; cases h2
    | go h2 _ => rw [h1] at h2; cases h2
  | look h1 => cases h' with
    | over h2 => rw [h1] at h2; cases h2
    | look h2 => rw [h1] at h2; exact h2
    | go h2 _ => rw [h1] at h2; cases h2
  | go h1 _ ih => cases h' with
    | over h2 => rw [h1] at h2; cases h2
    | look h2 => rw [h1] at h2; cases h2
    | go h2 h3 => rw [h1] at h2; cases h2; exact ih h3

/-- A reply to a look. -/
def ansP (ask : Bool) (nm : ByteArray) (y : R3) (s : St) : Out :=
  if ask = false then .go ⟨s.pl + 1, s.stack ++ [flagB y.has], s.steps, s.looks⟩
  else if y.has = false then .over 4 nm s.steps
  else if y.code ≠ 0 then .over 5 nm s.steps
  else .go ⟨s.pl + 1, s.stack ++ [y.text], s.steps, s.looks⟩

inductive Res where
  | over (c : Int) (t : ByteArray) (n : Nat)
  | wait (ask : Bool) (nm : ByteArray) (n : Nat)

/-- A run with replies. -/
inductive Full (is : List I3) (ys : List R3) : St → Res → Prop
  | over {s c t n} : step0 is s = .over c t n → Full is ys s (.over c t n)
  | go {s s' r} : step0 is s = .go s' → Full is ys s' r → Full is ys s r
  | wait {s ask nm s'} : step0 is s = .look ask nm s' → ys.length ≤ s.looks → Full is ys s (.wait ask nm s'.steps)
  | ans {s ask nm s' s'' r} : step0 is s = .look ask nm s' → s.looks < ys.length → ansP ask nm (rx ys s.looks) s' = .go s'' → Full is ys s'' r → Full is ys s r
  | end {s ask nm s' c t n} : step0 is s = .look ask nm s' → s.looks < ys.length → ansP ask nm (rx ys s.looks) s' = .over c t n → Full is ys s (.over c t n)

theorem Full.unique {is : List I3} {ys : List R3} {s : St} {o o' : Res} (h : Full is ys s o) (h' : Full is ys s o') : o = o' := by
  induction h with
  | over h1 => cases h' with
    | over h2 => rw [h1] at h2; cases h2; rfl
    | go h2 _ => rw [h1] at h2; cases h2
    | wait h2 _ => rw [h1] at h2; cases h2
    | ans h2 _ _ _ => rw [h1] at h2; cases h2
    | «end» h2 _ _ => rw [h1] at h2; cases h2
  | go h1 _ ih => cases h' with
    | over h2 => rw [h1] at h2; cases h2
    | go h2 h3 => rw [h1] at h2; cases h2; exact ih h3
    | wait h2 _ => rw [h1] at h2; cases h2
    | ans h2 _ _ _ => rw [h1] at h2; cases h2
    | «end» h2 _ _ => rw [h1] at h2; cases h2
  | wait h1 k1 => cases h' with
    | over h2 => rw [h1] at h2; cases h2
    | go h2 h3 => rw [h1] at h2; cases h2
    | wait h2 _ => rw [h1] at h2; cases h2; rfl
    | ans h2 k2 _ _ => omega
    | «end» h2 k2 _ => omega
  | ans h1 k1 a1 _ ih => cases h' with
    | over h2 => rw [h1] at h2; cases h2
    | go h2 h3 => rw [h1] at h2; cases h2
    | wait h2 k2 => omega
    | ans h2 k2 a2 h3 => rw [h1] at h2; cases h2; rw [a1] at a2; cases a2; exact ih h3
    | «end» h2 k2 a2 => rw [h1] at h2; cases h2; rw [a1] at a2; cases a2
  | «end» h1 k1 a1 => cases h' with
    | over h2 => rw [h1] at h2; cases h2
    | go h2 h3 => rw [h1] at h2; cases h2
    | wait h2 k2 => omega
    | ans h2 k2 a2 h3 => rw [h1] at h2; cases h2; rw [a1] at a2; cases a2
    | «end» h2 k2 a2 => rw [h1] at h2; cases h2; rw [a1] at a2; cases a2; rfl

/-- A look's state: how it comes of the state before. -/
theorem step0_look {is : List I3} {s s' : St} {ask : Bool} {nm : ByteArray} (h : step0 is s = .look ask nm s') : s'.looks = s.looks + 1 ∧ s'.pl = s.pl ∧ s'.steps = s.steps + 1 ∧ s.looks ≠ 200 ∧ s.pl < is.length ∧ 1 ≤ s.stack.length ∧ s'.stack = restL s.stack 1 ∧ nm = topB s.stack := by
  unfold step0 at h
  split at h
  · cases h
  · split at h
    · cases h
    · rename_i h1 h2
      simp only [insP] at h
      split at h
      · cases h
      · split at h
        · cases h
        · split at h
          · cases h
          · split at h
            · rename_i h3 h4 h5 h6
              split at h
              · cases h
              · split at h
                · cases h
                · rename_i h7 h8
                  cases h
                  have ht : takesN (ix is s.pl).op.toNat = 1 := by rcases h6 with h6 | h6 <;> rw [h6] <;> rfl
                  rw [ht] at h3 ⊢
                  exact ⟨rfl, rfl, rfl, h8, by omega, by omega, rfl, rfl⟩
            · split at h
              · cases h
              · cases h

end Go.Proofs.YtmeojnaoljgieabDoor
