import Derived.Test.YtikdgmmloiegjaaGreatDoorGRow
import Derived.Test.YtikdgmmloiegjaaGreatDoorStIm
namespace Go.Proofs.YtikdgmmloiegjaaGreatDoor
open Go.RowKit
set_option linter.unusedVariables false

def hexbL (l : List UInt8) : List UInt8 := l.flatMap fun u => [hexd (u.toNat / 16), hexd (u.toNat % 16)]
theorem hexbL_length (l : List UInt8) : (hexbL l).length = 2 * l.length := by
  induction l with
  | nil => rfl
  | cons a l ih => simp [hexbL] at ih ⊢; omega
def bB (l : List UInt8) : ByteArray := ⟨l.toArray⟩
/-- The lines of a record. -/
def recHd (r : T3) : List UInt8 := [114, 101, 99, 111, 114, 100, 32] ++ hexbL r.out.data.toList
def doL (i : I3) : List UInt8 := [100, 111, 32] ++ lineL i
def lookL (g : G3) : List UInt8 := (if g.ask then [97, 115, 107] else [104, 97, 115]) ++ [32] ++ g.name.data.toList ++ [32] ++ hexbL g.sum.data.toList
def endL : List UInt8 := [101, 110, 100]
def txtL (x : ByteArray) : List UInt8 := [116, 101, 120, 116, 32] ++ quoteL x.data.toList
def stoL (n : Nat) : List UInt8 := [115, 116, 111, 114, 101, 32] ++ Lib.decDigits n
def recLs (r : T3) : List (List UInt8) := [recHd r] ++ r.code.map doL ++ r.looks.map lookL ++ [endL]
def stoLs (n : Nat) (ts : List ByteArray) (rs : List T3) : List (List UInt8) := [stoL n] ++ ts.map txtL ++ rs.flatMap recLs
def nl (l : List UInt8) : List UInt8 := l ++ [10]
def flatN (ls : List (List UInt8)) : List UInt8 := ls.flatMap nl
theorem flatN_append (a b : List (List UInt8)) : flatN (a ++ b) = flatN a ++ flatN b := by simp [flatN]
theorem flatN_map {α : Type} (f : α → List UInt8) (l : List α) : flatN (l.map f) = l.flatMap (fun x => nl (f x)) := by simp [flatN, List.flatMap_map]

/-- What a list's writer leaves: it stops where the form is too long. -/
def wlist {α : Type} (f : α → List UInt8) : List UInt8 → List α → List UInt8
  | c, [] => c
  | c, x :: xs => if 200000 < c.length then c else wlist f (c ++ f x) xs
theorem wlist_over {α : Type} (f : α → List UInt8) (c : List UInt8) (xs : List α) (h : 200000 < c.length) : wlist f c xs = c := by
  cases xs with
  | nil => rfl
  | cons x xs => simp [wlist, h]
theorem wlist_under {α : Type} (f : α → List UInt8) (c : List UInt8) (x : α) (xs : List α) (h : ¬ 200000 < c.length) : wlist f c (x :: xs) = wlist f (c ++ f x) xs := by simp [wlist, h]
theorem wlist_length {α : Type} (f : α → List UInt8) (m : Nat) : ∀ (xs : List α) (c : List UInt8) (M : Nat), c.length ≤ M → 200000 + m ≤ M → (∀ x ∈ xs, (f x).length ≤ m) → (wlist f c xs).length ≤ M
  | [], c, M, h, _, _ => h
  | x :: xs, c, M, h, hM, hf => by
    unfold wlist
    split
    · exact h
    · exact wlist_length f m xs _ M (by rw [List.length_append]; have := hf x (by simp); omega) hM (fun y hy => hf y (by simp [hy]))
/-- What was written, held against what was to be written. -/
def Rel (c e : List UInt8) : Prop := c = e ∨ (200000 < c.length ∧ 200000 < e.length)
theorem Rel.app {c e : List UInt8} (h : Rel c e) (x : List UInt8) : Rel (c ++ x) (e ++ x) := by
  rcases h with rfl | ⟨h1, h2⟩
  · exact Or.inl rfl
  · exact Or.inr ⟨by rw [List.length_append]; omega, by rw [List.length_append]; omega⟩
theorem rel_wlist {α : Type} (f : α → List UInt8) : ∀ (xs : List α) (c e : List UInt8), Rel c e → Rel (wlist f c xs) (e ++ xs.flatMap f)
  | [], c, e, h => by simpa [wlist] using h
  | x :: xs, c, e, h => by
    by_cases hc : 200000 < c.length
    · rw [wlist_over f c _ hc]
      rcases h with rfl | ⟨h1, h2⟩
      · exact Or.inr ⟨hc, by rw [List.length_append]; omega⟩
      · exact Or.inr ⟨h1, by rw [List.length_append]; omega⟩
    · rw [wlist_under f c x xs hc]
      have := rel_wlist f xs (c ++ f x) (e ++ f x) (h.app _)
      rw [List.append_assoc] at this
      simpa using this
def wrec (c : List UInt8) (r : T3) : List UInt8 := wlist (fun g => nl (lookL g)) (wlist (fun i => nl (doL i)) (c ++ nl (recHd r)) r.code) r.looks ++ nl endL
/-- A list of records: each one's writer stops by itself. -/
def wrecs : List UInt8 → List T3 → List UInt8
  | c, [] => c
  | c, r :: rs => if 200000 < c.length then c else wrecs (wrec c r) rs
theorem wrecs_over (c : List UInt8) (rs : List T3) (h : 200000 < c.length) : wrecs c rs = c := by
  cases rs with
  | nil => rfl
  | cons x xs => simp [wrecs, h]
theorem wrecs_under (c : List UInt8) (r : T3) (rs : List T3) (h : ¬ 200000 < c.length) : wrecs c (r :: rs) = wrecs (wrec c r) rs := by simp [wrecs, h]
theorem flatN_rec (r : T3) : flatN (recLs r) = nl (recHd r) ++ r.code.flatMap (fun i => nl (doL i)) ++ r.looks.flatMap (fun g => nl (lookL g)) ++ nl endL := by
  unfold recLs
  rw [flatN_append, flatN_append, flatN_append, flatN_map, flatN_map]
  simp [flatN]
theorem rel_wrec {c e : List UInt8} (r : T3) (h : Rel c e) : Rel (wrec c r) (e ++ flatN (recLs r)) := by
  have h1 := rel_wlist (fun g => nl (lookL g)) r.looks _ _ (rel_wlist (fun i => nl (doL i)) r.code _ _ (h.app (nl (recHd r))))
  have h2 := h1.app (nl endL)
  unfold wrec
  rw [flatN_rec]
  simpa [List.append_assoc] using h2
theorem rel_wrecs : ∀ (rs : List T3) (c e : List UInt8), Rel c e → Rel (wrecs c rs) (e ++ flatN (rs.flatMap recLs))
  | [], c, e, h => by simpa [wrecs, flatN] using h
  | r :: rs, c, e, h => by
    by_cases hc : 200000 < c.length
    · rw [wrecs_over c _ hc]
      rcases h with rfl | ⟨h1, h2⟩
      · exact Or.inr ⟨hc, by rw [List.length_append]; omega⟩
      · exact Or.inr ⟨h1, by rw [List.length_append]; omega⟩
    · rw [wrecs_under c r rs hc]
      have := rel_wrecs rs (wrec c r) (e ++ flatN (recLs r)) (rel_wrec r h)
      rw [List.append_assoc, ← flatN_append] at this
      simpa using this
def wsto (n : Nat) (ts : List ByteArray) (rs : List T3) : List UInt8 := wrecs (wlist (fun x => nl (txtL x)) (nl (stoL n)) ts) rs
theorem rel_wsto (n : Nat) (ts : List ByteArray) (rs : List T3) : Rel (wsto n ts rs) (flatN (stoLs n ts rs)) := by
  have h1 := rel_wrecs rs _ _ (rel_wlist (fun x => nl (txtL x)) ts (nl (stoL n)) (nl (stoL n)) (Or.inl rfl))
  unfold wsto stoLs
  rw [flatN_append, flatN_append, flatN_map]
  simpa [flatN, List.append_assoc] using h1
open Classical in
/-- What PrintStore answers. -/
noncomputable def prB (n : Int) (ts : List ByteArray) (rs : List T3) : ByteArray := if WdOk n ts rs ∧ (flatN (stoLs n.toNat ts rs)).length ≤ 200000 then bB (flatN (stoLs n.toNat ts rs)) else ⟨#[]⟩
theorem prB_impl {n : Int} {ts : List ByteArray} {rs : List T3} (h : WdOk n ts rs) : prB n ts rs = if 200000 < (wsto n.toNat ts rs).length then ⟨#[]⟩ else bB (wsto n.toNat ts rs) := by
  unfold prB
  rcases rel_wsto n.toNat ts rs with e | ⟨h1, h2⟩
  · rw [e]
    by_cases hc : 200000 < (flatN (stoLs n.toNat ts rs)).length
    · rw [if_neg (fun k => by omega), if_pos hc]
    · rw [if_pos ⟨h, by omega⟩, if_neg hc]
  · rw [if_neg (fun k => by omega), if_pos h1]

end Go.Proofs.YtikdgmmloiegjaaGreatDoor
