import Derived.Test.YtjdjhenijihpfaaGreatDoorSpEq
import Derived.Test.YtjdjhenijihpfaaGreatDoorCln
namespace Go.Proofs.YtjdjhenijihpfaaGreatDoor
open Go.RowKit
set_option linter.unusedVariables false

/-- The blocks from lo to hi alone may differ. -/
def KeepR (lo hi : Nat) (w w' : World) : Prop := ∀ b, b < w.heap.size → (b < lo ∨ hi ≤ b) → w'.heap[b]? = w.heap[b]?
theorem KeepR.refl {lo hi : Nat} (w : World) : KeepR lo hi w w := fun _ _ _ => rfl
theorem KeepR.trans {lo hi : Nat} {a b c : World} (h : KeepR lo hi a b) (hs : a.heap.size ≤ b.heap.size) (k : KeepR lo hi b c) : KeepR lo hi a c := fun i hi hr => (k i (by omega) hr).trans (h i hi hr)
theorem KeepR.of_below {lo hi : Nat} {w w' : World} (h : Below w.heap.size w w') : KeepR lo hi w w' := fun b hb _ => h.block b hb
theorem KeepO.keepR {lo hi : Nat} {ob : Option Nat} {w w' : World} (h : KeepO ob w w') (hin : ∀ b, ob = some b → lo ≤ b ∧ b < hi) : KeepR lo hi w w' := fun b hb hr => h b hb (fun e => by have := hin b e.symm; omega)
theorem KeepR.set {lo hi : Nat} {w : World} {g : Nat} (h1 : lo ≤ g) (h2 : g < hi) (j : Nat) (v : Value) : KeepR lo hi w (w.setCell ⟨g, j, none⟩ v) := fun b hb hr => Below.heap_setCell w ⟨g, j, none⟩ v b (by show b ≠ g; omega)

/-- An owned row, its block below hi. -/
structure RowO (w : World) (lo hi e sz : Nat) (v : Value) (n : Nat) (xs : List Value) : Prop where
  own : w.ownsRow lo e sz v n xs
  top : ∀ b, v.ownBlock = some b → b < hi
theorem own_same {w w' : World} {B e sz n : Nat} {v : Value} {xs : List Value} (h : w.ownsRow B e sz v n xs) (hk : ∀ b, v.ownBlock = some b → w'.heap[b]? = w.heap[b]?) : w'.ownsRow B e sz v n xs := by
  refine ⟨h.1, ?_⟩
  rcases h.2 with h2 | ⟨g, cap, cur, hv, hg, hh, r⟩
  · exact Or.inl h2
  · refine Or.inr ⟨g, cap, cur, hv, hg, ?_, r⟩
    subst hv
    rw [hk g rfl]; exact hh
theorem RowO.same {w w' : World} {lo hi e sz n : Nat} {v : Value} {xs : List Value} (h : RowO w lo hi e sz v n xs) (hk : ∀ b, v.ownBlock = some b → w'.heap[b]? = w.heap[b]?) : RowO w' lo hi e sz v n xs := ⟨own_same h.own hk, h.top⟩
theorem RowO.below {w w' : World} {lo hi e sz n : Nat} {v : Value} {xs : List Value} (h : RowO w lo hi e sz v n xs) (hb : Below w.heap.size w w') : RowO w' lo hi e sz v n xs := h.same fun b e => hb.block b (h.own.lt b e).2
theorem RowO.keep {w w' : World} {lo hi lo' hi' e sz n : Nat} {v : Value} {xs : List Value} (h : RowO w lo hi e sz v n xs) (hk : KeepR lo' hi' w w') (hd : hi ≤ lo' ∨ hi' ≤ lo) : RowO w' lo hi e sz v n xs := h.same fun b e => hk b (h.own.lt b e).2 (by have h1 := (h.own.lt b e).1; have h2 := h.top b e; omega)
theorem RowO.wide {w : World} {lo hi lo' hi' e sz n : Nat} {v : Value} {xs : List Value} (h : RowO w lo hi e sz v n xs) (h1 : lo' ≤ lo) (h2 : hi ≤ hi') : RowO w lo' hi' e sz v n xs := ⟨own_base h.own h1, fun b e => by have := h.top b e; omega⟩
theorem RowO.nil (w : World) (lo hi e sz : Nat) : RowO w lo hi e sz (.slice none 0 0) 0 [] := ⟨World.ownsRow_nil _ _ _ _, fun b e => by simp [Value.ownBlock] at e⟩
theorem RowO.new {w : World} {lo e sz n : Nat} {v : Value} {xs : List Value} (h : w.ownsRow lo e sz v n xs) : RowO w lo w.heap.size e sz v n xs := ⟨h, fun b e => (h.lt b e).2⟩
theorem neT {w : World} {B B' e e' sz sz' n n' : Nat} {v v' : Value} {xs xs' : List Value} (h : w.ownsRow B e sz v n xs) (h' : w.ownsRow B' e' sz' v' n' xs') (hne : e ≠ e') : ∀ b, v.ownBlock = some b → v'.ownBlock ≠ some b := by
  intro b hb eb
  rcases h.2 with ⟨rfl, _⟩ | ⟨g, cap, cur, rfl, hg, hh, _⟩
  · simp [Value.ownBlock] at hb
  · rcases h'.2 with ⟨rfl, _⟩ | ⟨g', cap', cur', rfl, hg', hh', _⟩
    · simp [Value.ownBlock] at eb
    · simp only [Value.ownBlock, Option.some.injEq] at hb eb
      subst hb
      rw [eb] at hh'
      rw [hh] at hh'
      simp at hh'
      exact hne hh'.2

/-- An owned row of sources. -/
def OwnS (w : World) (lo hi : Nat) (v : Value) (ss : List S2) : Prop := ∃ xs, RowO w lo hi 60 2 v ss.length xs ∧ FilledS ss ss.length xs
theorem OwnS.below {w w' : World} {lo hi : Nat} {v : Value} {ss : List S2} (h : OwnS w lo hi v ss) (hb : Below w.heap.size w w') : OwnS w' lo hi v ss := by
  obtain ⟨xs, h1, h2⟩ := h; exact ⟨xs, h1.below hb, h2⟩
theorem OwnS.keep {w w' : World} {lo hi lo' hi' : Nat} {v : Value} {ss : List S2} (h : OwnS w lo hi v ss) (hk : KeepR lo' hi' w w') (hd : hi ≤ lo' ∨ hi' ≤ lo) : OwnS w' lo hi v ss := by
  obtain ⟨xs, h1, h2⟩ := h; exact ⟨xs, h1.keep hk hd, h2⟩
theorem OwnS.wide {w : World} {lo hi lo' hi' : Nat} {v : Value} {ss : List S2} (h : OwnS w lo hi v ss) (h1 : lo' ≤ lo) (h2 : hi ≤ hi') : OwnS w lo' hi' v ss := by
  obtain ⟨xs, k1, k2⟩ := h; exact ⟨xs, k1.wide h1 h2, k2⟩
theorem OwnS.nil (w : World) (lo hi : Nat) : OwnS w lo hi (.slice none 0 0) [] := ⟨[], RowO.nil _ _ _ _ _, fun i hi => by simp at hi⟩
theorem OwnS.sl {w : World} {lo hi : Nat} {v : Value} {ss : List S2} (h : OwnS w lo hi v ss) : ∃ a cap, v = .slice a ss.length cap ∧ RowS w a ss := by
  obtain ⟨xs, h1, h2⟩ := h
  rcases own_cases h1.own with ⟨rfl, h0⟩ | ⟨g, cap, rfl⟩
  · exact ⟨none, 0, by rw [h0], fun i hi => by omega⟩
  · exact ⟨_, cap, rfl, rowS_own rfl h1.own h2⟩

/-- An owned row of targets; cv: where each code lies. -/
structure OwnT1 (w : World) (lo hi : Nat) (v : Value) (ts : List T2) (xs : List Value) (cv : Nat → Value) : Prop where
  row : RowO w lo hi 64 2 v ts.length xs
  fil : ∀ i, i < ts.length → xs[i * 2]? = some (.string (tx ts i).name) ∧ xs[i * 2 + 1]? = some (cv i)
  code : ∀ i, i < ts.length → ∃ ys, RowO w lo hi 84 3 (cv i) (tx ts i).code.length ys ∧ Filled3 (tx ts i).code (tx ts i).code.length ys
  apart : ∀ i j, i < j → j < ts.length → ∀ b, (cv i).ownBlock = some b → (cv j).ownBlock ≠ some b
def OwnT (w : World) (lo hi : Nat) (v : Value) (ts : List T2) : Prop := ∃ xs cv, OwnT1 w lo hi v ts xs cv
theorem OwnT1.below {w w' : World} {lo hi : Nat} {v : Value} {ts : List T2} {xs : List Value} {cv : Nat → Value} (h : OwnT1 w lo hi v ts xs cv) (hb : Below w.heap.size w w') : OwnT1 w' lo hi v ts xs cv :=
  ⟨h.row.below hb, h.fil, fun i hi => by obtain ⟨ys, h1, h2⟩ := h.code i hi; exact ⟨ys, h1.below hb, h2⟩, h.apart⟩
theorem OwnT1.keep {w w' : World} {lo hi lo' hi' : Nat} {v : Value} {ts : List T2} {xs : List Value} {cv : Nat → Value} (h : OwnT1 w lo hi v ts xs cv) (hk : KeepR lo' hi' w w') (hd : hi ≤ lo' ∨ hi' ≤ lo) : OwnT1 w' lo hi v ts xs cv :=
  ⟨h.row.keep hk hd, h.fil, fun i hi => by obtain ⟨ys, h1, h2⟩ := h.code i hi; exact ⟨ys, h1.keep hk hd, h2⟩, h.apart⟩
theorem OwnT1.wide {w : World} {lo hi lo' hi' : Nat} {v : Value} {ts : List T2} {xs : List Value} {cv : Nat → Value} (h : OwnT1 w lo hi v ts xs cv) (h1 : lo' ≤ lo) (h2 : hi ≤ hi') : OwnT1 w lo' hi' v ts xs cv :=
  ⟨h.row.wide h1 h2, h.fil, fun i hi => by obtain ⟨ys, k1, k2⟩ := h.code i hi; exact ⟨ys, k1.wide h1 h2, k2⟩, h.apart⟩
theorem OwnT.below {w w' : World} {lo hi : Nat} {v : Value} {ts : List T2} (h : OwnT w lo hi v ts) (hb : Below w.heap.size w w') : OwnT w' lo hi v ts := by
  obtain ⟨xs, cv, h⟩ := h; exact ⟨xs, cv, h.below hb⟩
theorem OwnT.keep {w w' : World} {lo hi lo' hi' : Nat} {v : Value} {ts : List T2} (h : OwnT w lo hi v ts) (hk : KeepR lo' hi' w w') (hd : hi ≤ lo' ∨ hi' ≤ lo) : OwnT w' lo hi v ts := by
  obtain ⟨xs, cv, h⟩ := h; exact ⟨xs, cv, h.keep hk hd⟩
theorem OwnT.wide {w : World} {lo hi lo' hi' : Nat} {v : Value} {ts : List T2} (h : OwnT w lo hi v ts) (h1 : lo' ≤ lo) (h2 : hi ≤ hi') : OwnT w lo' hi' v ts := by
  obtain ⟨xs, cv, h⟩ := h; exact ⟨xs, cv, h.wide h1 h2⟩
theorem OwnT.nil (w : World) (lo hi : Nat) : OwnT w lo hi (.slice none 0 0) [] := ⟨[], fun _ => .slice none 0 0, RowO.nil _ _ _ _ _, fun i hi => by simp at hi, fun i hi => by simp at hi, fun i j _ hj => by simp at hj⟩
theorem row3_RowO {w : World} {lo hi : Nat} {v : Value} {is : List I3} {ys : List Value} (h : RowO w lo hi 84 3 v is.length ys) (hf : Filled3 is is.length ys) : ∃ a cap, v = .slice a is.length cap ∧ Row3 w a is := by
  rcases own_cases h.own with ⟨rfl, h0⟩ | ⟨g, cap, rfl⟩
  · exact ⟨none, 0, by rw [h0], fun i hi => by omega⟩
  · refine ⟨_, cap, rfl, fun i hi => ?_⟩
    obtain ⟨h1, h2, h3⟩ := hf i hi
    refine ⟨g, 0, rfl, ?_, ?_, ?_⟩
    · rw [Nat.zero_add, h.own.cellAt _ (by omega)]; exact h1
    · rw [Nat.zero_add, h.own.cellAt _ (by omega)]; exact h2
    · rw [Nat.zero_add, h.own.cellAt _ (by omega)]; exact h3
theorem OwnT.sl {w : World} {lo hi : Nat} {v : Value} {ts : List T2} (h : OwnT w lo hi v ts) : ∃ a cap, v = .slice a ts.length cap ∧ RowT w a ts := by
  obtain ⟨xs, cv, h⟩ := h
  rcases own_cases h.row.own with ⟨rfl, h0⟩ | ⟨g, cap, rfl⟩
  · exact ⟨none, 0, by rw [h0], fun i hi => by omega⟩
  · refine ⟨_, cap, rfl, fun i hi => ?_⟩
    obtain ⟨h1, h2⟩ := h.fil i hi
    obtain ⟨ys, k1, k2⟩ := h.code i hi
    obtain ⟨a', cap', e, r⟩ := row3_RowO k1 k2
    refine ⟨g, 0, rfl, ?_, a', cap', ?_, r⟩
    · rw [Nat.zero_add, h.row.own.cellAt _ (by omega)]; exact h1
    · rw [Nat.zero_add, h.row.own.cellAt _ (by omega), h2, e]

theorem OwnS.set {w : World} {lo hi b j : Nat} {v : Value} {ss : List S2} (h : OwnS w lo hi v ss) (hb : b < lo) (u : Value) : OwnS (w.setCell ⟨b, j, none⟩ u) lo hi v ss := h.keep (KeepR.set (lo := b) (hi := b + 1) (Nat.le_refl _) (Nat.lt_succ_self _) j u) (Or.inr hb)
theorem OwnT.set {w : World} {lo hi b j : Nat} {v : Value} {ts : List T2} (h : OwnT w lo hi v ts) (hb : b < lo) (u : Value) : OwnT (w.setCell ⟨b, j, none⟩ u) lo hi v ts := h.keep (KeepR.set (lo := b) (hi := b + 1) (Nat.le_refl _) (Nat.lt_succ_self _) j u) (Or.inr hb)

/-! ### a row of targets that grows -/
structure PartT (w : World) (lo : Nat) (is : List T2) (k : Nat) (xs : List Value) (cv : Nat → Value) : Prop where
  fil : ∀ i, i < k → xs[i * 2]? = some (.string (tx is i).name) ∧ xs[i * 2 + 1]? = some (cv i)
  code : ∀ i, i < k → ∃ ys, w.ownsRow lo 84 3 (cv i) (tx is i).code.length ys ∧ Filled3 (tx is i).code (tx is i).code.length ys
  apart : ∀ i j, i < j → j < k → ∀ b, (cv i).ownBlock = some b → (cv j).ownBlock ≠ some b
theorem PartT.same {w w' : World} {lo : Nat} {is : List T2} {k : Nat} {xs : List Value} {cv : Nat → Value} (h : PartT w lo is k xs cv) (hk : ∀ b, lo ≤ b → b < w.heap.size → w'.heap[b]? = w.heap[b]?) : PartT w' lo is k xs cv :=
  ⟨h.fil, fun i hi => by
    obtain ⟨ys, h1, h2⟩ := h.code i hi
    exact ⟨ys, own_same h1 (fun b e => hk b (h1.lt b e).1 (h1.lt b e).2), h2⟩, h.apart⟩
theorem PartT.below {w w' : World} {lo : Nat} {is : List T2} {k : Nat} {xs : List Value} {cv : Nat → Value} (h : PartT w lo is k xs cv) (hb : Below w.heap.size w w') : PartT w' lo is k xs cv := h.same fun b _ hl => hb.block b hl
theorem PartT.set {w : World} {lo b j : Nat} {is : List T2} {k : Nat} {xs : List Value} {cv : Nat → Value} (h : PartT w lo is k xs cv) (hb : b < lo) (u : Value) : PartT (w.setCell ⟨b, j, none⟩ u) lo is k xs cv := h.same fun c hc _ => Below.heap_setCell w ⟨b, j, none⟩ u c (by show c ≠ b; omega)
theorem PartT.zero (w : World) (lo : Nat) (is : List T2) (xs : List Value) : PartT w lo is 0 xs (fun _ => .slice none 0 0) := ⟨fun i hi => by omega, fun i hi => by omega, fun i j _ hj => by omega⟩
theorem PartT.add {w w2 : World} {lo : Nat} {is : List T2} {k : Nat} {xs xs2 : List Value} {cv : Nat → Value} (h : PartT w lo is k xs cv) (hb : Below w.heap.size w w2) (hl : lo ≤ w.heap.size) {c : Value} {ys : List Value} (ho : w2.ownsRow w.heap.size 84 3 c (tx is k).code.length ys) (hf : Filled3 (tx is k).code (tx is k).code.length ys)
    (h1 : ∀ j, j < k * 2 → xs2[j]? = xs[j]?) (h2 : xs2[k * 2]? = some (.string (tx is k).name)) (h3 : xs2[k * 2 + 1]? = some c) : PartT w2 lo is (k + 1) xs2 (fun i => if i = k then c else cv i) := by
  refine ⟨fun i hi => ?_, fun i hi => ?_, fun i j hij hj => ?_⟩
  · rcases Nat.lt_or_ge i k with hl | hl
    · obtain ⟨k1, k2⟩ := h.fil i hl
      rw [h1 _ (by omega), h1 _ (by omega), if_neg (by omega)]
      exact ⟨k1, k2⟩
    · obtain rfl : i = k := by omega
      rw [if_pos rfl]
      exact ⟨h2, h3⟩
  · rcases Nat.lt_or_ge i k with hlt | hge
    · obtain ⟨zs, k1, k2⟩ := h.code i hlt
      simp only [if_neg (show ¬ i = k by omega)]
      exact ⟨zs, own_same k1 (fun b e => hb.block b (k1.lt b e).2), k2⟩
    · obtain rfl : i = k := by omega
      simp only [if_true]
      exact ⟨ys, own_base ho hl, hf⟩
  · rcases Nat.lt_or_ge j k with hlt | hge
    · simp only [if_neg (show ¬ i = k by omega), if_neg (show ¬ j = k by omega)]
      exact h.apart i j hij hlt
    · obtain rfl : j = k := by omega
      simp only [if_neg (show ¬ i = j by omega), if_true]
      intro b e1 e2
      obtain ⟨zs, k1, _⟩ := h.code i hij
      have := (k1.lt b e1).2
      have := (ho.lt b e2).1
      omega
theorem PartT.own {w : World} {lo lo' hi : Nat} {v : Value} {is : List T2} {xs : List Value} {cv : Nat → Value} (h : PartT w lo' is is.length xs cv) (hr : w.ownsRow lo 64 2 v is.length xs) (hl : lo ≤ lo') (hh : w.heap.size ≤ hi) : OwnT w lo hi v is :=
  ⟨xs, cv, ⟨hr, fun b e => by have := (hr.lt b e).2; omega⟩, h.fil, fun i hi => by
    obtain ⟨ys, h1, h2⟩ := h.code i hi
    exact ⟨ys, ⟨own_base h1 hl, fun b e => by have := (h1.lt b e).2; omega⟩, h2⟩, h.apart⟩
theorem set2_old {xs : List Value} {k j : Nat} (u v : Value) (hj : j < k * 2) : ((xs.set (k * 2) u).set (k * 2 + 1) v)[j]? = xs[j]? := by
  simp only [List.getElem?_set]
  rw [if_neg (by omega), if_neg (by omega)]
theorem set2_0 {xs : List Value} {k : Nat} (u v : Value) (hx : k * 2 + 1 < xs.length) : ((xs.set (k * 2) u).set (k * 2 + 1) v)[k * 2]? = some u := by
  simp only [List.getElem?_set]
  rw [if_neg (by omega), if_pos trivial, if_pos (by omega)]
theorem set2_1 {xs : List Value} {k : Nat} (u v : Value) (hx : k * 2 + 1 < xs.length) : ((xs.set (k * 2) u).set (k * 2 + 1) v)[k * 2 + 1]? = some v := by
  simp only [List.getElem?_set]
  rw [if_pos trivial, if_pos (by simp; omega)]

/-! ### toSpace -/
end Go.Proofs.YtjdjhenijihpfaaGreatDoor
