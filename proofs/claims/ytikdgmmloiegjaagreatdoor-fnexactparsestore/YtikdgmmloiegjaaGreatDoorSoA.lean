import Derived.Test.YtikdgmmloiegjaaGreatDoorMkO
import Derived.Test.YtikdgmmloiegjaaGreatDoorStLaw
namespace Go.Proofs.YtikdgmmloiegjaaGreatDoor
open Go.RowKit
set_option linter.unusedVariables false

/-- The blocks from lo to hi alone may differ. -/
def KeepR (lo hi : Nat) (w w' : World) : Prop := ∀ b, b < w.heap.size → (b < lo ∨ hi ≤ b) → w'.heap[b]? = w.heap[b]?
theorem KeepR.refl {lo hi : Nat} (w : World) : KeepR lo hi w w := fun _ _ _ => rfl
theorem KeepR.trans {lo hi : Nat} {a b c : World} (h : KeepR lo hi a b) (hs : a.heap.size ≤ b.heap.size) (k : KeepR lo hi b c) : KeepR lo hi a c := fun i hi hr => (k i (by omega) hr).trans (h i hi hr)
theorem KeepR.of_below {lo hi : Nat} {w w' : World} (h : Below w.heap.size w w') : KeepR lo hi w w' := fun b hb _ => h.block b hb
theorem KeepO.keepR {lo hi : Nat} {ob : Option Nat} {w w' : World} (h : KeepO ob w w') (hin : ∀ b, ob = some b → lo ≤ b ∧ b < hi) : KeepR lo hi w w' := fun b hb hr => h b hb (fun e => by have := hin b e.symm; omega)
theorem KeepR.set {lo hi : Nat} {w : World} {g : Nat} (h1 : lo ≤ g) (h2 : g < hi) (j : Nat) (v : Value) : KeepR lo hi w (w.setCell ⟨g, j, none⟩ v) := fun b hb hr => Below.heap_setCell w ⟨g, j, none⟩ v b (by show b ≠ g; omega)

/-- An owned row, its block below hi. -/
structure RowO (w : World) (lo hi e sz : Nat) (v : Value) (n : Nat) (xs : List Value) : Prop where
  own : w.ownsRow lo e sz v n xs
  top : ∀ b, v.ownBlock = some b → b < hi
theorem own_same {w w' : World} {B e sz n : Nat} {v : Value} {xs : List Value} (h : w.ownsRow B e sz v n xs) (hk : ∀ b, v.ownBlock = some b → w'.heap[b]? = w.heap[b]?) : w'.ownsRow B e sz v n xs := by
  refine ⟨h.1, ?_⟩
  rcases h.2 with h2 | ⟨g, cap, cur, hv, hg, hh, r⟩
  · exact Or.inl h2
  · refine Or.inr ⟨g, cap, cur, hv, hg, ?_, r⟩
    subst hv
    rw [hk g rfl]; exact hh
theorem RowO.same {w w' : World} {lo hi e sz n : Nat} {v : Value} {xs : List Value} (h : RowO w lo hi e sz v n xs) (hk : ∀ b, v.ownBlock = some b → w'.heap[b]? = w.heap[b]?) : RowO w' lo hi e sz v n xs := ⟨own_same h.own hk, h.top⟩
theorem RowO.below {w w' : World} {lo hi e sz n : Nat} {v : Value} {xs : List Value} (h : RowO w lo hi e sz v n xs) (hb : Below w.heap.size w w') : RowO w' lo hi e sz v n xs := h.same fun b e => hb.block b (h.own.lt b e).2
theorem RowO.keep {w w' : World} {lo hi lo' hi' e sz n : Nat} {v : Value} {xs : List Value} (h : RowO w lo hi e sz v n xs) (hk : KeepR lo' hi' w w') (hd : hi ≤ lo' ∨ hi' ≤ lo) : RowO w' lo hi e sz v n xs := h.same fun b e => hk b (h.own.lt b e).2 (by have h1 := (h.own.lt b e).1; have h2 := h.top b e; omega)
theorem RowO.wide {w : World} {lo hi lo' hi' e sz n : Nat} {v : Value} {xs : List Value} (h : RowO w lo hi e sz v n xs) (h1 : lo' ≤ lo) (h2 : hi ≤ hi') : RowO w lo' hi' e sz v n xs := ⟨own_base h.own h1, fun b e => by have := h.top b e; omega⟩
theorem RowO.nil (w : World) (lo hi e sz : Nat) : RowO w lo hi e sz (.slice none 0 0) 0 [] := ⟨World.ownsRow_nil _ _ _ _, fun b e => by simp [Value.ownBlock] at e⟩
theorem RowO.new {w : World} {lo e sz n : Nat} {v : Value} {xs : List Value} (h : w.ownsRow lo e sz v n xs) : RowO w lo w.heap.size e sz v n xs := ⟨h, fun b e => (h.lt b e).2⟩
theorem neT {w : World} {B B' e e' sz sz' n n' : Nat} {v v' : Value} {xs xs' : List Value} (h : w.ownsRow B e sz v n xs) (h' : w.ownsRow B' e' sz' v' n' xs') (hne : e ≠ e') : ∀ b, v.ownBlock = some b → v'.ownBlock ≠ some b := by
  intro b hb eb
  rcases h.2 with ⟨rfl, _⟩ | ⟨g, cap, cur, rfl, hg, hh, _⟩
  · simp [Value.ownBlock] at hb
  · rcases h'.2 with ⟨rfl, _⟩ | ⟨g', cap', cur', rfl, hg', hh', _⟩
    · simp [Value.ownBlock] at eb
    · simp only [Value.ownBlock, Option.some.injEq] at hb eb
      subst hb
      rw [eb] at hh'
      rw [hh] at hh'
      simp at hh'
      exact hne hh'.2

theorem row_slice {w : World} {lo hi e sz : Nat} {v : Value} {n : Nat} {ys : List Value} (h : RowO w lo hi e sz v n ys) : ∃ va vc, v = .slice va n vc := by
  rcases own_casesM h.own with ⟨hv, rfl⟩ | ⟨g', c', hv⟩
  · exact ⟨_, _, hv⟩
  · exact ⟨_, _, hv⟩

end Go.Proofs.YtikdgmmloiegjaaGreatDoor
namespace Go.Proofs.YtikdgmmloiegjaaGreatDoor
open Go.RowKit
set_option linter.unusedVariables false

/-- An owned row of texts. -/
def OwnX (w : World) (lo hi : Nat) (v : Value) (ts : List ByteArray) : Prop := RowO w lo hi 9 1 v ts.length (ts.map Value.string)
theorem filled_all (ss : List ByteArray) : filled ss ss.length ss.length = ss.map Value.string := by simp [filled]
theorem map_str (ss : List ByteArray) (i : Nat) (h : i < ss.length) : (ss.map Value.string)[i]? = some (.string (ss.getD i ByteArray.empty)) := by rw [← filled_all]; exact filled_get ss i h
theorem OwnX.below {w w' : World} {lo hi : Nat} {v : Value} {ts : List ByteArray} (h : OwnX w lo hi v ts) (hb : Below w.heap.size w w') : OwnX w' lo hi v ts := RowO.below h hb
theorem OwnX.keep {w w' : World} {lo hi lo' hi' : Nat} {v : Value} {ts : List ByteArray} (h : OwnX w lo hi v ts) (hk : KeepR lo' hi' w w') (hd : hi ≤ lo' ∨ hi' ≤ lo) : OwnX w' lo hi v ts := RowO.keep h hk hd
theorem OwnX.wide {w : World} {lo hi lo' hi' : Nat} {v : Value} {ts : List ByteArray} (h : OwnX w lo hi v ts) (h1 : lo' ≤ lo) (h2 : hi ≤ hi') : OwnX w lo' hi' v ts := RowO.wide h h1 h2
theorem OwnX.nil (w : World) (lo hi : Nat) : OwnX w lo hi (.slice none 0 0) [] := RowO.nil _ _ _ _ _
theorem OwnX.sl {w : World} {lo hi : Nat} {v : Value} {ts : List ByteArray} (h : OwnX w lo hi v ts) : ∃ a cap, v = .slice a ts.length cap ∧ Strs w a ts := by
  rcases own_casesM (RowO.own h) with ⟨rfl, h0⟩ | ⟨g, cap, rfl⟩
  · exact ⟨none, 0, by rw [h0], fun i hi => by omega⟩
  · refine ⟨_, cap, rfl, fun i hi => ⟨g, 0, rfl, ?_⟩⟩
    rw [Nat.zero_add, (RowO.own h).cellAt _ (by omega)]
    exact map_str ts i hi
theorem OwnX.set {w : World} {lo hi b j : Nat} {v : Value} {ts : List ByteArray} (h : OwnX w lo hi v ts) (hb : b < lo) (u : Value) : OwnX (w.setCell ⟨b, j, none⟩ u) lo hi v ts := h.keep (KeepR.set (lo := b) (hi := b + 1) (Nat.le_refl _) (Nat.lt_succ_self _) j u) (Or.inr hb)

/-- An owned row of records; cv, lv: where each code and each row of looks lies. -/
structure OwnQ1 (w : World) (lo hi : Nat) (v : Value) (rs : List T3) (xs : List Value) (cv lv : Nat → Value) : Prop where
  row : RowO w lo hi 54 3 v rs.length xs
  fil : ∀ i, i < rs.length → xs[i * 3]? = some (cv i) ∧ xs[i * 3 + 1]? = some (lv i) ∧ xs[i * 3 + 2]? = some (.string (qx rs i).out)
  code : ∀ i, i < rs.length → ∃ ys, RowO w lo hi 56 3 (cv i) (qx rs i).code.length ys ∧ Filled3 (qx rs i).code (qx rs i).code.length ys
  look : ∀ i, i < rs.length → ∃ ys, RowO w lo hi 60 3 (lv i) (qx rs i).looks.length ys ∧ FilledG (qx rs i).looks (qx rs i).looks.length ys
  apc : ∀ i j, i < j → j < rs.length → ∀ b, (cv i).ownBlock = some b → (cv j).ownBlock ≠ some b
  apl : ∀ i j, i < j → j < rs.length → ∀ b, (lv i).ownBlock = some b → (lv j).ownBlock ≠ some b
def OwnQ (w : World) (lo hi : Nat) (v : Value) (rs : List T3) : Prop := ∃ xs cv lv, OwnQ1 w lo hi v rs xs cv lv
theorem OwnQ1.below {w w' : World} {lo hi : Nat} {v : Value} {rs : List T3} {xs : List Value} {cv lv : Nat → Value} (h : OwnQ1 w lo hi v rs xs cv lv) (hb : Below w.heap.size w w') : OwnQ1 w' lo hi v rs xs cv lv :=
  ⟨h.row.below hb, h.fil, fun i hi => by obtain ⟨ys, h1, h2⟩ := h.code i hi; exact ⟨ys, h1.below hb, h2⟩, fun i hi => by obtain ⟨ys, h1, h2⟩ := h.look i hi; exact ⟨ys, h1.below hb, h2⟩, h.apc, h.apl⟩
theorem OwnQ1.keep {w w' : World} {lo hi lo' hi' : Nat} {v : Value} {rs : List T3} {xs : List Value} {cv lv : Nat → Value} (h : OwnQ1 w lo hi v rs xs cv lv) (hk : KeepR lo' hi' w w') (hd : hi ≤ lo' ∨ hi' ≤ lo) : OwnQ1 w' lo hi v rs xs cv lv :=
  ⟨h.row.keep hk hd, h.fil, fun i hi => by obtain ⟨ys, h1, h2⟩ := h.code i hi; exact ⟨ys, h1.keep hk hd, h2⟩, fun i hi => by obtain ⟨ys, h1, h2⟩ := h.look i hi; exact ⟨ys, h1.keep hk hd, h2⟩, h.apc, h.apl⟩
theorem OwnQ1.wide {w : World} {lo hi lo' hi' : Nat} {v : Value} {rs : List T3} {xs : List Value} {cv lv : Nat → Value} (h : OwnQ1 w lo hi v rs xs cv lv) (h1 : lo' ≤ lo) (h2 : hi ≤ hi') : OwnQ1 w lo' hi' v rs xs cv lv :=
  ⟨h.row.wide h1 h2, h.fil, fun i hi => by obtain ⟨ys, k1, k2⟩ := h.code i hi; exact ⟨ys, k1.wide h1 h2, k2⟩, fun i hi => by obtain ⟨ys, k1, k2⟩ := h.look i hi; exact ⟨ys, k1.wide h1 h2, k2⟩, h.apc, h.apl⟩
theorem OwnQ.below {w w' : World} {lo hi : Nat} {v : Value} {rs : List T3} (h : OwnQ w lo hi v rs) (hb : Below w.heap.size w w') : OwnQ w' lo hi v rs := by
  obtain ⟨xs, cv, lv, h⟩ := h; exact ⟨xs, cv, lv, h.below hb⟩
theorem OwnQ.keep {w w' : World} {lo hi lo' hi' : Nat} {v : Value} {rs : List T3} (h : OwnQ w lo hi v rs) (hk : KeepR lo' hi' w w') (hd : hi ≤ lo' ∨ hi' ≤ lo) : OwnQ w' lo hi v rs := by
  obtain ⟨xs, cv, lv, h⟩ := h; exact ⟨xs, cv, lv, h.keep hk hd⟩
theorem OwnQ.wide {w : World} {lo hi lo' hi' : Nat} {v : Value} {rs : List T3} (h : OwnQ w lo hi v rs) (h1 : lo' ≤ lo) (h2 : hi ≤ hi') : OwnQ w lo' hi' v rs := by
  obtain ⟨xs, cv, lv, h⟩ := h; exact ⟨xs, cv, lv, h.wide h1 h2⟩
theorem OwnQ.nil (w : World) (lo hi : Nat) : OwnQ w lo hi (.slice none 0 0) [] := ⟨[], fun _ => .slice none 0 0, fun _ => .slice none 0 0, RowO.nil _ _ _ _ _, fun i hi => by simp at hi, fun i hi => by simp at hi, fun i hi => by simp at hi, fun i j _ hj => by simp at hj, fun i j _ hj => by simp at hj⟩
theorem OwnQ.set {w : World} {lo hi b j : Nat} {v : Value} {rs : List T3} (h : OwnQ w lo hi v rs) (hb : b < lo) (u : Value) : OwnQ (w.setCell ⟨b, j, none⟩ u) lo hi v rs := h.keep (KeepR.set (lo := b) (hi := b + 1) (Nat.le_refl _) (Nat.lt_succ_self _) j u) (Or.inr hb)
/-- A write into a row of another kind leaves the records. -/
theorem OwnQ.keepO {w w' : World} {lo hi e sz n B : Nat} {u v : Value} {rs : List T3} {zs : List Value} (h : OwnQ w lo hi v rs) (ho : w.ownsRow B e sz u n zs) (hk : KeepO u.ownBlock w w') (h1 : 54 ≠ e) (h2 : 56 ≠ e) (h3 : 60 ≠ e) : OwnQ w' lo hi v rs := by
  obtain ⟨xs, cv, lv, h⟩ := h
  exact ⟨xs, cv, lv, h.row.same fun b eb => hk b (h.row.own.lt b eb).2 (fun e' => neT h.row.own ho h1 b eb e'.symm), h.fil, fun i hi => by
    obtain ⟨ys, k1, k2⟩ := h.code i hi
    exact ⟨ys, k1.same fun b eb => hk b (k1.own.lt b eb).2 (fun e' => neT k1.own ho h2 b eb e'.symm), k2⟩, fun i hi => by
    obtain ⟨ys, k1, k2⟩ := h.look i hi
    exact ⟨ys, k1.same fun b eb => hk b (k1.own.lt b eb).2 (fun e' => neT k1.own ho h3 b eb e'.symm), k2⟩, h.apc, h.apl⟩
theorem row3_RowO {w : World} {lo hi : Nat} {v : Value} {is : List I3} {ys : List Value} (h : RowO w lo hi 56 3 v is.length ys) (hf : Filled3 is is.length ys) : ∃ a cap, v = .slice a is.length cap ∧ Row3 w a is := by
  rcases own_casesM h.own with ⟨rfl, h0⟩ | ⟨g, cap, rfl⟩
  · exact ⟨none, 0, by rw [h0], fun i hi => by omega⟩
  · refine ⟨_, cap, rfl, fun i hi => ?_⟩
    obtain ⟨h1, h2, h3⟩ := hf i hi
    refine ⟨g, 0, rfl, ?_, ?_, ?_⟩
    · rw [Nat.zero_add, h.own.cellAt _ (by omega)]; exact h1
    · rw [Nat.zero_add, h.own.cellAt _ (by omega)]; exact h2
    · rw [Nat.zero_add, h.own.cellAt _ (by omega)]; exact h3
theorem rowG_RowO {w : World} {lo hi : Nat} {v : Value} {is : List G3} {ys : List Value} (h : RowO w lo hi 60 3 v is.length ys) (hf : FilledG is is.length ys) : ∃ a cap, v = .slice a is.length cap ∧ RowG w a is := by
  rcases own_casesM h.own with ⟨rfl, h0⟩ | ⟨g, cap, rfl⟩
  · exact ⟨none, 0, by rw [h0], fun i hi => by omega⟩
  · exact ⟨_, cap, rfl, rowG_own rfl h.own hf⟩
theorem OwnQ.sl {w : World} {lo hi : Nat} {v : Value} {rs : List T3} (h : OwnQ w lo hi v rs) : ∃ a cap, v = .slice a rs.length cap ∧ RowQ w a rs := by
  obtain ⟨xs, cv, lv, h⟩ := h
  rcases own_casesM h.row.own with ⟨rfl, h0⟩ | ⟨g, cap, rfl⟩
  · exact ⟨none, 0, by rw [h0], fun i hi => by omega⟩
  · refine ⟨_, cap, rfl, fun i hi => ?_⟩
    obtain ⟨h1, h2, h3⟩ := h.fil i hi
    obtain ⟨ys, k1, k2⟩ := h.code i hi
    obtain ⟨zs, j1, j2⟩ := h.look i hi
    obtain ⟨a', cap', e, r⟩ := row3_RowO k1 k2
    obtain ⟨a2, cap2, e2, r2⟩ := rowG_RowO j1 j2
    refine ⟨g, 0, rfl, a', cap', a2, cap2, ?_, ?_, ?_, r, r2⟩
    · rw [Nat.zero_add, h.row.own.cellAt _ (by omega), h1, e]
    · rw [Nat.zero_add, h.row.own.cellAt _ (by omega), h2, e2]
    · rw [Nat.zero_add, h.row.own.cellAt _ (by omega), h3]

end Go.Proofs.YtikdgmmloiegjaaGreatDoor
