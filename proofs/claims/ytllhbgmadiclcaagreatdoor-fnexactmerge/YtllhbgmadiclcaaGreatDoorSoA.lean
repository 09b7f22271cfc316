import Derived.Test.YtllhbgmadiclcaaGreatDoorOwn
namespace Go.Proofs.YtllhbgmadiclcaaGreatDoor
open Go.RowKit
set_option linter.unusedVariables false

/-- An owned row of texts. -/
def OwnX (w : World) (lo hi : Nat) (v : Value) (ts : List ByteArray) : Prop := RowO w lo hi 9 1 v ts.length (ts.map Value.string)
theorem filled_all (ss : List ByteArray) : filled ss ss.length ss.length = ss.map Value.string := by simp [filled]
theorem map_str (ss : List ByteArray) (i : Nat) (h : i < ss.length) : (ss.map Value.string)[i]? = some (.string (ss.getD i ByteArray.empty)) := by rw [← filled_all]; exact filled_get ss i h
theorem OwnX.below {w w' : World} {lo hi : Nat} {v : Value} {ts : List ByteArray} (h : OwnX w lo hi v ts) (hb : Below w.heap.size w w') : OwnX w' lo hi v ts := RowO.below h hb
theorem OwnX.keep {w w' : World} {lo hi lo' hi' : Nat} {v : Value} {ts : List ByteArray} (h : OwnX w lo hi v ts) (hk : KeepR lo' hi' w w') (hd : hi ≤ lo' ∨ hi' ≤ lo) : OwnX w' lo hi v ts := RowO.keep h hk hd
theorem OwnX.wide {w : World} {lo hi lo' hi' : Nat} {v : Value} {ts : List ByteArray} (h : OwnX w lo hi v ts) (h1 : lo' ≤ lo) (h2 : hi ≤ hi') : OwnX w lo' hi' v ts := RowO.wide h h1 h2
theorem OwnX.nil (w : World) (lo hi : Nat) : OwnX w lo hi (.slice none 0 0) [] := RowO.nil _ _ _ _ _
theorem OwnX.sl {w : World} {lo hi : Nat} {v : Value} {ts : List ByteArray} (h : OwnX w lo hi v ts) : ∃ a cap, v = .slice a ts.length cap ∧ Strs w a ts := by
  rcases own_casesM (RowO.own h) with ⟨rfl, h0⟩ | ⟨g, cap, rfl⟩
  · exact ⟨none, 0, by rw [h0], fun i hi => by omega⟩
  · refine ⟨_, cap, rfl, fun i hi => ⟨g, 0, rfl, ?_⟩⟩
    rw [Nat.zero_add, (RowO.own h).cellAt _ (by omega)]
    exact map_str ts i hi
theorem OwnX.set {w : World} {lo hi b j : Nat} {v : Value} {ts : List ByteArray} (h : OwnX w lo hi v ts) (hb : b < lo) (u : Value) : OwnX (w.setCell ⟨b, j, none⟩ u) lo hi v ts := h.keep (KeepR.set (lo := b) (hi := b + 1) (Nat.le_refl _) (Nat.lt_succ_self _) j u) (Or.inr hb)

/-- An owned row of records; cv, lv: where each code and each row of looks lies. -/
structure OwnQ1 (w : World) (lo hi : Nat) (v : Value) (rs : List T3) (xs : List Value) (cv lv : Nat → Value) : Prop where
  row : RowO w lo hi 50 3 v rs.length xs
  fil : ∀ i, i < rs.length → xs[i * 3]? = some (cv i) ∧ xs[i * 3 + 1]? = some (lv i) ∧ xs[i * 3 + 2]? = some (.string (qx rs i).out)
  code : ∀ i, i < rs.length → ∃ ys, RowO w lo hi 98 3 (cv i) (qx rs i).code.length ys ∧ Filled3 (qx rs i).code (qx rs i).code.length ys
  look : ∀ i, i < rs.length → ∃ ys, RowO w lo hi 90 3 (lv i) (qx rs i).looks.length ys ∧ FilledG (qx rs i).looks (qx rs i).looks.length ys
  apc : ∀ i j, i < j → j < rs.length → ∀ b, (cv i).ownBlock = some b → (cv j).ownBlock ≠ some b
  apl : ∀ i j, i < j → j < rs.length → ∀ b, (lv i).ownBlock = some b → (lv j).ownBlock ≠ some b
  som : ∀ i, i < rs.length → ∃ g cap, lv i = .slice (some ⟨g, 0, none⟩) (qx rs i).looks.length cap
def OwnQ (w : World) (lo hi : Nat) (v : Value) (rs : List T3) : Prop := ∃ xs cv lv, OwnQ1 w lo hi v rs xs cv lv
theorem OwnQ1.below {w w' : World} {lo hi : Nat} {v : Value} {rs : List T3} {xs : List Value} {cv lv : Nat → Value} (h : OwnQ1 w lo hi v rs xs cv lv) (hb : Below w.heap.size w w') : OwnQ1 w' lo hi v rs xs cv lv :=
  ⟨h.row.below hb, h.fil, fun i hi => by obtain ⟨ys, h1, h2⟩ := h.code i hi; exact ⟨ys, h1.below hb, h2⟩, fun i hi => by obtain ⟨ys, h1, h2⟩ := h.look i hi; exact ⟨ys, h1.below hb, h2⟩, h.apc, h.apl, h.som⟩
theorem OwnQ1.keep {w w' : World} {lo hi lo' hi' : Nat} {v : Value} {rs : List T3} {xs : List Value} {cv lv : Nat → Value} (h : OwnQ1 w lo hi v rs xs cv lv) (hk : KeepR lo' hi' w w') (hd : hi ≤ lo' ∨ hi' ≤ lo) : OwnQ1 w' lo hi v rs xs cv lv :=
  ⟨h.row.keep hk hd, h.fil, fun i hi => by obtain ⟨ys, h1, h2⟩ := h.code i hi; exact ⟨ys, h1.keep hk hd, h2⟩, fun i hi => by obtain ⟨ys, h1, h2⟩ := h.look i hi; exact ⟨ys, h1.keep hk hd, h2⟩, h.apc, h.apl, h.som⟩
theorem OwnQ1.wide {w : World} {lo hi lo' hi' : Nat} {v : Value} {rs : List T3} {xs : List Value} {cv lv : Nat → Value} (h : OwnQ1 w lo hi v rs xs cv lv) (h1 : lo' ≤ lo) (h2 : hi ≤ hi') : OwnQ1 w lo' hi' v rs xs cv lv :=
  ⟨h.row.wide h1 h2, h.fil, fun i hi => by obtain ⟨ys, k1, k2⟩ := h.code i hi; exact ⟨ys, k1.wide h1 h2, k2⟩, fun i hi => by obtain ⟨ys, k1, k2⟩ := h.look i hi; exact ⟨ys, k1.wide h1 h2, k2⟩, h.apc, h.apl, h.som⟩
theorem OwnQ.below {w w' : World} {lo hi : Nat} {v : Value} {rs : List T3} (h : OwnQ w lo hi v rs) (hb : Below w.heap.size w w') : OwnQ w' lo hi v rs := by
  obtain ⟨xs, cv, lv, h⟩ := h; exact ⟨xs, cv, lv, h.below hb⟩
theorem OwnQ.keep {w w' : World} {lo hi lo' hi' : Nat} {v : Value} {rs : List T3} (h : OwnQ w lo hi v rs) (hk : KeepR lo' hi' w w') (hd : hi ≤ lo' ∨ hi' ≤ lo) : OwnQ w' lo hi v rs := by
  obtain ⟨xs, cv, lv, h⟩ := h; exact ⟨xs, cv, lv, h.keep hk hd⟩
theorem OwnQ.wide {w : World} {lo hi lo' hi' : Nat} {v : Value} {rs : List T3} (h : OwnQ w lo hi v rs) (h1 : lo' ≤ lo) (h2 : hi ≤ hi') : OwnQ w lo' hi' v rs := by
  obtain ⟨xs, cv, lv, h⟩ := h; exact ⟨xs, cv, lv, h.wide h1 h2⟩
theorem OwnQ.nil (w : World) (lo hi : Nat) : OwnQ w lo hi (.slice none 0 0) [] := ⟨[], fun _ => .slice none 0 0, fun _ => .slice none 0 0, RowO.nil _ _ _ _ _, fun i hi => by simp at hi, fun i hi => by simp at hi, fun i hi => by simp at hi, fun i j _ hj => by simp at hj, fun i j _ hj => by simp at hj, fun i hi => by simp at hi⟩
theorem OwnQ.set {w : World} {lo hi b j : Nat} {v : Value} {rs : List T3} (h : OwnQ w lo hi v rs) (hb : b < lo) (u : Value) : OwnQ (w.setCell ⟨b, j, none⟩ u) lo hi v rs := h.keep (KeepR.set (lo := b) (hi := b + 1) (Nat.le_refl _) (Nat.lt_succ_self _) j u) (Or.inr hb)
/-- A write into a row of another kind leaves the records. -/
theorem OwnQ.keepO {w w' : World} {lo hi e sz n B : Nat} {u v : Value} {rs : List T3} {zs : List Value} (h : OwnQ w lo hi v rs) (ho : w.ownsRow B e sz u n zs) (hk : KeepO u.ownBlock w w') (h1 : 50 ≠ e) (h2 : 98 ≠ e) (h3 : 90 ≠ e) : OwnQ w' lo hi v rs := by
  obtain ⟨xs, cv, lv, h⟩ := h
  exact ⟨xs, cv, lv, h.row.same fun b eb => hk b (h.row.own.lt b eb).2 (fun e' => neT h.row.own ho h1 b eb e'.symm), h.fil, fun i hi => by
    obtain ⟨ys, k1, k2⟩ := h.code i hi
    exact ⟨ys, k1.same fun b eb => hk b (k1.own.lt b eb).2 (fun e' => neT k1.own ho h2 b eb e'.symm), k2⟩, fun i hi => by
    obtain ⟨ys, k1, k2⟩ := h.look i hi
    exact ⟨ys, k1.same fun b eb => hk b (k1.own.lt b eb).2 (fun e' => neT k1.own ho h3 b eb e'.symm), k2⟩, h.apc, h.apl, h.som⟩
theorem row3_RowO {w : World} {lo hi : Nat} {v : Value} {is : List I3} {ys : List Value} (h : RowO w lo hi 98 3 v is.length ys) (hf : Filled3 is is.length ys) : ∃ a cap, v = .slice a is.length cap ∧ Row3 w a is := by
  rcases own_casesM h.own with ⟨rfl, h0⟩ | ⟨g, cap, rfl⟩
  · exact ⟨none, 0, by rw [h0], fun i hi => by omega⟩
  · refine ⟨_, cap, rfl, fun i hi => ?_⟩
    obtain ⟨h1, h2, h3⟩ := hf i hi
    refine ⟨g, 0, rfl, ?_, ?_, ?_⟩
    · rw [Nat.zero_add, h.own.cellAt _ (by omega)]; exact h1
    · rw [Nat.zero_add, h.own.cellAt _ (by omega)]; exact h2
    · rw [Nat.zero_add, h.own.cellAt _ (by omega)]; exact h3
theorem rowG_RowO {w : World} {lo hi : Nat} {v : Value} {is : List G3} {ys : List Value} (h : RowO w lo hi 90 3 v is.length ys) (hf : FilledG is is.length ys) : ∃ a cap, v = .slice a is.length cap ∧ RowG w a is := by
  rcases own_casesM h.own with ⟨rfl, h0⟩ | ⟨g, cap, rfl⟩
  · exact ⟨none, 0, by rw [h0], fun i hi => by omega⟩
  · exact ⟨_, cap, rfl, rowG_own rfl h.own hf⟩
theorem OwnQ.sl {w : World} {lo hi : Nat} {v : Value} {rs : List T3} (h : OwnQ w lo hi v rs) : ∃ a cap, v = .slice a rs.length cap ∧ RowQ w a rs := by
  obtain ⟨xs, cv, lv, h⟩ := h
  rcases own_casesM h.row.own with ⟨rfl, h0⟩ | ⟨g, cap, rfl⟩
  · exact ⟨none, 0, by rw [h0], fun i hi => by omega⟩
  · refine ⟨_, cap, rfl, fun i hi => ?_⟩
    obtain ⟨h1, h2, h3⟩ := h.fil i hi
    obtain ⟨ys, k1, k2⟩ := h.code i hi
    obtain ⟨zs, j1, j2⟩ := h.look i hi
    obtain ⟨a', cap', e, r⟩ := row3_RowO k1 k2
    obtain ⟨a2, cap2, e2, r2⟩ := rowG_RowO j1 j2
    refine ⟨g, 0, rfl, a', cap', a2, cap2, ?_, ?_, ?_, r, r2⟩
    · rw [Nat.zero_add, h.row.own.cellAt _ (by omega), h1, e]
    · rw [Nat.zero_add, h.row.own.cellAt _ (by omega), h2, e2]
    · rw [Nat.zero_add, h.row.own.cellAt _ (by omega), h3]
/-- A row of records whose looks are not nil. -/
def RowP (w : World) (a : Option Addr) (is : List T3) : Prop :=
  ∀ i, i < is.length → ∃ b off, a = some ⟨b, off, none⟩ ∧ ∃ ca cc lb lf lc, w.cell? ⟨b, off + i * 3, none⟩ = some (.slice ca (qx is i).code.length cc) ∧ w.cell? ⟨b, off + i * 3 + 1, none⟩ = some (.slice (some ⟨lb, lf, none⟩) (qx is i).looks.length lc) ∧ w.cell? ⟨b, off + i * 3 + 2, none⟩ = some (.string (qx is i).out) ∧ Row3 w ca (qx is i).code ∧ RowG w (some ⟨lb, lf, none⟩) (qx is i).looks
theorem RowP.row {w : World} {a : Option Addr} {is : List T3} (h : RowP w a is) : RowQ w a is := fun i hi => by
  obtain ⟨b, off, ha, ca, cc, lb, lf, lc, h1, h2, h3, h4, h5⟩ := h i hi
  exact ⟨b, off, ha, ca, cc, _, lc, h1, h2, h3, h4, h5⟩
theorem RowP.below {w w' : World} {a : Option Addr} {is : List T3} (h : RowP w a is) (hb : Below w.heap.size w w') : RowP w' a is := fun i hi => by
  obtain ⟨b, off, ha, ca, cc, lb, lf, lc, h1, h2, h3, h4, h5⟩ := h i hi
  exact ⟨b, off, ha, ca, cc, lb, lf, lc, cell_below hb h1, cell_below hb h2, cell_below hb h3, h4.below hb, h5.below hb⟩
theorem OwnQ.slP {w : World} {lo hi : Nat} {v : Value} {rs : List T3} (h : OwnQ w lo hi v rs) : ∃ a cap, v = .slice a rs.length cap ∧ RowP w a rs := by
  obtain ⟨xs, cv, lv, h⟩ := h
  rcases own_casesM h.row.own with ⟨rfl, h0⟩ | ⟨g, cap, rfl⟩
  · exact ⟨none, 0, by rw [h0], fun i hi => by omega⟩
  · refine ⟨_, cap, rfl, fun i hi => ?_⟩
    obtain ⟨h1, h2, h3⟩ := h.fil i hi
    obtain ⟨ys, k1, k2⟩ := h.code i hi
    obtain ⟨zs, j1, j2⟩ := h.look i hi
    obtain ⟨a', cap', e, r⟩ := row3_RowO k1 k2
    obtain ⟨a2, cap2, e2, r2⟩ := rowG_RowO j1 j2
    obtain ⟨g3, c3, e3⟩ := h.som i hi
    rw [e3] at e2
    cases e2
    refine ⟨g, 0, rfl, a', cap', g3, 0, cap2, ?_, ?_, ?_, r, r2⟩
    · rw [Nat.zero_add, h.row.own.cellAt _ (by omega), h1, e]
    · rw [Nat.zero_add, h.row.own.cellAt _ (by omega), h2, e3]
    · rw [Nat.zero_add, h.row.own.cellAt _ (by omega), h3]

/-! ### a row of records that grows -/
structure PartQ (w : World) (lo : Nat) (is : List T3) (k : Nat) (xs : List Value) (cv lv : Nat → Value) : Prop where
  fil : ∀ i, i < k → xs[i * 3]? = some (cv i) ∧ xs[i * 3 + 1]? = some (lv i) ∧ xs[i * 3 + 2]? = some (.string (qx is i).out)
  code : ∀ i, i < k → ∃ ys, w.ownsRow lo 98 3 (cv i) (qx is i).code.length ys ∧ Filled3 (qx is i).code (qx is i).code.length ys
  look : ∀ i, i < k → ∃ ys, w.ownsRow lo 90 3 (lv i) (qx is i).looks.length ys ∧ FilledG (qx is i).looks (qx is i).looks.length ys
  apc : ∀ i j, i < j → j < k → ∀ b, (cv i).ownBlock = some b → (cv j).ownBlock ≠ some b
  apl : ∀ i j, i < j → j < k → ∀ b, (lv i).ownBlock = some b → (lv j).ownBlock ≠ some b
  som : ∀ i, i < k → ∃ g cap, lv i = .slice (some ⟨g, 0, none⟩) (qx is i).looks.length cap
theorem PartQ.same {w w' : World} {lo : Nat} {is : List T3} {k : Nat} {xs : List Value} {cv lv : Nat → Value} (h : PartQ w lo is k xs cv lv) (hk : ∀ b, lo ≤ b → b < w.heap.size → w'.heap[b]? = w.heap[b]?) : PartQ w' lo is k xs cv lv :=
  ⟨h.fil, fun i hi => by
    obtain ⟨ys, h1, h2⟩ := h.code i hi
    exact ⟨ys, own_same h1 (fun b e => hk b (h1.lt b e).1 (h1.lt b e).2), h2⟩, fun i hi => by
    obtain ⟨ys, h1, h2⟩ := h.look i hi
    exact ⟨ys, own_same h1 (fun b e => hk b (h1.lt b e).1 (h1.lt b e).2), h2⟩, h.apc, h.apl, h.som⟩
theorem PartQ.below {w w' : World} {lo : Nat} {is : List T3} {k : Nat} {xs : List Value} {cv lv : Nat → Value} (h : PartQ w lo is k xs cv lv) (hb : Below w.heap.size w w') : PartQ w' lo is k xs cv lv := h.same fun b _ hl => hb.block b hl
theorem PartQ.set {w : World} {lo b j : Nat} {is : List T3} {k : Nat} {xs : List Value} {cv lv : Nat → Value} (h : PartQ w lo is k xs cv lv) (hb : b < lo) (u : Value) : PartQ (w.setCell ⟨b, j, none⟩ u) lo is k xs cv lv := h.same fun c hc _ => Below.heap_setCell w ⟨b, j, none⟩ u c (by show c ≠ b; omega)
theorem PartQ.zero (w : World) (lo : Nat) (is : List T3) (xs : List Value) : PartQ w lo is 0 xs (fun _ => .slice none 0 0) (fun _ => .slice none 0 0) := ⟨fun i hi => by omega, fun i hi => by omega, fun i hi => by omega, fun i j _ hj => by omega, fun i j _ hj => by omega, fun i hi => by omega⟩
/-- One record more; its rows are new, and apart from what was there. -/
theorem PartQ.add {w w2 : World} {lo : Nat} {is : List T3} {k : Nat} {xs xs2 : List Value} {cv lv : Nat → Value} (h : PartQ w lo is k xs cv lv) (hk : ∀ b, lo ≤ b → b < w.heap.size → w2.heap[b]? = w.heap[b]? ∨ ∃ n zs B v, w.ownsRow B 50 3 v n zs ∧ v.ownBlock = some b) (hl : lo ≤ w.heap.size) {c d : Value} {ys zs : List Value} (ho : w2.ownsRow w.heap.size 98 3 c (qx is k).code.length ys) (hf : Filled3 (qx is k).code (qx is k).code.length ys) (ho2 : w2.ownsRow w.heap.size 90 3 d (qx is k).looks.length zs) (hf2 : FilledG (qx is k).looks (qx is k).looks.length zs) (hd : ∃ g cap, d = .slice (some ⟨g, 0, none⟩) (qx is k).looks.length cap)
    (h1 : ∀ j, j < k * 3 → xs2[j]? = xs[j]?) (h2 : xs2[k * 3]? = some c) (h3 : xs2[k * 3 + 1]? = some d) (h4 : xs2[k * 3 + 2]? = some (.string (qx is k).out)) : PartQ w2 lo is (k + 1) xs2 (fun i => if i = k then c else cv i) (fun i => if i = k then d else lv i) := by
  have hsame : ∀ {e sz n : Nat} {u : Value} {us : List Value}, w.ownsRow lo e sz u n us → 50 ≠ e → w2.ownsRow lo e sz u n us := fun {e sz n u us} k1 hne => own_same k1 (fun b eb => by
    rcases hk b (k1.lt b eb).1 (k1.lt b eb).2 with h | ⟨n', zs', B', v', o', e'⟩
    · exact h
    · exact absurd eb (neT o' k1 hne b e'))
  refine ⟨fun i hi => ?_, fun i hi => ?_, fun i hi => ?_, fun i j hij hj => ?_, fun i j hij hj => ?_, fun i hi => ?_⟩
  · rcases Nat.lt_or_ge i k with hl | hl
    · obtain ⟨k1, k2, k3⟩ := h.fil i hl
      rw [h1 _ (by omega), h1 _ (by omega), h1 _ (by omega), if_neg (by omega), if_neg (by omega)]
      exact ⟨k1, k2, k3⟩
    · obtain rfl : i = k := by omega
      rw [if_pos rfl, if_pos rfl]
      exact ⟨h2, h3, h4⟩
  · rcases Nat.lt_or_ge i k with hlt | hge
    · obtain ⟨zs, k1, k2⟩ := h.code i hlt
      simp only [if_neg (show ¬ i = k by omega)]
      exact ⟨zs, hsame k1 (by decide), k2⟩
    · obtain rfl : i = k := by omega
      simp only [if_true]
      exact ⟨ys, own_base ho hl, hf⟩
  · rcases Nat.lt_or_ge i k with hlt | hge
    · obtain ⟨zs, k1, k2⟩ := h.look i hlt
      simp only [if_neg (show ¬ i = k by omega)]
      exact ⟨zs, hsame k1 (by decide), k2⟩
    · obtain rfl : i = k := by omega
      simp only [if_true]
      exact ⟨zs, own_base ho2 hl, hf2⟩
  · rcases Nat.lt_or_ge j k with hlt | hge
    · simp only [if_neg (show ¬ i = k by omega), if_neg (show ¬ j = k by omega)]
      exact h.apc i j hij hlt
    · obtain rfl : j = k := by omega
      simp only [if_neg (show ¬ i = j by omega), if_true]
      intro b e1 e2
      obtain ⟨zs, k1, _⟩ := h.code i hij
      have := (k1.lt b e1).2
      have := (ho.lt b e2).1
      omega
  · rcases Nat.lt_or_ge j k with hlt | hge
    · simp only [if_neg (show ¬ i = k by omega), if_neg (show ¬ j = k by omega)]
      exact h.apl i j hij hlt
    · obtain rfl : j = k := by omega
      simp only [if_neg (show ¬ i = j by omega), if_true]
      intro b e1 e2
      obtain ⟨zs, k1, _⟩ := h.look i hij
      have := (k1.lt b e1).2
      have := (ho2.lt b e2).1
      omega
  · rcases Nat.lt_or_ge i k with hlt | hge
    · simp only [if_neg (show ¬ i = k by omega)]
      exact h.som i hlt
    · obtain rfl : i = k := by omega
      simp only [if_true]
      exact hd
theorem PartQ.own {w : World} {lo lo' hi : Nat} {v : Value} {is : List T3} {xs : List Value} {cv lv : Nat → Value} (h : PartQ w lo' is is.length xs cv lv) (hr : w.ownsRow lo 50 3 v is.length xs) (hl : lo ≤ lo') (hh : w.heap.size ≤ hi) : OwnQ w lo hi v is :=
  ⟨xs, cv, lv, ⟨hr, fun b e => by have := (hr.lt b e).2; omega⟩, h.fil, fun i hi => by
    obtain ⟨ys, h1, h2⟩ := h.code i hi
    exact ⟨ys, ⟨own_base h1 hl, fun b e => by have := (h1.lt b e).2; omega⟩, h2⟩, fun i hi => by
    obtain ⟨ys, h1, h2⟩ := h.look i hi
    exact ⟨ys, ⟨own_base h1 hl, fun b e => by have := (h1.lt b e).2; omega⟩, h2⟩, h.apc, h.apl, h.som⟩
theorem set3_old {xs : List Value} {k j : Nat} (u v t : Value) (hj : j < k * 3) : (((xs.set (k * 3) u).set (k * 3 + 1) v).set (k * 3 + 2) t)[j]? = xs[j]? := by
  simp only [List.getElem?_set]
  rw [if_neg (by omega), if_neg (by omega), if_neg (by omega)]
theorem set3_0 {xs : List Value} {k : Nat} (u v t : Value) (hx : k * 3 + 2 < xs.length) : (((xs.set (k * 3) u).set (k * 3 + 1) v).set (k * 3 + 2) t)[k * 3]? = some u := by
  simp only [List.getElem?_set]
  rw [if_neg (by omega), if_neg (by omega), if_pos trivial, if_pos (by omega)]
theorem set3_1 {xs : List Value} {k : Nat} (u v t : Value) (hx : k * 3 + 2 < xs.length) : (((xs.set (k * 3) u).set (k * 3 + 1) v).set (k * 3 + 2) t)[k * 3 + 1]? = some v := by
  simp only [List.getElem?_set]
  rw [if_neg (by omega), if_pos trivial, if_pos (by simp; omega)]
theorem set3_2 {xs : List Value} {k : Nat} (u v t : Value) (hx : k * 3 + 2 < xs.length) : (((xs.set (k * 3) u).set (k * 3 + 1) v).set (k * 3 + 2) t)[k * 3 + 2]? = some t := by
  simp only [List.getElem?_set]
  rw [if_pos trivial, if_pos (by simp; omega)]

end Go.Proofs.YtllhbgmadiclcaaGreatDoor
