import Derived.Test.YtjdjhenijihpfaaGreatDoorPtB
import Derived.Test.YtjdjhenijihpfaaGreatDoorDrF
namespace Go.Proofs.YtjdjhenijihpfaaGreatDoor
open Go.RowKit Go.Deep
set_option linter.unusedVariables false

/-- A drawn space's rows, in memory from lo on. -/
structure Dw (w : World) (lo : Nat) (v1 v2 : Value) (l1 : List S2) (l2 : List TC) : Prop where
  s : w.ownsRow lo 60 2 v1 l1.length (srcV l1)
  t : w.ownsRow lo 64 2 v2 l2.length (tcV l2)
  c : ∀ a ∈ l2, w.ownsRow lo 84 3 a.c a.t.code.length (insC a.t.code)
section
variable {w w' W : World} {lo : Nat} {v1 v2 nv : Value} {l1 : List S2} {l2 : List TC}
theorem Dw.keep (h : Dw w lo v1 v2 l1 l2) (hk : ∀ b, lo ≤ b → b < w.heap.size → w'.heap[b]? = w.heap[b]?) : Dw w' lo v1 v2 l1 l2 := ⟨own_keepD h.s hk, own_keepD h.t hk, fun a ha => own_keepD (h.c a ha) hk⟩
theorem Dw.below (h : Dw w lo v1 v2 l1 l2) (hb : Below w.heap.size w w') : Dw w' lo v1 v2 l1 l2 := h.keep fun b _ hl => hb.block b hl
theorem Dw.gb {R : Nat} (h : Dw w lo v1 v2 l1 l2) (hg : w.grownBy w' (some R)) (hR : R < lo) : Dw w' lo v1 v2 l1 l2 := h.keep fun b hb hl => hg.block b hl (fun e => by injection e with e; omega)
theorem Dw.set {b j : Nat} (h : Dw w lo v1 v2 l1 l2) (hb : b < lo) (u : Value) : Dw (w.setCell ⟨b, j, none⟩ u) lo v1 v2 l1 l2 := h.keep fun c hc _ => Below.heap_setCell w ⟨b, j, none⟩ u c (by show c ≠ b; omega)
theorem Dw.base {lo' : Nat} (h : Dw w lo v1 v2 l1 l2) (hl : lo' ≤ lo) : Dw w lo' v1 v2 l1 l2 := ⟨own_base h.s hl, own_base h.t hl, fun a ha => own_base (h.c a ha) hl⟩
theorem Dw.zero (w : World) (lo : Nat) : Dw w lo (.slice none 0 0) (.slice none 0 0) [] [] := ⟨World.ownsRow_nil _ _ _ _, World.ownsRow_nil _ _ _ _, fun a ha => by cases ha⟩
theorem Dw.putS {s : S2} (h : Dw W lo v1 v2 l1 l2) (hg : W.grownBy w' v1.ownBlock) (hn : w'.ownsRow lo 60 2 nv (l1.length + 1) (srcV l1 ++ [.string s.name, .string s.text])) : Dw w' lo nv v2 (l1 ++ [s]) l2 := by
  refine ⟨?_, grown_own h.t h.s (by decide) hg, fun a ha => grown_own (h.c a ha) h.s (by decide) hg⟩
  rw [srcV_append, srcV_one, List.length_append]
  exact hn
theorem Dw.putT {s : T2} {c : Value} (h : Dw W lo v1 v2 l1 l2) (hc : W.ownsRow lo 84 3 c s.code.length (insC s.code)) (hg : W.grownBy w' v2.ownBlock) (hn : w'.ownsRow lo 64 2 nv (l2.length + 1) (tcV l2 ++ [.string s.name, c])) : Dw w' lo v1 nv l1 (l2 ++ [⟨s, c⟩]) := by
  refine ⟨grown_own h.s h.t (by decide) hg, ?_, fun a ha => ?_⟩
  · rw [tcV_append, tcV_one, List.length_append]
    exact hn
  · rcases List.mem_append.1 ha with q | q
    · exact grown_own (h.c a q) h.t (by decide) hg
    · obtain rfl : a = ⟨s, c⟩ := by simpa using q
      exact grown_own hc h.t (by decide) hg
theorem tcV_get (l : List TC) (i : Nat) (hi : i < l.length) : (tcV l)[i * 2]? = some (.string (cx l i).t.name) ∧ (tcV l)[i * 2 + 1]? = some (cx l i).c := by
  have e : tcV l = tcV (l.take i) ++ tcV (l.drop i) := by rw [← tcV_append, List.take_append_drop]
  have hl : (tcV (l.take i)).length = i * 2 := by rw [tcV_length, List.length_take]; congr 1; omega
  rw [e, List.getElem?_append_right (by omega), List.getElem?_append_right (by omega), hl, List.drop_eq_getElem_cons hi, cx_get hi]
  refine ⟨?_, ?_⟩
  · rw [Nat.sub_self]; rfl
  · rw [show i * 2 + 1 - i * 2 = 1 by omega]; rfl
theorem srcV_get (l : List S2) (i : Nat) (hi : i < l.length) : (srcV l)[i * 2]? = some (.string (sx l i).name) ∧ (srcV l)[i * 2 + 1]? = some (.string (sx l i).text) := by
  have e : srcV l = srcV (l.take i) ++ srcV (l.drop i) := by rw [← srcV_append, List.take_append_drop]
  have hl : (srcV (l.take i)).length = i * 2 := by rw [srcV_length, List.length_take]; congr 1; omega
  rw [e, List.getElem?_append_right (by omega), List.getElem?_append_right (by omega), hl, List.drop_eq_getElem_cons hi, sx_get hi]
  refine ⟨?_, ?_⟩
  · rw [Nat.sub_self]; rfl
  · rw [show i * 2 + 1 - i * 2 = 1 by omega]; rfl
/-- The cells of a target. -/
theorem Dw.tc (h : Dw w lo v1 v2 l1 l2) (i : Nat) (hi : i < l2.length) : ∃ g cap, v2 = .slice (some ⟨g, 0, none⟩) l2.length cap ∧ lo ≤ g ∧ w.cell? ⟨g, i * 2, none⟩ = some (.string (cx l2 i).t.name) ∧ w.cell? ⟨g, i * 2 + 1, none⟩ = some (cx l2 i).c ∧ ∀ j, w.frozen? ⟨g, j, none⟩ = false := by
  rcases h.t.2 with ⟨_, q⟩ | ⟨g, cap, cur, rfl, hg, _⟩
  · omega
  · refine ⟨g, cap, rfl, hg, ?_, ?_, fun j => h.t.frozenAt j⟩
    · rw [h.t.cellAt (i * 2) (by omega)]; exact (tcV_get l2 i hi).1
    · rw [h.t.cellAt (i * 2 + 1) (by omega)]; exact (tcV_get l2 i hi).2
theorem Dw.sc (h : Dw w lo v1 v2 l1 l2) (i : Nat) (hi : i < l1.length) : ∃ g cap, v1 = .slice (some ⟨g, 0, none⟩) l1.length cap ∧ lo ≤ g ∧ w.cell? ⟨g, i * 2, none⟩ = some (.string (sx l1 i).name) ∧ w.cell? ⟨g, i * 2 + 1, none⟩ = some (.string (sx l1 i).text) ∧ ∀ j, w.frozen? ⟨g, j, none⟩ = false := by
  rcases h.s.2 with ⟨_, q⟩ | ⟨g, cap, cur, rfl, hg, _⟩
  · omega
  · refine ⟨g, cap, rfl, hg, ?_, ?_, fun j => h.s.frozenAt j⟩
    · rw [h.s.cellAt (i * 2) (by omega)]; exact (srcV_get l1 i hi).1
    · rw [h.s.cellAt (i * 2 + 1) (by omega)]; exact (srcV_get l1 i hi).2
theorem Dw.s1 (h : Dw w lo v1 v2 l1 l2) : ∃ a cap, v1 = .slice a l1.length cap := by
  rcases h.s.2 with ⟨q, q'⟩ | ⟨g, cap, cur, rfl, _⟩
  · exact ⟨none, 0, by rw [q, q']⟩
  · exact ⟨_, _, rfl⟩
theorem Dw.s2 (h : Dw w lo v1 v2 l1 l2) : ∃ a cap, v2 = .slice a l2.length cap := by
  rcases h.t.2 with ⟨q, q'⟩ | ⟨g, cap, cur, rfl, _⟩
  · exact ⟨none, 0, by rw [q, q']⟩
  · exact ⟨_, _, rfl⟩
theorem own_set2 {B e sz n g m c j : Nat} {B' e' sz' : Nat} {v : Value} {xs ys : List Value} (h : w.ownsRow B e sz v n xs) (hu : w.ownsRow B' e' sz' (.slice (some ⟨g, 0, none⟩) m c) m ys) (hne : e ≠ e') (u : Value) : (w.setCell ⟨g, j, none⟩ u).ownsRow B e sz v n xs :=
  grown_own h hu hne (grown_setCell w g j u)
end
/-- What a code's row of our own gives. -/
theorem row3_ownD {w : World} {B n : Nat} {v : Value} {is : List I3} (hn : n = is.length) (h : w.ownsRow B 84 3 v n (insC is)) : ∃ a cap, v = .slice a n cap ∧ Row3 w a is := by
  rcases h.2 with ⟨q, q'⟩ | ⟨g, cap, cur, rfl, _⟩
  · exact ⟨none, 0, by rw [q, q'], fun i hi => by omega⟩
  · refine ⟨_, cap, rfl, fun i hi => ⟨g, 0, rfl, ?_, ?_, ?_⟩⟩
    · rw [Nat.zero_add, h.cellAt (i * 3) (by omega)]; exact insC_get is i 0 hi (by omega)
    · rw [Nat.zero_add, h.cellAt (i * 3 + 1) (by omega)]; exact insC_get is i 1 hi (by omega)
    · rw [Nat.zero_add, h.cellAt (i * 3 + 2) (by omega)]; exact insC_get is i 2 hi (by omega)
/-- A drawn space is of no great size. -/
structure BdS (l1 : List S2) (l2 : List TC) : Prop where
  n1 : l1.length ≤ 202
  n2 : l2.length ≤ 202
  s : ∀ x ∈ l1, x.name.size ≤ 50000 ∧ x.text.size ≤ 50000
  t : ∀ a ∈ l2, a.t.name.size ≤ 50000 ∧ a.t.code.length ≤ 400 ∧ ∀ x ∈ a.t.code, x.text.size ≤ 50000
theorem cx_mem {l : List TC} {i : Nat} (h : i < l.length) : cx l i ∈ l := by rw [cx_get h]; exact List.getElem_mem _
theorem sx_mem {l : List S2} {i : Nat} (h : i < l.length) : sx l i ∈ l := by rw [sx_get h]; exact List.getElem_mem _
theorem tx_map (l : List TC) (i : Nat) (h : i < l.length) : tx (l.map (·.t)) i = (cx l i).t := by rw [tx_get (by simpa using h), cx_get h]; simp
theorem Dw.rows {w : World} {lo : Nat} {v1 v2 : Value} {l1 : List S2} {l2 : List TC} (h : Dw w lo v1 v2 l1 l2) : ∃ sa c1 ta c2, v1 = .slice sa l1.length c1 ∧ v2 = .slice ta l2.length c2 ∧ RowS w sa l1 ∧ RowT w ta (l2.map (·.t)) := by
  obtain ⟨sa, c1, e1⟩ := h.s1
  obtain ⟨ta, c2, e2⟩ := h.s2
  refine ⟨sa, c1, ta, c2, e1, e2, fun i hi => ?_, fun i hi => ?_⟩
  · obtain ⟨g, cap, e, _, q1, q2, _⟩ := h.sc i hi
    rw [e1] at e
    cases e
    exact ⟨g, 0, rfl, by rw [Nat.zero_add]; exact q1, by rw [Nat.zero_add]; exact q2⟩
  · rw [List.length_map] at hi
    obtain ⟨g, cap, e, _, q1, q2, _⟩ := h.tc i hi
    rw [e2] at e
    cases e
    obtain ⟨a', cap', e3, r3⟩ := row3_ownD rfl (h.c _ (cx_mem hi))
    rw [tx_map l2 i hi]
    exact ⟨g, 0, rfl, by rw [Nat.zero_add]; exact q1, a', cap', by rw [Nat.zero_add, q2, e3], r3⟩
theorem Dw.ok {w : World} {lo : Nat} {v1 v2 : Value} {l1 : List S2} {l2 : List TC} (h : Dw w lo v1 v2 l1 l2) (hb : BdS l1 l2) : ∃ sa c1 ta c2, v1 = .slice sa l1.length c1 ∧ v2 = .slice ta (l2.map (·.t)).length c2 ∧ SpOk w sa l1 ta (l2.map (·.t)) ∧ SpSmall l1 (l2.map (·.t)) := by
  obtain ⟨sa, c1, ta, c2, e1, e2, r1, r2⟩ := h.rows
  have hs : ∀ i, (sx l1 i).name.size ≤ 50000 ∧ (sx l1 i).text.size ≤ 50000 := fun i => by
    rcases Nat.lt_or_ge i l1.length with q | q
    · exact hb.s _ (sx_mem q)
    · have e : sx l1 i = ⟨ByteArray.empty, ByteArray.empty⟩ := by simp [sx, List.getD_eq_getElem?_getD, q]
      rw [e]; exact ⟨Nat.zero_le _, Nat.zero_le _⟩
  have ht : ∀ i, (tx (l2.map (·.t)) i).name.size ≤ 50000 ∧ (tx (l2.map (·.t)) i).code.length ≤ 400 ∧ ∀ x ∈ (tx (l2.map (·.t)) i).code, x.text.size ≤ 50000 := fun i => by
    rcases Nat.lt_or_ge i l2.length with q | q
    · rw [tx_map l2 i q]; exact hb.t _ (cx_mem q)
    · have e : tx (l2.map (·.t)) i = ⟨ByteArray.empty, []⟩ := by simp [tx, List.getD_eq_getElem?_getD, q]
      rw [e]; exact ⟨Nat.zero_le _, Nat.zero_le _, fun x hx => by cases hx⟩
  have n1 := hb.n1
  have n2 := hb.n2
  refine ⟨sa, c1, ta, c2, e1, by rw [List.length_map]; exact e2, ⟨r1, r2, by unfold maxLen; omega, by unfold maxLen; rw [List.length_map]; omega, fun i => ?_, fun i => ?_, fun i => ?_, fun i => ?_, fun i j => ?_⟩, ⟨by omega, by rw [List.length_map]; omega, fun i _ => ?_⟩⟩
  · have := (hs i).1; unfold maxLen; omega
  · have := (hs i).2; unfold maxLen; omega
  · have := (ht i).1; unfold maxLen; omega
  · have := (ht i).2.1; unfold maxLen; omega
  · have h3 : (ix (tx (l2.map (·.t)) i).code j).text.size ≤ 50000 := by
      rcases Nat.lt_or_ge j (tx (l2.map (·.t)) i).code.length with q | q
      · have e : ix (tx (l2.map (·.t)) i).code j = (tx (l2.map (·.t)) i).code[j] := by simp [ix, List.getD_eq_getElem?_getD, q]
        rw [e]; exact (ht i).2.2 _ (List.getElem_mem _)
      · have e : ix (tx (l2.map (·.t)) i).code j = Go.Proofs.YtjdjhenijihpfaaGreatDoor.i0 := by simp [ix, List.getD_eq_getElem?_getD, q]
        rw [e]; exact Nat.zero_le _
    unfold maxLen; omega
  · have := (ht i).2.1; omega
end Go.Proofs.YtjdjhenijihpfaaGreatDoor
