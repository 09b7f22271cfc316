/-
  PLAIN: what is written is read.
-/
import Derived.Test.YtmcafdobfmheaaaGreatDoorPaA
namespace Go.Proofs.YtmcafdobfmheaaaGreatDoor
open Go.RowKit
set_option linter.unusedVariables false

theorem word_free10 : ∀ o, o < 16 → (10 : UInt8) ∉ (wordB o).data.toList := by decide +kernel
theorem word_some : ∀ o, o < 16 → 1 ≤ o → (wordB o).data.toList ≠ [] := by decide +kernel
theorem hexd_ne10 : ∀ j, j < 16 → hexd j ≠ 10 := by decide +kernel
theorem qbyte_free10 (u : UInt8) : (10 : UInt8) ∉ qbyte u := by
  have hu : u.toNat < 256 := UInt8.toNat_lt u
  unfold qbyte
  split
  · rename_i h
    intro e
    rw [List.mem_singleton] at e
    subst e
    revert h; decide
  · intro e
    simp only [List.mem_cons, List.not_mem_nil, or_false] at e
    rcases e with e | e | e
    · revert e; decide
    · exact hexd_ne10 (u.toNat / 16) (by omega) e.symm
    · exact hexd_ne10 (u.toNat % 16) (by omega) e.symm
theorem line_free10 {i : I3} (h : insOk i = true) : (10 : UInt8) ∉ lineL i := by
  obtain ⟨o, ho, o1, o2⟩ := ok_op h
  have hw := word_free10 i.op.toNat (by omega)
  unfold lineL
  intro e
  rcases List.mem_append.1 e with e | e
  · exact hw e
  · split at e
    · rcases List.mem_cons.1 e with e | e
      · revert e; decide
      · unfold quoteL at e
        simp only [List.mem_append, List.mem_singleton, List.mem_flatMap] at e
        rcases e with (e | ⟨u, _, e⟩) | e
        · revert e; decide
        · exact qbyte_free10 u e
        · revert e; decide
    · split at e
      · cases e
      · rcases List.mem_cons.1 e with e | e
        · revert e; decide
        · have := (dec_digit _ _ e).1
          revert this; decide
theorem line_some {i : I3} (h : insOk i = true) : lineL i ≠ [] := by
  obtain ⟨o, ho, o1, o2⟩ := ok_op h
  have hw := word_some i.op.toNat (by omega) (by omega)
  unfold lineL
  intro e
  exact hw (List.append_eq_nil_iff.1 e).1
def printP : List I3 → List UInt8
  | [] => []
  | i :: r => lineL i ++ 10 :: printP r
theorem range_ix (is : List I3) : (List.range is.length).map (ix is) = is := by
  apply List.ext_getElem
  · simp
  · intro i h1 h2
    simp [ix, List.getD_eq_getElem?_getD, List.getElem?_eq_getElem h2]
theorem printL_P (is : List I3) : printL is is.length = printP is := by
  have e : printL is is.length = ((List.range is.length).map (ix is)).flatMap fun i => lineL i ++ [10] := by
    unfold printL; rw [List.flatMap_map]
  rw [e, range_ix]
  induction is with
  | nil => rfl
  | cons i r ih =>
    have e2 : printL r r.length = ((List.range r.length).map (ix r)).flatMap fun i => lineL i ++ [10] := by
      unfold printL; rw [List.flatMap_map]
    rw [List.flatMap_cons, printP, ih e2]; simp
def allOk (is : List I3) : Prop := ∀ i ∈ is, insOk i = true
theorem split_print {is : List I3} (h : allOk is) : splitL (printP is) = is.map lineL ++ [[]] := by
  induction is with
  | nil => rfl
  | cons i r ih =>
    rw [printP, split_at _ (line_free10 (h i (by simp))), ih (fun x hx => h x (by simp [hx]))]; rfl
theorem parse_print {is : List I3} (h : allOk is) (k : Nat) : parseK (is.map lineL ++ [[]]) k = .good is := by
  induction is generalizing k with
  | nil => rfl
  | cons i r ih =>
    rw [List.map_cons, List.cons_append, parseK_cons k (by simp), rd_some (h i (by simp)) rfl]
    show prep [i] (parseK (r.map lineL ++ [[]]) (k + 1)) = _
    rw [ih (fun x hx => h x (by simp [hx]))]; rfl
theorem printP_ne {is : List I3} (h0 : is ≠ []) : printP is ≠ [] := by
  cases is with
  | nil => exact absurd rfl h0
  | cons i r => simp [printP]
theorem parseP_print {is : List I3} (h : allOk is) (h0 : is ≠ []) (hl : is.length ≤ 200) : parseP (printP is) = .good is := by
  unfold parseP
  rw [if_neg (printP_ne h0), split_print h, parse_print h]
  show (if is.length ≤ 200 then PO.good is else PO.bad 3 0) = _
  rw [if_pos hl]
theorem split_cut {is : List I3} (h : allOk is) (h0 : is ≠ []) : splitL (printP is).dropLast = is.map lineL := by
  induction is with
  | nil => exact absurd rfl h0
  | cons i r ih =>
    cases r with
    | nil =>
      have e : (printP [i]).dropLast = lineL i := by simp [printP]
      rw [e, split_free (line_free10 (h i (by simp)))]; rfl
    | cons j r =>
      have e : (printP (i :: j :: r)).dropLast = lineL i ++ 10 :: (printP (j :: r)).dropLast := by
        have hne := printP_ne (is := j :: r) (by simp)
        show (lineL i ++ 10 :: printP (j :: r)).dropLast = _
        generalize printP (j :: r) = q at *
        cases q with
        | nil => exact absurd rfl hne
        | cons c q => rw [List.dropLast_append_of_ne_nil (by simp)]; rfl
      rw [e, split_at _ (line_free10 (h i (by simp))), ih (fun x hx => h x (by simp [hx])) (by simp)]; rfl
theorem parse_cut {is : List I3} (h : allOk is) (h0 : is ≠ []) (k : Nat) : ∃ l, parseK (is.map lineL) k = .bad 2 l := by
  induction is generalizing k with
  | nil => exact absurd rfl h0
  | cons i r ih =>
    cases r with
    | nil =>
      refine ⟨k, ?_⟩
      show (if lineL i = [] then PO.good [] else PO.bad 2 k) = _
      rw [if_neg (line_some (h i (by simp)))]
    | cons j r =>
      obtain ⟨l, hl⟩ := ih (fun x hx => h x (by simp [hx])) (by simp) (k + 1)
      refine ⟨l, ?_⟩
      rw [List.map_cons, parseK_cons k (by simp), rd_some (h i (by simp)) rfl]
      show prep [i] (parseK ((j :: r).map lineL) (k + 1)) = _
      rw [hl]; rfl
theorem printP_long {is : List I3} (h : allOk is) (h0 : is ≠ []) : 2 ≤ (printP is).length := by
  cases is with
  | nil => exact absurd rfl h0
  | cons i r =>
    have := List.length_pos_iff.2 (line_some (h i (by simp)))
    simp [printP]; omega
theorem parseP_cut {is : List I3} (h : allOk is) (h0 : is ≠ []) : ∃ l, parseP (printP is).dropLast = .bad 2 l := by
  obtain ⟨l, hl⟩ := parse_cut h h0 0
  refine ⟨l, ?_⟩
  unfold parseP
  rw [if_neg, split_cut h h0, hl]; rfl
  intro e
  have := congrArg List.length e
  have h2 := printP_long h h0
  rw [List.length_dropLast] at this
  simp at this; omega
end Go.Proofs.YtmcafdobfmheaaaGreatDoor
