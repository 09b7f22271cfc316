/-
  An array of eight bytes as a map's key; what the map of impl.clashOfAny holds.
-/
import Derived.Test.YtmeojnaoljgieaaClashPlain
import Derived.Maps.OwnSet
import Derived.ProofKit
namespace Go.Proofs.Ytmeojnaoljgieaa
open Go.RowKit Go.Maps

theorem Try.laidOut : laidOutB Try.prog = true := by kernel_rfl
theorem law8 : Keyed Try.prog 44 := Keyed.of_law (deep_law_laid Try.laidOut (m := 66) (by omega) (of_decide_eq_true (by kernel_rfl)) (by kernel_rfl) (by kernel_rfl))
theorem zero3 (w : World) : (zeroValue 3).run Try.prog w = .ok (.int .i64 0) w := by kernel_rfl

def kl (V : Int) (n : Nat) : Lit :=
  .string (keyBytes [.int .u8 (cell8 V n 0), .int .u8 (cell8 V n 1), .int .u8 (cell8 V n 2), .int .u8 (cell8 V n 3), .int .u8 (cell8 V n 4), .int .u8 (cell8 V n 5), .int .u8 (cell8 V n 6), .int .u8 (cell8 V n 7)])

theorem cell8_wf (V : Int) (n j : Nat) : (Lit.int .u8 (cell8 V n j)).wf = true := by
  refine WalkArith.wf_u8 ?_
  unfold cell8
  split <;> omega

theorem key8 (V : Int) (n : Nat) : keyOf Try.prog 44 (.agg (cells8 V n)) = some (kl V n) := by
  have hk : Try.prog.keyType 44 = true := by kernel_rfl
  have hz : ∃ d, Try.prog.types.size = d + 1 := ⟨Try.prog.types.size - 1, by have : 44 < Try.prog.types.size := of_decide_eq_true (by kernel_rfl); omega⟩
  have hc : Try.prog.cellsOf 44 = 8 := by kernel_rfl
  have hc5 : Try.prog.cellsOf 5 = 1 := by kernel_rfl
  obtain ⟨d, hd⟩ := hz
  simp [keyOf, Try.underlying44, hk, Value.formed, hc, hc5, hd, cells8, Value.cells, Program.keyLits, Try.underlying5, cell8_wf, kl, List.range, List.range.loop]

theorem cell8_of_digs {V V' : Int} (hV : 0 ≤ V) (hV' : 0 ≤ V') {n : Nat} (h : digs V n = digs V' n) (j : Nat) : cell8 V n j = cell8 V' n j := by
  by_cases hj : j < n
  · have e1 := cell8_digs V hV n j (by rw [digs_length]; exact hj)
    have e2 := cell8_digs V' hV' n j (by rw [digs_length]; exact hj)
    simp only [h] at e1
    have := e1.trans e2.symm
    simpa using this
  · simp [cell8, hj]

theorem digs_of_cell8 {V V' : Int} (hV : 0 ≤ V) (hV' : 0 ≤ V') {n : Nat} (h : ∀ j, j < n → cell8 V n j = cell8 V' n j) : digs V n = digs V' n := by
  apply List.ext_getElem (by simp [digs_length])
  intro j h1 h2
  have hj : j < n := by simpa [digs_length] using h1
  have e1 := cell8_digs V hV n j h1
  have e2 := cell8_digs V' hV' n j h2
  rw [h j hj] at e1
  have := e1.symm.trans e2
  simp only [Value.int.injEq, true_and] at this
  apply UInt8.toNat_inj.1
  omega

theorem kl_iff (s t : ByteArray) (n : Nat) (hn : n ≤ 8) : kl (hash s.data.toList) n = kl (hash t.data.toList) n ↔ Hs n s = Hs n t := by
  obtain ⟨hV1, _⟩ := hash_bd s.data.toList
  obtain ⟨hW1, _⟩ := hash_bd t.data.toList
  unfold Hs
  generalize hash s.data.toList = V at *
  generalize hash t.data.toList = V' at *
  constructor
  · intro h
    have h' : Value.agg (cells8 V n) = .agg (cells8 V' n) := law8.inj (key8 V n) (by rw [h]; exact key8 V' n)
    simp only [Value.agg.injEq, cells8] at h'
    simp at h'
    have : digs V n = digs V' n := digs_of_cell8 hV1 hW1 (fun j hj => by
      rcases (show j = 0 ∨ j = 1 ∨ j = 2 ∨ j = 3 ∨ j = 4 ∨ j = 5 ∨ j = 6 ∨ j = 7 from by omega) with rfl | rfl | rfl | rfl | rfl | rfl | rfl | rfl <;> simp only [h'])
    rw [this]
  · intro h
    have hd : digs V n = digs V' n := by simpa using h
    unfold kl
    simp only [cell8_of_digs hV1 hW1 hd]

/-- The key of text number i. -/
def kn (n : Nat) (ss : List ByteArray) (i : Nat) : Lit := kl (hash (tx ss i).data.toList) n
theorem kn_iff {n : Nat} (hn : n ≤ 8) {ss : List ByteArray} {i j : Nat} : kn n ss i = kn n ss j ↔ Hs n (tx ss i) = Hs n (tx ss j) := kl_iff _ _ n hn

def int0 : DataW Unit := .lit (.int .i64 0)

/-- WHAT THE MAP HOLDS behind j texts: at each text's key the first place of that key. -/
structure Firsts (n : Nat) (ss : List ByteArray) (j : Nat) (D : DataW Unit) : Prop where
  only : ∀ K, Maps.has D K = true → ∃ i, i < j ∧ K = kn n ss i
  there : ∀ i, i < j → Maps.has D (kn n ss i) = true
  least : ∀ i, i < j → ∃ f : Nat, f ≤ i ∧ kn n ss f = kn n ss i ∧ (∀ i', i' < f → kn n ss i' ≠ kn n ss i) ∧ D.atKey (kn n ss i) int0 = .lit (.int .i64 f)

theorem kn_key (n : Nat) (ss : List ByteArray) (i : Nat) : WideAt.IsKeyLit (kn n ss i) := law8.key (key8 _ n)

theorem firsts_start (n : Nat) (ss : List ByteArray) : Firsts n ss 0 (.map []) := ⟨fun K h => by simp [Maps.has] at h, fun i h => by omega, fun i h => by omega⟩

theorem firsts_put {n : Nat} {ss : List ByteArray} {j : Nat} {D : DataW Unit} (h : Firsts n ss j D) (hm : IsMap D) (hh : Maps.has D (kn n ss j) = false) : Firsts n ss (j + 1) (D.put (kn n ss j) (.lit (.int .i64 j))) := by
  have hne : ∀ i, i < j → kn n ss i ≠ kn n ss j := fun i hi e => by have := h.there i hi; rw [e, hh] at this; cases this
  refine ⟨fun K hK => ?_, fun i hi => ?_, fun i hi => ?_⟩
  · by_cases e : K = kn n ss j
    · exact ⟨j, by omega, e⟩
    · rw [has_put_other e] at hK
      obtain ⟨i, hi, he⟩ := h.only K hK
      exact ⟨i, by omega, he⟩
  · rcases Nat.lt_or_ge i j with hl | hl
    · rw [has_put_other (hne i hl)]; exact h.there i hl
    · obtain rfl : i = j := by omega
      exact has_put_same hm (kn_key n ss i) _
  · rcases Nat.lt_or_ge i j with hl | hl
    · obtain ⟨f, h1, h2, h3, h4⟩ := h.least i hl
      exact ⟨f, h1, h2, h3, by rw [atKey_put_other (hne i hl)]; exact h4⟩
    · obtain rfl : i = j := by omega
      exact ⟨i, Nat.le_refl _, rfl, hne, atKey_put_same hm (kn_key n ss i) _ _⟩

theorem firsts_find {n : Nat} {ss : List ByteArray} {j : Nat} {D : DataW Unit} (h : Firsts n ss j D) (hh : Maps.has D (kn n ss j) = true) :
    ∃ f : Nat, f < j ∧ kn n ss f = kn n ss j ∧ (∀ i', i' < f → kn n ss i' ≠ kn n ss j) ∧ D.atKey (kn n ss j) int0 = .lit (.int .i64 f) := by
  obtain ⟨i, hi, he⟩ := h.only _ hh
  obtain ⟨f, h1, h2, h3, h4⟩ := h.least i hi
  rw [he]
  exact ⟨f, by omega, h2, h3, h4⟩

theorem firsts_keep {n : Nat} {ss : List ByteArray} {j : Nat} {D : DataW Unit} (h : Firsts n ss j D) (hh : Maps.has D (kn n ss j) = true) : Firsts n ss (j + 1) D := by
  obtain ⟨f, h1, h2, h3, h4⟩ := firsts_find h hh
  refine ⟨fun K hK => ?_, fun i hi => ?_, fun i hi => ?_⟩
  · obtain ⟨i, hi, he⟩ := h.only K hK
    exact ⟨i, by omega, he⟩
  · rcases Nat.lt_or_ge i j with hl | hl
    · exact h.there i hl
    · obtain rfl : i = j := by omega
      exact hh
  · rcases Nat.lt_or_ge i j with hl | hl
    · exact h.least i hl
    · obtain rfl : i = j := by omega
      exact ⟨f, by omega, h2, h3, h4⟩

end Go.Proofs.Ytmeojnaoljgieaa
