import Derived.Test.YtllhbgmadiclcaaGreatDoorPxA
namespace Go.Proofs.YtllhbgmadiclcaaGreatDoor
open Go.RowKit
set_option linter.unusedVariables false

theorem less_total : ∀ (a b : List UInt8), Op.bytesLess a b = false → a ≠ b → Op.bytesLess b a = true
  | [], [] => by simp
  | [], _ :: _ => by simp [Op.bytesLess]
  | _ :: _, [] => by simp [Op.bytesLess]
  | a :: ar, b :: bs => by
    have ih := less_total ar bs
    by_cases h1 : a < b
    · simp [Op.bytesLess, h1]
    · by_cases h2 : b < a
      · intro _ _
        simp [Op.bytesLess, h2]
      · have he : a = b := UInt8.le_antisymm (UInt8.not_lt.mp h2) (UInt8.not_lt.mp h1)
        subst he
        intro k1 k2
        simp only [Op.bytesLess, h1] at k1 ⊢
        simp at k1 k2 ⊢
        first
          | exact ih k1 k2
          | exact Or.inr (ih k1 k2)
theorem lessB_total {a b : ByteArray} (h : lessB a b = false) (hne : a ≠ b) : lessB b a = true := by
  unfold lessB at *
  refine less_total _ _ h (fun e => hne ?_)
  rw [ByteArray.toList_eq, ByteArray.toList_eq] at e
  exact WideShapes.bytes_inj e
theorem lessB_asymm {a b : ByteArray} (h : lessB a b = true) : lessB b a = false := by
  rcases hb : lessB b a with _ | _
  · rfl
  · have := lessB_trans h hb
    rw [lessB_irrefl] at this; cases this

/-! ### Texts in the order of their sums -/
section
variable {s : ByteArray → ByteArray}
def Lt1 (s : ByteArray → ByteArray) (x y : ByteArray) : Prop := lessB (s x) (s y) = true
theorem Lt1.trans {x y z : ByteArray} (h : Lt1 s x y) (k : Lt1 s y z) : Lt1 s x z := lessB_trans h k
theorem Lt1.irrefl {x : ByteArray} (h : Lt1 s x x) : False := by have := lessB_irrefl (s x); rw [show lessB (s x) (s x) = true from h] at this; cases this
theorem Lt1.ne {x y : ByteArray} (h : Lt1 s x y) : s x ≠ s y := fun e => by
  unfold Lt1 at h; rw [e, lessB_irrefl] at h; cases h
theorem Lt1.tot {x y : ByteArray} (h : lessB (s x) (s y) = false) (hne : s x ≠ s y) : Lt1 s y x := lessB_total h hne
def So (s : ByteArray → ByteArray) (l : List ByteArray) : Prop := l.Pairwise (Lt1 s)
theorem So.of_asc {l : List ByteArray} (h : Asc (l.map s)) : So s l := by
  refine List.pairwise_iff_getElem.2 fun i j hi hj hij => ?_
  have := h.pair hij (by simpa using hj)
  unfold nx at this
  rw [List.getD_eq_getElem?_getD, List.getElem?_map, List.getElem?_eq_getElem hi, List.getD_eq_getElem?_getD, List.getElem?_map, List.getElem?_eq_getElem hj] at this
  exact this
theorem So.asc {l : List ByteArray} (h : So s l) : Asc (l.map s) := by
  intro i h1 h2
  rw [List.length_map] at h2
  have := List.pairwise_iff_getElem.1 h (i - 1) i (by omega) h2 (by omega)
  unfold nx
  rw [List.getD_eq_getElem?_getD, List.getElem?_map, List.getElem?_eq_getElem (show i - 1 < l.length by omega), List.getD_eq_getElem?_getD, List.getElem?_map, List.getElem?_eq_getElem h2]
  exact this
theorem So.uniq {l : List ByteArray} (h : So s l) {x y : ByteArray} (hx : x ∈ l) (hy : y ∈ l) (e : s x = s y) : x = y := by
  obtain ⟨i, hi, rfl⟩ := List.mem_iff_getElem.1 hx
  obtain ⟨j, hj, rfl⟩ := List.mem_iff_getElem.1 hy
  rcases Nat.lt_trichotomy i j with k | k | k
  · exact absurd e (Lt1.ne (List.pairwise_iff_getElem.1 h i j hi hj k))
  · subst k; rfl
  · exact absurd e.symm (Lt1.ne (List.pairwise_iff_getElem.1 h j i hj hi k))
/-- Of two sorted lists the one whose texts are the other's is a part of it. -/
theorem So.sub : ∀ {l u : List ByteArray}, So s l → So s u → (∀ x ∈ l, x ∈ u) → l.Sublist u
  | [], u, _, _, _ => List.nil_sublist u
  | x :: l, [], _, _, h => by have := h x (by simp); simp at this
  | x :: l, y :: u, hl, hu, h => by
    obtain ⟨h1, h2⟩ := List.pairwise_cons.1 hl
    obtain ⟨k1, k2⟩ := List.pairwise_cons.1 hu
    have hx := h x (by simp)
    rcases List.mem_cons.1 hx with e | e
    · subst e
      refine List.Sublist.cons_cons x (So.sub h2 k2 fun z hz => ?_)
      rcases List.mem_cons.1 (h z (by simp [hz])) with q | q
      · subst q; exact (Lt1.irrefl (h1 z hz)).elim
      · exact q
    · refine List.Sublist.cons y (So.sub hl k2 fun z hz => ?_)
      rcases List.mem_cons.1 (h z hz) with q | q
      · subst q
        rcases List.mem_cons.1 hz with p | p
        · subst p; exact e
        · exact ((h1 z p).trans (k1 x e)).irrefl.elim
      · exact q
def NoC (s : ByteArray → ByteArray) (A : List ByteArray) (y : ByteArray) : Prop := ∀ x ∈ A, s x = s y → x = y
def ClashAt (s : ByteArray → ByteArray) (A B : List ByteArray) (x y : ByteArray) : Prop := ∃ pre post, B = pre ++ y :: post ∧ (∀ z ∈ pre, NoC s A z) ∧ x ∈ A ∧ s x = s y ∧ x ≠ y
theorem ClashAt.unique {A B : List ByteArray} (hA : So s A) {x y x' y' : ByteArray} (h : ClashAt s A B x y) (h' : ClashAt s A B x' y') : x = x' ∧ y = y' := by
  obtain ⟨p, q, e, h1, h2, h3, h4⟩ := h
  obtain ⟨p', q', e', k1, k2, k3, k4⟩ := h'
  have : p = p' ∧ y :: q = y' :: q' := by
    rw [e] at e'
    rcases List.append_eq_append_iff.1 e' with ⟨t, ht, hq⟩ | ⟨t, ht, hq⟩
    · cases t with
      | nil => exact ⟨by simpa using ht.symm, by simpa using hq⟩
      | cons z t =>
        rw [List.cons_append] at hq
        obtain ⟨rfl, _⟩ := List.cons.inj hq
        exact absurd (k1 y (by rw [ht]; simp) x h2 h3) h4
    · cases t with
      | nil => exact ⟨by simpa using ht, by simpa using hq.symm⟩
      | cons z t =>
        rw [List.cons_append] at hq
        obtain ⟨rfl, _⟩ := List.cons.inj hq
        exact absurd (h1 y' (by rw [ht]; simp) x' k2 k3) k4
  obtain ⟨rfl, _⟩ := List.cons.inj this.2
  exact ⟨hA.uniq h2 k2 (h3.trans k3.symm), rfl⟩
theorem ClashAt.not {A B : List ByteArray} {x y : ByteArray} (h : ClashAt s A B x y) : ¬ ∀ z ∈ B, NoC s A z := fun k => by
  obtain ⟨p, q, rfl, _, h2, h3, h4⟩ := h
  exact h4 (k y (by simp) x h2 h3)
structure Uni (s : ByteArray → ByteArray) (A B U : List ByteArray) : Prop where
  so : So s U
  mem : ∀ x, x ∈ U ↔ x ∈ A ∨ x ∈ B
theorem Uni.unique {A B U V : List ByteArray} (h : Uni s A B U) (k : Uni s A B V) : U = V := by
  have h1 := So.sub h.so k.so fun x hx => (k.mem x).2 ((h.mem x).1 hx)
  have h2 := So.sub k.so h.so fun x hx => (h.mem x).2 ((k.mem x).1 hx)
  exact h1.eq_of_length (Nat.le_antisymm h1.length_le h2.length_le)

/-! ### One put after the other -/
/-- Where the puts stand: k texts of B were put, none clashed. -/
structure PutAt (s : ByteArray → ByteArray) (A B : List ByteArray) (k : Nat) (full : Bool) (L : List ByteArray) : Prop where
  so : So s L
  inA : ∀ x ∈ A, x ∈ L
  of : ∀ x ∈ L, x ∈ A ∨ x ∈ B.take k
  le : L.length ≤ 5000
  no : ∀ y ∈ B.take k, NoC s A y
  all : full = false → ∀ y ∈ B.take k, y ∈ L
  ful : full = true → L.length = 5000 ∧ ∃ y ∈ B.take k, y ∉ L ∧ ∀ x ∈ L, s x ≠ s y
theorem PutAt.start {A B : List ByteArray} (hA : So s A) (hl : A.length ≤ 5000) : PutAt s A B 0 false A :=
  ⟨hA, fun x h => h, fun x h => Or.inl h, hl, fun y h => by simp at h, fun _ y h => by simp at h, fun h => by cases h⟩
theorem take_mem {B : List ByteArray} {k : Nat} (hk : k < B.length) {y : ByteArray} : y ∈ B.take (k + 1) ↔ y ∈ B.take k ∨ y = B[k] := by
  rw [List.take_succ_eq_append_getElem hk, List.mem_append, List.mem_singleton]
/-- What was put stays behind what is put next. -/
theorem So.later {B : List ByteArray} (hB : So s B) {k : Nat} (hk : k < B.length) {y : ByteArray} (hy : y ∈ B.take k) : Lt1 s y B[k] := by
  obtain ⟨i, hi, rfl⟩ := List.mem_iff_getElem.1 hy
  rw [List.length_take] at hi
  rw [List.getElem_take]
  exact List.pairwise_iff_getElem.1 hB i k (by omega) hk (by omega)
theorem PutAt.same {A B L : List ByteArray} {k : Nat} {full : Bool} (h : PutAt s A B k full L) (hB : So s B) (hk : k < B.length) (hy : B[k] ∈ L) : PutAt s A B (k + 1) full L := by
  refine ⟨h.so, h.inA, fun x hx => (h.of x hx).imp id fun q => (take_mem hk).2 (Or.inl q), h.le, fun y hy' => ?_, fun hf y hy' => ?_, fun hf => ?_⟩
  · rcases (take_mem hk).1 hy' with q | q
    · exact h.no y q
    · subst q
      exact fun x hx e => h.so.uniq (h.inA x hx) hy e
  · rcases (take_mem hk).1 hy' with q | q
    · exact h.all hf y q
    · subst q; exact hy
  · obtain ⟨h1, y, h2, h3⟩ := h.ful hf
    exact ⟨h1, y, (take_mem hk).2 (Or.inl h2), h3⟩
theorem no_of_none {A : List ByteArray} {y : ByteArray} (h : ∀ x ∈ A, s x ≠ s y) : NoC s A y := fun x hx e => absurd e (h x hx)
theorem PutAt.refused {A B L : List ByteArray} {k : Nat} {full : Bool} (h : PutAt s A B k full L) (hk : k < B.length) (hn : ∀ x ∈ L, s x ≠ s B[k]) (hl : 5000 ≤ L.length) : PutAt s A B (k + 1) true L := by
  refine ⟨h.so, h.inA, fun x hx => (h.of x hx).imp id fun q => (take_mem hk).2 (Or.inl q), h.le, fun y hy' => ?_, (fun hf => by cases hf), fun hf => ⟨by have := h.le; omega, B[k], (take_mem hk).2 (Or.inr rfl), fun hm => hn _ hm rfl, hn⟩⟩
  rcases (take_mem hk).1 hy' with q | q
  · exact h.no y q
  · subst q; exact no_of_none fun x hx => hn x (h.inA x hx)
theorem PutAt.put {A B L L' : List ByteArray} {k : Nat} {full : Bool} (h : PutAt s A B k full L) (hk : k < B.length) (hn : ∀ x ∈ L, s x ≠ s B[k]) (hl : ¬ 5000 ≤ L.length) (hs : So s L') (hm : ∀ x, x ∈ L' ↔ x ∈ L ∨ x = B[k]) (hl' : L'.length = L.length + 1) : PutAt s A B (k + 1) full L' := by
  have hf : full = false := by
    cases full with
    | false => rfl
    | true => have := (h.ful rfl).1; omega
  subst hf
  refine ⟨hs, fun x hx => (hm x).2 (Or.inl (h.inA x hx)), fun x hx => ?_, by omega, fun y hy' => ?_, fun _ y hy' => ?_, fun hf => by cases hf⟩
  · rcases (hm x).1 hx with q | q
    · exact (h.of x q).imp id fun p => (take_mem hk).2 (Or.inl p)
    · exact Or.inr ((take_mem hk).2 (Or.inr q))
  · rcases (take_mem hk).1 hy' with q | q
    · exact h.no y q
    · subst q; exact no_of_none fun x hx => hn x (h.inA x hx)
  · rcases (take_mem hk).1 hy' with q | q
    · exact (hm y).2 (Or.inl (h.all rfl y q))
    · exact (hm y).2 (Or.inr q)
theorem PutAt.clash {A B L : List ByteArray} {k : Nat} {full : Bool} (h : PutAt s A B k full L) (hB : So s B) (hk : k < B.length) {x : ByteArray} (hx : x ∈ L) (e : s x = s B[k]) (hne : x ≠ B[k]) : ClashAt s A B x B[k] := by
  refine ⟨B.take k, B.drop (k + 1), ?_, h.no, ?_, e, hne⟩
  · rw [← List.drop_eq_getElem_cons hk, List.take_append_drop]
  · rcases h.of x hx with q | q
    · exact q
    · exact absurd e (Lt1.ne (hB.later hk q))
theorem PutAt.done {A B L : List ByteArray} {full : Bool} (h : PutAt s A B B.length full L) : (∀ y ∈ B, NoC s A y) ∧ (full = false → Uni s A B L ∧ L.length ≤ 5000) ∧ (full = true → ∀ U, Uni s A B U → 5000 < U.length) := by
  have ht : B.take B.length = B := List.take_length
  refine ⟨fun y hy => h.no y (by rw [ht]; exact hy), fun hf => ⟨⟨h.so, fun x => ⟨fun hx => ?_, ?_⟩⟩, h.le⟩, fun hf U hU => ?_⟩
  · have := h.of x hx; rwa [ht] at this
  · rintro (q | q)
    · exact h.inA x q
    · exact h.all hf x (by rw [ht]; exact q)
  · obtain ⟨h1, y, h2, h3, h4⟩ := h.ful hf
    rw [ht] at h2
    have hsub := So.sub h.so hU.so fun x hx => (hU.mem x).2 (by have := h.of x hx; rwa [ht] at this)
    have hle := hsub.length_le
    rcases Nat.lt_or_ge 5000 U.length with q | q
    · exact q
    · have e := hsub.eq_of_length (by omega)
      exact absurd (e ▸ (hU.mem y).2 (Or.inr h2)) h3

/-! ### Two cursors -/
structure CurAt (s : ByteArray → ByteArray) (A B : List ByteArray) (a i : Nat) (M : List ByteArray) : Prop where
  ha : a ≤ A.length
  so : So s M
  mem : ∀ x, x ∈ M ↔ x ∈ A.take a ∨ x ∈ B.take i
  loA : ∀ x ∈ A.drop a, ∀ m ∈ M, Lt1 s m x
  loB : ∀ y ∈ B.drop i, ∀ m ∈ M, Lt1 s m y
  no : ∀ y ∈ B.take i, NoC s A y
  len : M.length ≤ a + i
theorem CurAt.start (A B : List ByteArray) : CurAt s A B 0 0 [] := ⟨Nat.zero_le _, List.Pairwise.nil, fun x => by simp, fun x _ m hm => by simp at hm, fun x _ m hm => by simp at hm, fun y hy => by simp at hy, by simp⟩
theorem drop_at' {A : List ByteArray} {a : Nat} (ha : a < A.length) : A.drop a = A[a] :: A.drop (a + 1) := List.drop_eq_getElem_cons ha
theorem head_mem {A : List ByteArray} {a : Nat} (ha : a < A.length) : A[a] ∈ A.drop a := by
  rw [drop_at' ha]; exact List.mem_cons_self
theorem So.rest {A : List ByteArray} (hA : So s A) {a : Nat} (ha : a < A.length) {x : ByteArray} (hx : x ∈ A.drop (a + 1)) : Lt1 s A[a] x := by
  have h1 : So s (A.drop a) := List.Pairwise.sublist (List.drop_sublist a A) hA
  rw [drop_at' ha] at h1
  exact (List.pairwise_cons.1 h1).1 x hx
theorem So.snoc {M : List ByteArray} (h : So s M) {x : ByteArray} (hx : ∀ m ∈ M, Lt1 s m x) : So s (M ++ [x]) := List.pairwise_append.2 ⟨h, List.pairwise_singleton _ _, fun m hm y hy => by rw [List.mem_singleton] at hy; subst hy; exact hx m hm⟩
theorem CurAt.step {A B M : List ByteArray} {a i : Nat} (h : CurAt s A B a i M) (hA : So s A) (hB : So s B) (ha : a < A.length) (hi : i < B.length) (hl : Lt1 s A[a] B[i]) : CurAt s A B (a + 1) i (M ++ [A[a]]) := by
  have hd := drop_at' ha
  refine ⟨by omega, h.so.snoc fun m hm => h.loA A[a] (head_mem ha) m hm, fun x => ?_, fun x hx m hm => ?_, fun y hy m hm => ?_, h.no, by simp; have := h.len; omega⟩
  · rw [List.mem_append, List.mem_singleton, h.mem, take_mem ha]
    constructor
    · rintro ((q | q) | q)
      · exact Or.inl (Or.inl q)
      · exact Or.inr q
      · exact Or.inl (Or.inr q)
    · rintro ((q | q) | q)
      · exact Or.inl (Or.inl q)
      · exact Or.inr q
      · exact Or.inl (Or.inr q)
  · rcases List.mem_append.1 hm with q | q
    · exact h.loA x (by rw [hd]; exact List.mem_cons_of_mem _ hx) m q
    · rw [List.mem_singleton] at q; subst q; exact hA.rest ha hx
  · rcases List.mem_append.1 hm with q | q
    · exact h.loB y hy m q
    · rw [List.mem_singleton] at q; subst q
      rw [drop_at' hi] at hy
      rcases List.mem_cons.1 hy with e | e
      · subst e; exact hl
      · exact hl.trans (hB.rest hi e)
/-- Behind the inner loop. -/
theorem CurAt.no_i {A B M : List ByteArray} {a i : Nat} (h : CurAt s A B a i M) (hi : i < B.length) (hr : ∀ x ∈ A.drop a, s x = s B[i] → x = B[i]) : ∀ y ∈ B.take (i + 1), NoC s A y := by
  intro y hy x hx e
  rcases (take_mem hi).1 hy with q | q
  · exact h.no y q x hx e
  · subst q
    rw [← List.take_append_drop a A] at hx
    rcases List.mem_append.1 hx with p | p
    · exact absurd e (Lt1.ne (h.loB B[i] (head_mem hi) x ((h.mem x).2 (Or.inl p))))
    · exact hr x p e
theorem CurAt.putB {A B M : List ByteArray} {a i : Nat} (h : CurAt s A B a i M) (hB : So s B) (hi : i < B.length) (hlo : ∀ x ∈ A.drop a, Lt1 s B[i] x) : CurAt s A B a (i + 1) (M ++ [B[i]]) := by
  refine ⟨h.ha, h.so.snoc fun m hm => h.loB B[i] (head_mem hi) m hm, fun x => ?_, fun x hx m hm => ?_, fun y hy m hm => ?_, h.no_i hi fun x hx e => absurd e.symm (Lt1.ne (hlo x hx)), by simp; have := h.len; omega⟩
  · rw [List.mem_append, List.mem_singleton, h.mem, take_mem hi]
    constructor
    · rintro ((q | q) | q)
      · exact Or.inl q
      · exact Or.inr (Or.inl q)
      · exact Or.inr (Or.inr q)
    · rintro (q | q | q)
      · exact Or.inl (Or.inl q)
      · exact Or.inl (Or.inr q)
      · exact Or.inr q
  · rcases List.mem_append.1 hm with q | q
    · exact h.loA x hx m q
    · rw [List.mem_singleton] at q; subst q; exact hlo x hx
  · rcases List.mem_append.1 hm with q | q
    · exact h.loB y (by rw [drop_at' hi]; exact List.mem_cons_of_mem _ hy) m q
    · rw [List.mem_singleton] at q; subst q; exact hB.rest hi hy
theorem CurAt.putS {A B M : List ByteArray} {a i : Nat} (h : CurAt s A B a i M) (hA : So s A) (hB : So s B) (ha : a < A.length) (hi : i < B.length) (e : A[a] = B[i]) : CurAt s A B (a + 1) (i + 1) (M ++ [B[i]]) := by
  have hd := drop_at' ha
  refine ⟨by omega, h.so.snoc fun m hm => h.loB B[i] (head_mem hi) m hm, fun x => ?_, fun x hx m hm => ?_, fun y hy m hm => ?_, h.no_i hi fun x hx e' => ?_, by simp; have := h.len; omega⟩
  · rw [List.mem_append, List.mem_singleton, h.mem, take_mem hi, take_mem ha, e]
    constructor
    · rintro ((q | q) | q)
      · exact Or.inl (Or.inl q)
      · exact Or.inr (Or.inl q)
      · exact Or.inr (Or.inr q)
    · rintro ((q | q) | q | q)
      · exact Or.inl (Or.inl q)
      · exact Or.inr q
      · exact Or.inl (Or.inr q)
      · exact Or.inr q
  · rcases List.mem_append.1 hm with q | q
    · exact h.loA x (by rw [hd]; exact List.mem_cons_of_mem _ hx) m q
    · rw [List.mem_singleton] at q; subst q; rw [← e]; exact hA.rest ha hx
  · rcases List.mem_append.1 hm with q | q
    · exact h.loB y (by rw [drop_at' hi]; exact List.mem_cons_of_mem _ hy) m q
    · rw [List.mem_singleton] at q; subst q; exact hB.rest hi hy
  · rw [hd] at hx
    rcases List.mem_cons.1 hx with q | q
    · subst q; exact e
    · have := hA.rest ha q
      rw [e] at this
      exact absurd e'.symm (Lt1.ne this)
theorem CurAt.clash {A B M : List ByteArray} {a i : Nat} (h : CurAt s A B a i M) (ha : a < A.length) (hi : i < B.length) (e : s A[a] = s B[i]) (hne : A[a] ≠ B[i]) : ClashAt s A B A[a] B[i] :=
  ⟨B.take i, B.drop (i + 1), by rw [← drop_at' hi, List.take_append_drop], h.no, List.getElem_mem ha, e, hne⟩
theorem CurAt.behind {A B M : List ByteArray} {a i : Nat} (h : CurAt s A B a i M) (hA : So s A) (ha : a < A.length) (hi : i < B.length) (hl : Lt1 s B[i] A[a]) : ∀ x ∈ A.drop a, Lt1 s B[i] x := by
  intro x hx
  rw [drop_at' ha] at hx
  rcases List.mem_cons.1 hx with q | q
  · subst q; exact hl
  · exact hl.trans (hA.rest ha q)
theorem CurAt.done {A B M : List ByteArray} {a : Nat} (h : CurAt s A B a B.length M) (hA : So s A) : (∀ y ∈ B, NoC s A y) ∧ Uni s A B (M ++ A.drop a) := by
  have ht : B.take B.length = B := List.take_length
  refine ⟨fun y hy => h.no y (by rw [ht]; exact hy), List.pairwise_append.2 ⟨h.so, List.Pairwise.sublist (List.drop_sublist a A) hA, fun m hm x hx => h.loA x hx m hm⟩, fun x => ?_⟩
  rw [List.mem_append, h.mem, ht]
  constructor
  · rintro ((q | q) | q)
    · exact Or.inl (List.mem_of_mem_take q)
    · exact Or.inr q
    · exact Or.inl (List.mem_of_mem_drop q)
  · rintro (q | q)
    · rw [← List.take_append_drop a A] at q
      rcases List.mem_append.1 q with p | p
      · exact Or.inl (Or.inl p)
      · exact Or.inr p
    · exact Or.inl (Or.inr q)
end

/-! ### What Merge answers -/
open Classical in
noncomputable def newR (ra rb : List T3) : List T3 := rb.filter fun r => decide (r ∉ ra)
def MgP (n : Int) (A : List ByteArray) (ra : List T3) (m : Int) (B : List ByteArray) (rb : List T3) (cd wd : Int) (ts : List ByteArray) (rs : List T3) (X Y : ByteArray) : Prop :=
  (¬ (WdOk n A ra ∧ WdOk m B rb ∧ n = m) ∧ cd = 1 ∧ wd = 0 ∧ ts = [] ∧ rs = [] ∧ X = ⟨#[]⟩ ∧ Y = ⟨#[]⟩) ∨
  ((WdOk n A ra ∧ WdOk m B rb ∧ n = m) ∧
    ((ClashAt (sumB n.toNat) A B X Y ∧ cd = 2 ∧ wd = 0 ∧ ts = [] ∧ rs = []) ∨
     ((∀ y ∈ B, NoC (sumB n.toNat) A y) ∧ X = ⟨#[]⟩ ∧ Y = ⟨#[]⟩ ∧ ∃ U, Uni (sumB n.toNat) A B U ∧
       (((5000 < U.length ∨ 2000 < (ra ++ newR ra rb).length) ∧ cd = 3 ∧ wd = 0 ∧ ts = [] ∧ rs = []) ∨
        (¬ (5000 < U.length ∨ 2000 < (ra ++ newR ra rb).length) ∧ cd = 0 ∧ wd = n ∧ ts = U ∧ rs = ra ++ newR ra rb)))))
theorem WdOk.so {n : Int} {ts : List ByteArray} {rs : List T3} (h : WdOk n ts rs) : So (sumB n.toNat) ts := So.of_asc h.2.2.1.2.2
theorem MgP.unique {n m : Int} {A B : List ByteArray} {ra rb : List T3} {cd wd cd' wd' : Int} {t1 t2 : List ByteArray} {r1 r2 : List T3} {X Y X' Y' : ByteArray} (h : MgP n A ra m B rb cd wd t1 r1 X Y) (h' : MgP n A ra m B rb cd' wd' t2 r2 X' Y') : cd' = cd ∧ wd' = wd ∧ t2 = t1 ∧ r2 = r1 ∧ X' = X ∧ Y' = Y := by
  rcases h with ⟨h0, rfl, rfl, rfl, rfl, rfl, rfl⟩ | ⟨h0, h⟩ <;> rcases h' with ⟨k0, rfl, rfl, rfl, rfl, rfl, rfl⟩ | ⟨k0, h'⟩
  · exact ⟨rfl, rfl, rfl, rfl, rfl, rfl⟩
  · exact absurd k0 h0
  · exact absurd h0 k0
  · rcases h with ⟨h1, rfl, rfl, rfl, rfl⟩ | ⟨h1, rfl, rfl, U, hU, h⟩ <;> rcases h' with ⟨k1, rfl, rfl, rfl, rfl⟩ | ⟨k1, rfl, rfl, V, hV, h'⟩
    · obtain ⟨rfl, rfl⟩ := h1.unique h0.1.so k1
      exact ⟨rfl, rfl, rfl, rfl, rfl, rfl⟩
    · exact absurd k1 h1.not
    · exact absurd h1 k1.not
    · obtain rfl := hU.unique hV
      rcases h with ⟨q, rfl, rfl, rfl, rfl⟩ | ⟨q, rfl, rfl, rfl, rfl⟩ <;> rcases h' with ⟨q', rfl, rfl, rfl, rfl⟩ | ⟨q', rfl, rfl, rfl, rfl⟩
      · exact ⟨rfl, rfl, rfl, rfl, rfl, rfl⟩
      · exact absurd q q'
      · exact absurd q' q
      · exact ⟨rfl, rfl, rfl, rfl, rfl, rfl⟩

end Go.Proofs.YtllhbgmadiclcaaGreatDoor
