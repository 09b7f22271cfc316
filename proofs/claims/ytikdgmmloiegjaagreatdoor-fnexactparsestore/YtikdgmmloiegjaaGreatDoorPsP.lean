import Derived.Test.YtikdgmmloiegjaaGreatDoorPsM
import Derived.Test.YtikdgmmloiegjaaGreatDoorPaH
namespace Go.Proofs.YtikdgmmloiegjaaGreatDoor
open Go.RowKit
set_option linter.unusedVariables false

/-- Its block F, its rows from B on. -/
structure RS (F B : Nat) (s : LS) (tv qv : Value) (es : List Ent) (w : World) : Prop where
  er : es.map (·.2.2) = s.rs
  fb : F < B
  blk : w.heap[F]? = some (.cells #[.int .i64 s.w, tv, qv] 25 (0, 0))
  txt : w.ownsRow B 9 1 tv s.ts.length (s.ts.map Value.string)
  row : w.ownsRow B 54 3 qv es.length (es.flatMap entC)
  cod : ∀ e ∈ es, w.ownsRow B 56 3 e.1 e.2.2.code.length (insC e.2.2.code)
  loo : ∀ e ∈ es, w.ownsRow B 60 3 e.2.1 e.2.2.looks.length (gloC e.2.2.looks)
  apc : es.Pairwise (apart (·.1))
  apl : es.Pairwise (apart (·.2.1))
theorem RS.lt {F B : Nat} {s : LS} {tv qv : Value} {es : List Ent} {w : World} (h : RS F B s tv qv es w) : F < w.heap.size := hlt h.blk
theorem RS.cells {F B : Nat} {s : LS} {tv qv : Value} {es : List Ent} {w : World} (h : RS F B s tv qv es w) : w.cell? ⟨F, 0, none⟩ = some (.int .i64 s.w) ∧ w.cell? ⟨F, 1, none⟩ = some tv ∧ w.cell? ⟨F, 2, none⟩ = some qv ∧ w.frozen? ⟨F, 0, none⟩ = false ∧ w.frozen? ⟨F, 1, none⟩ = false ∧ w.frozen? ⟨F, 2, none⟩ = false :=
  ⟨by rw [Lib.cell_of_heap h.blk]; rfl, by rw [Lib.cell_of_heap h.blk]; rfl, by rw [Lib.cell_of_heap h.blk]; rfl, Lib.frozen_of_heap h.blk 0, Lib.frozen_of_heap h.blk 1, Lib.frozen_of_heap h.blk 2⟩
theorem RS.below {F B : Nat} {s : LS} {tv qv : Value} {es : List Ent} {w w' : World} (h : RS F B s tv qv es w) (hb : Below w.heap.size w w') : RS F B s tv qv es w' :=
  ⟨h.er, h.fb, by rw [hb.block _ (hlt h.blk)]; exact h.blk, own_sameP h.txt fun b e => hb.block b (h.txt.lt b e).2, own_sameP h.row fun b e => hb.block b (h.row.lt b e).2,
   fun e he => own_sameP (h.cod e he) fun b k => hb.block b ((h.cod e he).lt b k).2, fun e he => own_sameP (h.loo e he) fun b k => hb.block b ((h.loo e he).lt b k).2, h.apc, h.apl⟩
theorem RS.start {F B : Nat} {w : World} (hf : F < B) (h : w.heap[F]? = some (.cells #[.int .i64 0, .slice none 0 0, .slice none 0 0] 25 (0, 0))) : RS F B ⟨0, [], []⟩ (.slice none 0 0) (.slice none 0 0) [] w :=
  ⟨rfl, hf, h, World.ownsRow_nil _ _ _ _, World.ownsRow_nil _ _ _ _, fun e he => by simp at he, fun e he => by simp at he, List.Pairwise.nil, List.Pairwise.nil⟩
/-- What lies below B, but F, stays. -/
def FrB (F B : Nat) (w w' : World) : Prop := ∀ b, b < B → b ≠ F → w'.heap[b]? = w.heap[b]?
theorem FrB.refl (F B : Nat) (w : World) : FrB F B w w := fun _ _ _ => rfl
theorem FrB.trans {F B : Nat} {a b c : World} (h : FrB F B a b) (k : FrB F B b c) : FrB F B a c := fun i h1 h2 => (k i h1 h2).trans (h i h1 h2)
theorem FrB.of_below {F B : Nat} {w w' : World} (hB : B ≤ w.heap.size) (h : Below w.heap.size w w') : FrB F B w w' := fun b h1 _ => h.block b (by omega)
theorem FrB.setA {F B j : Nat} {w : World} (v : Value) : FrB F B w (w.setCell ⟨F, j, none⟩ v) := fun b _ h2 => Below.heap_setCell w ⟨F, j, none⟩ v b h2
theorem FrB.setUp {F B q j : Nat} {w : World} (hq : B ≤ q) (v : Value) : FrB F B w (w.setCell ⟨q, j, none⟩ v) := fun b h1 _ => Below.heap_setCell w ⟨q, j, none⟩ v b (by show b ≠ q; omega)
theorem FrB.grown {F B : Nat} {w w' : World} (hB : B ≤ w.heap.size) {e sz n : Nat} {v : Value} {xs : List Value} (ho : w.ownsRow B e sz v n xs) (hg : w.grownBy w' v.ownBlock) : FrB F B w w' := fun b h1 _ => hg.block b (by omega) (fun e => by have := (ho.lt b e.symm).1; omega)

theorem RS.setW {F B : Nat} {s : LS} {tv qv : Value} {es : List Ent} {w : World} (h : RS F B s tv qv es w) (n : Int) : RS F B ⟨n, s.ts, s.rs⟩ tv qv es (w.setCell ⟨F, 0, none⟩ (.int .i64 n)) := by
  have hf := h.fb
  refine ⟨h.er, h.fb, by rw [Joins.block_setCell h.blk]; rfl, own_sameP h.txt fun b e => setF b ?_, own_sameP h.row fun b e => setF b ?_, fun e he => own_sameP (h.cod e he) fun b k => setF b ?_, fun e he => own_sameP (h.loo e he) fun b k => setF b ?_, h.apc, h.apl⟩
  · have := (h.txt.lt b e).1; omega
  · have := (h.row.lt b e).1; omega
  · have := ((h.cod e he).lt b k).1; omega
  · have := ((h.loo e he).lt b k).1; omega
/-- A text behind the texts. -/
theorem RS.addT {F B : Nat} {s : LS} {tv tv' qv : Value} {es : List Ent} {w w' : World} (h : RS F B s tv qv es w) (hg : w.grownBy w' tv.ownBlock) (x : ByteArray) (hr : w'.ownsRow B 9 1 tv' (s.ts.length + 1) (s.ts.map Value.string ++ [.string x])) :
    RS F B ⟨s.w, s.ts ++ [x], s.rs⟩ tv' qv es (w'.setCell ⟨F, 1, none⟩ tv') := by
  have hf := h.fb
  have key : ∀ b, b < w.heap.size → b ≠ F → tv.ownBlock ≠ some b → (w'.setCell ⟨F, 1, none⟩ tv').heap[b]? = w.heap[b]? := fun b h1 h2 h3 => by rw [setF b h2, hg.block b h1 (fun e => h3 e.symm)]
  refine ⟨h.er, h.fb, ?_, ?_, own_sameP h.row fun b e => key b (h.row.lt b e).2 ?_ ?_, fun e he => own_sameP (h.cod e he) fun b k => key b ((h.cod e he).lt b k).2 ?_ ?_, fun e he => own_sameP (h.loo e he) fun b k => key b ((h.loo e he).lt b k).2 ?_ ?_, h.apc, h.apl⟩
  · have hF : w'.heap[F]? = w.heap[F]? := hg.block F (hlt h.blk) (fun e => by have := (h.txt.lt F e.symm).1; omega)
    rw [Joins.block_setCell (hF.trans h.blk)]; rfl
  · have : (s.ts ++ [x]).length = s.ts.length + 1 := by simp
    show World.ownsRow _ _ _ _ _ (s.ts ++ [x]).length ((s.ts ++ [x]).map Value.string)
    rw [this, List.map_append]
    exact own_sameP hr fun b e => setF b (by have := (hr.lt b e).1; omega)
  · have := (h.row.lt b e).1; omega
  · exact neTP h.row h.txt (by decide) b e
  · have := ((h.cod e he).lt b k).1; omega
  · exact neTP (h.cod e he) h.txt (by decide) b k
  · have := ((h.loo e he).lt b k).1; omega
  · exact neTP (h.loo e he) h.txt (by decide) b k
/-- A record behind the records. -/
theorem RS.addR {F B : Nat} {s : LS} {tv qv qv' : Value} {es : List Ent} {w w' : World} (h : RS F B s tv qv es w) (hg : w.grownBy w' qv.ownBlock) (o : ByteArray) (hr : w'.ownsRow B 54 3 qv' (es.length + 1) (es.flatMap entC ++ [.slice none 0 0, .slice none 0 0, .string o])) :
    RS F B ⟨s.w, s.ts, s.rs ++ [⟨[], [], o⟩]⟩ tv qv' (es ++ [(.slice none 0 0, .slice none 0 0, ⟨[], [], o⟩)]) (w'.setCell ⟨F, 2, none⟩ qv') := by
  have hf := h.fb
  have key : ∀ b, b < w.heap.size → b ≠ F → qv.ownBlock ≠ some b → (w'.setCell ⟨F, 2, none⟩ qv').heap[b]? = w.heap[b]? := fun b h1 h2 h3 => by rw [setF b h2, hg.block b h1 (fun e => h3 e.symm)]
  refine ⟨by rw [List.map_append, h.er]; rfl, h.fb, ?_, own_sameP h.txt fun b e => key b (h.txt.lt b e).2 ?_ ?_, ?_, fun e he => ?_, fun e he => ?_, ?_, ?_⟩
  · have hF : w'.heap[F]? = w.heap[F]? := hg.block F (hlt h.blk) (fun e => by have := (h.row.lt F e.symm).1; omega)
    rw [Joins.block_setCell (hF.trans h.blk)]; rfl
  · have := (h.txt.lt b e).1; omega
  · exact neTP h.txt h.row (by decide) b e
  · rw [show (es ++ [((.slice none 0 0, .slice none 0 0, ⟨[], [], o⟩) : Ent)]).length = es.length + 1 from by simp, List.flatMap_append]
    exact own_sameP hr fun b e => setF b (by have := (hr.lt b e).1; omega)
  · rcases List.mem_append.1 he with k | k
    · have q := h.cod e k
      refine own_sameP q fun b e' => key b (q.lt b e').2 (by have := (q.lt b e').1; omega) (neTP q h.row (by decide) b e')
    · rw [List.mem_singleton] at k; subst k; exact World.ownsRow_nil _ _ _ _
  · rcases List.mem_append.1 he with k | k
    · have q := h.loo e k
      refine own_sameP q fun b e' => key b (q.lt b e').2 (by have := (q.lt b e').1; omega) (neTP q h.row (by decide) b e')
    · rw [List.mem_singleton] at k; subst k; exact World.ownsRow_nil _ _ _ _
  · rw [List.pairwise_append]
    exact ⟨h.apc, List.pairwise_singleton _ _, fun a _ b hb k _ e => by rw [List.mem_singleton] at hb; subst hb; simp [Value.ownBlock] at e⟩
  · rw [List.pairwise_append]
    exact ⟨h.apl, List.pairwise_singleton _ _, fun a _ b hb k _ e => by rw [List.mem_singleton] at hb; subst hb; simp [Value.ownBlock] at e⟩
theorem entC_len : ∀ es : List Ent, (es.flatMap entC).length = es.length * 3
  | [] => rfl
  | e :: es => by rw [List.flatMap_cons, List.length_append, entC_len es]; simp [entC]; omega
theorem ent_set0 (es : List Ent) (c l v : Value) (r r' : T3) (hr : r'.out = r.out) : ((es ++ [(c, l, r)]).flatMap entC).set (es.length * 3) v = (es ++ [(v, l, r')]).flatMap entC := by
  rw [List.flatMap_append, List.flatMap_append, List.set_append_right _ _ (by rw [entC_len]; omega), entC_len, Nat.sub_self]
  simp [entC, hr]
theorem ent_set1 (es : List Ent) (c l v : Value) (r r' : T3) (hr : r'.out = r.out) : ((es ++ [(c, l, r)]).flatMap entC).set (es.length * 3 + 1) v = (es ++ [(c, v, r')]).flatMap entC := by
  rw [List.flatMap_append, List.flatMap_append, List.set_append_right _ _ (by rw [entC_len]; omega), entC_len, show es.length * 3 + 1 - es.length * 3 = 1 by omega]
  simp [entC, hr]
/-- The last record: one instruction more. -/
theorem RS.addI {F B q qc : Nat} {sw : Int} {sts : List ByteArray} {rs : List T3} {tv : Value} {es : List Ent} {c l : Value} {r : T3} {w w' : World} (h : RS F B ⟨sw, sts, rs ++ [r]⟩ tv (.slice (some ⟨q, 0, none⟩) (es.length + 1) qc) (es ++ [(c, l, r)]) w) (hg : w.grownBy w' c.ownBlock) (i : I3) {g cap : Nat}
    (hr : w'.ownsRow B 56 3 (.slice (some ⟨g, 0, none⟩) (r.code.length + 1) cap) (r.code.length + 1) (insC r.code ++ [.int .i64 i.op, .string i.text, .int .i64 i.n])) (hat : c.ownBlock = some g ∨ g = w.heap.size) :
    RS F B ⟨sw, sts, rs ++ [⟨r.code ++ [i], r.looks, r.out⟩]⟩ tv (.slice (some ⟨q, 0, none⟩) (es.length + 1) qc) (es ++ [(.slice (some ⟨g, 0, none⟩) (r.code.length + 1) cap, l, ⟨r.code ++ [i], r.looks, r.out⟩)]) (w'.setCell ⟨q, es.length * 3, none⟩ (.slice (some ⟨g, 0, none⟩) (r.code.length + 1) cap)) := by
  have hf := h.fb
  have hm : (c, l, r) ∈ es ++ [(c, l, r)] := by simp
  have hcm := h.cod _ hm
  have hql := h.row.lt q rfl
  have hcq : c.ownBlock ≠ some q := fun e => neTP hcm h.row (by decide) q e rfl
  have key : ∀ b, b < w.heap.size → b ≠ q → c.ownBlock ≠ some b → (w'.setCell ⟨q, es.length * 3, none⟩ (.slice (some ⟨g, 0, none⟩) (r.code.length + 1) cap)).heap[b]? = w.heap[b]? := fun b h1 h2 h3 => by rw [setF (F := q) b h2, hg.block b h1 (fun e => h3 e.symm)]
  have hml : (es ++ [(c, l, r)]).length = es.length + 1 := by simp
  have er0 : es.map (·.2.2) = rs := by
    have := h.er
    rw [List.map_append] at this
    exact (List.append_inj' this rfl).1
  refine ⟨by rw [List.map_append, er0]; rfl, h.fb, by rw [key F (hlt h.blk) (by omega) (fun e => by have := (hcm.lt F e).1; omega)]; exact h.blk, own_sameP h.txt fun b e => key b (h.txt.lt b e).2 ?_ (neTP h.txt hcm (by decide) b e), ?_, fun e he => ?_, fun e he => ?_, ?_, ?_⟩
  · rintro rfl; exact neTP h.txt h.row (by decide) b e rfl
  · have h1 := h.row
    rw [hml] at h1
    have h2 := (own_sameP (w' := w') h1 fun b e => hg.block b (h1.lt b e).2 (fun e' => neTP hcm h1 (by decide) b e'.symm e)).stored (es.length * 3) (.slice (some ⟨g, 0, none⟩) (r.code.length + 1) cap)
    rw [ent_set0 es c l _ r ⟨r.code ++ [i], r.looks, r.out⟩ rfl] at h2
    rw [show (es ++ [((.slice (some ⟨g, 0, none⟩) (r.code.length + 1) cap, l, ⟨r.code ++ [i], r.looks, r.out⟩) : Ent)]).length = es.length + 1 from by simp]
    exact h2.1
  · rcases List.mem_append.1 he with k | k
    · have p := h.cod e (by simp [k])
      refine own_sameP p fun b e' => key b (p.lt b e').2 ?_ ?_
      · rintro rfl; exact neTP p h.row (by decide) b e' rfl
      · exact (List.pairwise_append.1 h.apc).2.2 e k (c, l, r) (by simp) b e'
    · rw [List.mem_singleton] at k; subst k
      show World.ownsRow _ _ _ _ _ (r.code ++ [i]).length (insC (r.code ++ [i]))
      rw [← insC_snoc, show (r.code ++ [i]).length = r.code.length + 1 from by simp]
      refine own_sameP hr fun b e' => setF (F := q) b ?_
      simp only [Value.ownBlock, Option.some.injEq] at e'
      subst e'
      rcases hat with p | p
      · exact fun e => hcq (e ▸ p)
      · omega
  · have p : w.ownsRow B 60 3 e.2.1 e.2.2.looks.length (gloC e.2.2.looks) := by
      rcases List.mem_append.1 he with k | k
      · exact h.loo e (by simp [k])
      · rw [List.mem_singleton] at k; subst k; exact h.loo (c, l, r) hm
    refine own_sameP p fun b e' => key b (p.lt b e').2 ?_ (neTP p hcm (by decide) b e')
    rintro rfl; exact neTP p h.row (by decide) b e' rfl
  · obtain ⟨p1, p2, p3⟩ := List.pairwise_append.1 h.apc
    refine List.pairwise_append.2 ⟨p1, List.pairwise_singleton _ _, fun a ha b hb k hk e => ?_⟩
    rw [List.mem_singleton] at hb; subst hb
    simp only [Value.ownBlock, Option.some.injEq] at e
    subst e
    rcases hat with p | p
    · exact p3 a ha (c, l, r) (by simp) _ hk p
    · have := ((h.cod a (by simp [ha])).lt _ hk).2; omega
  · obtain ⟨p1, p2, p3⟩ := List.pairwise_append.1 h.apl
    refine List.pairwise_append.2 ⟨p1, List.pairwise_singleton _ _, fun a ha b hb => ?_⟩
    rw [List.mem_singleton] at hb; subst hb
    exact p3 a ha (c, l, r) (by simp)
/-- The last record: one look more. -/
theorem RS.addL {F B q qc : Nat} {sw : Int} {sts : List ByteArray} {rs : List T3} {tv : Value} {es : List Ent} {c l : Value} {r : T3} {w w' : World} (h : RS F B ⟨sw, sts, rs ++ [r]⟩ tv (.slice (some ⟨q, 0, none⟩) (es.length + 1) qc) (es ++ [(c, l, r)]) w) (hg : w.grownBy w' l.ownBlock) (i : G3) {g cap : Nat}
    (hr : w'.ownsRow B 60 3 (.slice (some ⟨g, 0, none⟩) (r.looks.length + 1) cap) (r.looks.length + 1) (gloC r.looks ++ [.string i.name, .bool i.ask, .string i.sum])) (hat : l.ownBlock = some g ∨ g = w.heap.size) :
    RS F B ⟨sw, sts, rs ++ [⟨r.code, r.looks ++ [i], r.out⟩]⟩ tv (.slice (some ⟨q, 0, none⟩) (es.length + 1) qc) (es ++ [(c, .slice (some ⟨g, 0, none⟩) (r.looks.length + 1) cap, ⟨r.code, r.looks ++ [i], r.out⟩)]) (w'.setCell ⟨q, es.length * 3 + 1, none⟩ (.slice (some ⟨g, 0, none⟩) (r.looks.length + 1) cap)) := by
  have hf := h.fb
  have hm : (c, l, r) ∈ es ++ [(c, l, r)] := by simp
  have hcm := h.loo _ hm
  have hql := h.row.lt q rfl
  have hcq : l.ownBlock ≠ some q := fun e => neTP hcm h.row (by decide) q e rfl
  have key : ∀ b, b < w.heap.size → b ≠ q → l.ownBlock ≠ some b → (w'.setCell ⟨q, es.length * 3 + 1, none⟩ (.slice (some ⟨g, 0, none⟩) (r.looks.length + 1) cap)).heap[b]? = w.heap[b]? := fun b h1 h2 h3 => by rw [setF (F := q) b h2, hg.block b h1 (fun e => h3 e.symm)]
  have hml : (es ++ [(c, l, r)]).length = es.length + 1 := by simp
  have er0 : es.map (·.2.2) = rs := by
    have := h.er
    rw [List.map_append] at this
    exact (List.append_inj' this rfl).1
  refine ⟨by rw [List.map_append, er0]; rfl, h.fb, by rw [key F (hlt h.blk) (by omega) (fun e => by have := (hcm.lt F e).1; omega)]; exact h.blk, own_sameP h.txt fun b e => key b (h.txt.lt b e).2 ?_ (neTP h.txt hcm (by decide) b e), ?_, fun e he => ?_, fun e he => ?_, ?_, ?_⟩
  · rintro rfl; exact neTP h.txt h.row (by decide) b e rfl
  · have h1 := h.row
    rw [hml] at h1
    have h2 := (own_sameP (w' := w') h1 fun b e => hg.block b (h1.lt b e).2 (fun e' => neTP hcm h1 (by decide) b e'.symm e)).stored (es.length * 3 + 1) (.slice (some ⟨g, 0, none⟩) (r.looks.length + 1) cap)
    rw [ent_set1 es c l _ r ⟨r.code, r.looks ++ [i], r.out⟩ rfl] at h2
    rw [show (es ++ [((c, .slice (some ⟨g, 0, none⟩) (r.looks.length + 1) cap, ⟨r.code, r.looks ++ [i], r.out⟩) : Ent)]).length = es.length + 1 from by simp]
    exact h2.1
  · have p : w.ownsRow B 56 3 e.1 e.2.2.code.length (insC e.2.2.code) := by
      rcases List.mem_append.1 he with k | k
      · exact h.cod e (by simp [k])
      · rw [List.mem_singleton] at k; subst k; exact h.cod (c, l, r) hm
    refine own_sameP p fun b e' => key b (p.lt b e').2 ?_ (neTP p hcm (by decide) b e')
    rintro rfl; exact neTP p h.row (by decide) b e' rfl
  · rcases List.mem_append.1 he with k | k
    · have p := h.loo e (by simp [k])
      refine own_sameP p fun b e' => key b (p.lt b e').2 ?_ ?_
      · rintro rfl; exact neTP p h.row (by decide) b e' rfl
      · exact (List.pairwise_append.1 h.apl).2.2 e k (c, l, r) (by simp) b e'
    · rw [List.mem_singleton] at k; subst k
      show World.ownsRow _ _ _ _ _ (r.looks ++ [i]).length (gloC (r.looks ++ [i]))
      rw [← gloC_snoc, show (r.looks ++ [i]).length = r.looks.length + 1 from by simp]
      refine own_sameP hr fun b e' => setF (F := q) b ?_
      simp only [Value.ownBlock, Option.some.injEq] at e'
      subst e'
      rcases hat with p | p
      · exact fun e => hcq (e ▸ p)
      · omega
  · obtain ⟨p1, p2, p3⟩ := List.pairwise_append.1 h.apc
    refine List.pairwise_append.2 ⟨p1, List.pairwise_singleton _ _, fun a ha b hb => ?_⟩
    rw [List.mem_singleton] at hb; subst hb
    exact p3 a ha (c, l, r) (by simp)
  · obtain ⟨p1, p2, p3⟩ := List.pairwise_append.1 h.apl
    refine List.pairwise_append.2 ⟨p1, List.pairwise_singleton _ _, fun a ha b hb k hk e => ?_⟩
    rw [List.mem_singleton] at hb; subst hb
    simp only [Value.ownBlock, Option.some.injEq] at e
    subst e
    rcases hat with p | p
    · exact p3 a ha (c, l, r) (by simp) _ hk p
    · have := ((h.loo a (by simp [ha])).lt _ hk).2; omega

/-! ### Bounds -/
structure LSm (k : Nat) (s : LS) : Prop where
  ts : s.ts.length ≤ k
  rs : s.rs.length ≤ k
  xs : ∀ x ∈ s.ts, x.size ≤ 200000
  rr : ∀ r ∈ s.rs, SmR k r
theorem LSm.up {k : Nat} {s : LS} (h : LSm k s) : LSm (k + 1) s := ⟨by have := h.ts; omega, by have := h.rs; omega, h.xs, fun r hr => (h.rr r hr).up⟩
theorem LSm.start : LSm 0 ⟨0, [], []⟩ := ⟨by simp, by simp, fun x hx => by simp at hx, fun x hx => by simp at hx⟩
theorem onLast_mem (f : T3 → T3) : ∀ (rs : List T3) (x : T3), x ∈ onLast f rs → x ∈ rs ∨ ∃ r ∈ rs, x = f r
  | [], x, h => by simp [onLast] at h
  | [r], x, h => by simp [onLast] at h; exact Or.inr ⟨r, by simp, h⟩
  | r :: q :: rs, x, h => by
    have h' : x ∈ r :: onLast f (q :: rs) := h
    rcases List.mem_cons.1 h' with e | e
    · exact Or.inl (by simp [e])
    · rcases onLast_mem f (q :: rs) x e with k | ⟨y, hy, k⟩
      · exact Or.inl (List.mem_cons_of_mem _ k)
      · exact Or.inr ⟨y, List.mem_cons_of_mem _ hy, k⟩
theorem onLast_len (f : T3 → T3) : ∀ (rs : List T3), (onLast f rs).length = rs.length
  | [] => rfl
  | [r] => rfl
  | r :: q :: rs => by
    show (r :: onLast f (q :: rs)).length = _
    rw [List.length_cons, onLast_len f (q :: rs)]; rfl
theorem looseH_len : ∀ (l : List UInt8), (looseH l).length ≤ l.length
  | [] => by simp [looseH]
  | [_] => by simp [looseH]
  | a :: b :: r => by
    have := looseH_len r
    unfold looseH
    split <;> simp <;> omega
theorem rd_small (l : List UInt8) : ((rd l).getD zI).text.size ≤ 200000 := by
  cases h : rd l with
  | none => show (⟨#[]⟩ : ByteArray).size ≤ _; decide
  | some i =>
    have := (rd_ok h).1
    simp only [insOk, Bool.and_eq_true, decide_eq_true_eq] at this
    have h5 := this.1.1.2
    unfold mostT at h5
    show i.text.size ≤ _
    split at h5 <;> omega
theorem LSm.step {k : Nat} {s : LS} {x : List UInt8} (h : LSm k s) (hl : x.length ≤ 200000) : LSm (k + 1) (lsStep s x) := by
  have look : LSm (k + 1) ⟨s.w, s.ts, onLast (fun r => ⟨r.code, r.looks ++ [glanceL x], r.out⟩) s.rs⟩ := by
    refine ⟨h.up.ts, by rw [onLast_len]; exact h.up.rs, h.xs, fun r hr => ?_⟩
    rcases onLast_mem _ _ _ hr with q | ⟨r', hr', rfl⟩
    · exact h.up.rr r q
    · have := h.rr r' hr'
      refine ⟨this.up.1, by have := this.2.1; simp; omega, this.2.2.1, this.2.2.2.1, fun g hg => ?_⟩
      rcases List.mem_append.1 hg with q | q
      · exact this.2.2.2.2 g q
      · rw [List.mem_singleton] at q; subst q
        have h1 := cutL_len 32 (x.drop 4)
        have h2 := looseH_len (cutL 32 (x.drop 4)).2.1
        have h3 : (x.drop 4).length ≤ x.length := by simp
        exact ⟨by show ByteArray.size ⟨_⟩ ≤ _; rw [bsz]; omega, by show ByteArray.size ⟨_⟩ ≤ _; rw [bsz]; omega⟩
  unfold lsStep
  cases clsL x with
  | store => exact ⟨h.up.ts, h.up.rs, h.xs, h.up.rr⟩
  | text =>
    refine ⟨by have := h.ts; simp; omega, h.up.rs, fun y hy => ?_, h.up.rr⟩
    rcases List.mem_append.1 hy with q | q
    · exact h.xs y q
    · rw [List.mem_singleton] at q; subst q
      have h1 := loose_len ((x.drop 5).drop 1)
      have h2 : ((x.drop 5).drop 1).length ≤ x.length := by simp
      rw [bsz]; omega
  | recd =>
    refine ⟨h.up.ts, by have := h.rs; simp; omega, h.xs, fun r hr => ?_⟩
    rcases List.mem_append.1 hr with q | q
    · exact h.up.rr r q
    · rw [List.mem_singleton] at q; subst q
      have h1 := looseH_len (x.drop 7)
      have h2 : (x.drop 7).length ≤ x.length := by simp
      exact ⟨by simp, by simp, by show ByteArray.size ⟨_⟩ ≤ _; rw [bsz]; omega, fun i hi => by simp at hi, fun g hg => by simp at hg⟩
  | ins =>
    refine ⟨h.up.ts, by rw [onLast_len]; exact h.up.rs, h.xs, fun r hr => ?_⟩
    rcases onLast_mem _ _ _ hr with q | ⟨r', hr', rfl⟩
    · exact h.up.rr r q
    · have := h.rr r' hr'
      refine ⟨by have := this.1; simp; omega, this.up.2.1, this.2.2.1, fun i hi => ?_, this.2.2.2.2⟩
      rcases List.mem_append.1 hi with q | q
      · exact this.2.2.2.1 i q
      · rw [List.mem_singleton] at q; subst q; exact rd_small _
  | ask => exact look
  | has => exact look
  | other => exact h.up
theorem lsQ {s : LS} (h : LSm 200002 s) (i : Nat) : SmR 200002 (qx s.rs i) := by
  rcases qx_mem (rs := s.rs) i with q | q
  · exact h.rr _ q
  · rw [q]; exact ⟨by simp [q00], by simp [q00], by simp [q00], fun j hj => by simp [q00] at hj, fun j hj => by simp [q00] at hj⟩
theorem ml2 {n : Nat} (h : n ≤ 200002) : n ≤ maxLen := by unfold maxLen; omega
/-- The store, as the next ones read it. -/
theorem RS.stIn {F B : Nat} {s : LS} {tv qv : Value} {es : List Ent} {w : World} (h : RS F B s tv qv es w) (hS : LSm 200002 s) : ∃ ta tc ra rc, tv = .slice ta s.ts.length tc ∧ qv = .slice ra s.rs.length rc ∧ StIn w ta s.ts ra s.rs := by
  obtain ⟨ta, tc, rfl, hst⟩ := strsP h.txt
  have hel : es.length = s.rs.length := by rw [← h.er, List.length_map]
  have hrow : ∃ a cap, qv = .slice a s.rs.length cap ∧ RowQ w a s.rs := by
    rcases sl_of h.row with ⟨h0, rfl⟩ | ⟨g, cap, rfl, h'⟩
    · exact ⟨none, 0, by rw [← hel, h0], fun i hi => by omega⟩
    · refine ⟨_, cap, by rw [hel], fun i hi => ?_⟩
      have hi' : i < es.length := by omega
      have e : ∀ j, j < 3 → w.cell? ⟨g, i * 3 + j, none⟩ = (entC es[i])[j]? := fun j hj => by
        rw [h'.cellAt _ (by omega), flat3_get entC (fun _ => rfl) es[i] es i j hi' hj, List.getD_eq_getElem?_getD, List.getElem?_eq_getElem hi']; rfl
      have hq : qx s.rs i = es[i].2.2 := by
        unfold qx
        rw [← h.er, List.getD_eq_getElem?_getD, List.getElem?_map, List.getElem?_eq_getElem hi']; rfl
      have hm : es[i] ∈ es := by simp
      obtain ⟨ca, cc, hc, hrc⟩ := row3P (h.cod _ hm)
      obtain ⟨la, lc, hl, hrl⟩ := rowGP (h.loo _ hm)
      have e0 := e 0 (by omega)
      have e1 := e 1 (by omega)
      have e2 := e 2 (by omega)
      refine ⟨g, 0, rfl, ca, cc, la, lc, ?_, ?_, ?_, ?_, ?_⟩
      · rw [Nat.zero_add, hq, ← hc]; exact e0
      · rw [Nat.zero_add, hq, ← hl]; exact e1
      · rw [Nat.zero_add, hq]; exact e2
      · rw [hq]; exact hrc
      · rw [hq]; exact hrl
  obtain ⟨ra, rc, rfl, hrq⟩ := hrow
  refine ⟨ta, tc, ra, rc, rfl, rfl, hst, by have := hS.ts; omega, fun i => ?_, hrq, ⟨ml2 hS.rs, fun i => ml2 (lsQ hS i).1, fun i => ml2 (lsQ hS i).2.1, fun i j => ?_, fun i j => ?_, fun i j => ?_, fun i => ml (lsQ hS i).2.2.1⟩, by have := hS.rs; omega, fun i _ => ⟨by have := (lsQ hS i).1; omega, by have := (lsQ hS i).2.1; omega⟩⟩
  · unfold nx
    rw [List.getD_eq_getElem?_getD]
    rcases Nat.lt_or_ge i s.ts.length with q | q
    · rw [List.getElem?_eq_getElem q]; exact ml (hS.xs _ (List.getElem_mem q))
    · rw [List.getElem?_eq_none q]; exact Nat.zero_le _
  · rcases ix_mem (is := (qx s.rs i).code) j with q | q
    · exact ml ((lsQ hS i).2.2.2.1 _ q)
    · rw [q]; exact Nat.zero_le _
  · rcases gx_mem (is := (qx s.rs i).looks) j with q | q
    · exact ml ((lsQ hS i).2.2.2.2 _ q).1
    · rw [q]; exact Nat.zero_le _
  · rcases gx_mem (is := (qx s.rs i).looks) j with q | q
    · exact ml ((lsQ hS i).2.2.2.2 _ q).2
    · rw [q]; exact Nat.zero_le _
/-- The kinds of line. -/
theorem cls_cases (x : List UInt8) :
    (clsL x = .store ∧ 6 ≤ x.length ∧ begins hStore x = true ∧ begins hText x = false ∧ begins hRec x = false ∧ begins hDo x = false ∧ begins hAsk x = false ∧ begins hHas x = false) ∨
    (clsL x = .text ∧ 5 ≤ x.length ∧ begins hStore x = false ∧ begins hText x = true ∧ begins hRec x = false ∧ begins hDo x = false ∧ begins hAsk x = false ∧ begins hHas x = false) ∨
    (clsL x = .recd ∧ 7 ≤ x.length ∧ begins hStore x = false ∧ begins hText x = false ∧ begins hRec x = true ∧ begins hDo x = false ∧ begins hAsk x = false ∧ begins hHas x = false) ∨
    (clsL x = .ins ∧ 3 ≤ x.length ∧ begins hStore x = false ∧ begins hText x = false ∧ begins hRec x = false ∧ begins hDo x = true ∧ begins hAsk x = false ∧ begins hHas x = false) ∨
    (clsL x = .ask ∧ 4 ≤ x.length ∧ begins hStore x = false ∧ begins hText x = false ∧ begins hRec x = false ∧ begins hDo x = false ∧ begins hAsk x = true ∧ begins hHas x = false) ∨
    (clsL x = .has ∧ 4 ≤ x.length ∧ begins hStore x = false ∧ begins hText x = false ∧ begins hRec x = false ∧ begins hDo x = false ∧ begins hAsk x = false ∧ begins hHas x = true) ∨
    (clsL x = .other ∧ begins hStore x = false ∧ begins hText x = false ∧ begins hRec x = false ∧ begins hDo x = false ∧ begins hAsk x = false ∧ begins hHas x = false) := by
  by_cases h1 : begins hStore x = true
  · obtain ⟨r, rfl⟩ := begins_iff.1 h1
    exact Or.inl ⟨cls_store r, by simp [hStore], h1, begins_not (by decide), begins_not (by decide), begins_not (by decide), begins_not (by decide), begins_not (by decide)⟩
  by_cases h2 : begins hText x = true
  · obtain ⟨r, rfl⟩ := begins_iff.1 h2
    exact Or.inr (Or.inl ⟨cls_text r, by simp [hText], begins_not (by decide), h2, begins_not (by decide), begins_not (by decide), begins_not (by decide), begins_not (by decide)⟩)
  by_cases h3 : begins hRec x = true
  · obtain ⟨r, rfl⟩ := begins_iff.1 h3
    exact Or.inr (Or.inr (Or.inl ⟨cls_rec r, by simp [hRec], begins_not (by decide), begins_not (by decide), h3, begins_not (by decide), begins_not (by decide), begins_not (by decide)⟩))
  by_cases h4 : begins hDo x = true
  · obtain ⟨r, rfl⟩ := begins_iff.1 h4
    exact Or.inr (Or.inr (Or.inr (Or.inl ⟨cls_do r, by simp [hDo], begins_not (by decide), begins_not (by decide), begins_not (by decide), h4, begins_not (by decide), begins_not (by decide)⟩)))
  by_cases h5 : begins hAsk x = true
  · obtain ⟨r, rfl⟩ := begins_iff.1 h5
    exact Or.inr (Or.inr (Or.inr (Or.inr (Or.inl ⟨cls_ask r, by simp [hAsk], begins_not (by decide), begins_not (by decide), begins_not (by decide), begins_not (by decide), h5, begins_not (by decide)⟩))))
  by_cases h6 : begins hHas x = true
  · obtain ⟨r, rfl⟩ := begins_iff.1 h6
    exact Or.inr (Or.inr (Or.inr (Or.inr (Or.inr (Or.inl ⟨cls_has r, by simp [hHas], begins_not (by decide), begins_not (by decide), begins_not (by decide), begins_not (by decide), begins_not (by decide), h6⟩)))))
  · simp only [Bool.not_eq_true] at h1 h2 h3 h4 h5 h6
    refine Or.inr (Or.inr (Or.inr (Or.inr (Or.inr (Or.inr ⟨?_, h1, h2, h3, h4, h5, h6⟩)))))
    unfold clsL
    rw [h1, h2, h3, h4, h5, h6]; rfl

end Go.Proofs.YtikdgmmloiegjaaGreatDoor
