import Derived.Test.YtikdgmmloiegjaaGreatDoorPsA
import Derived.Test.YtikdgmmloiegjaaGreatDoorPaD
import Derived.Test.YtikdgmmloiegjaaGreatDoorStLaw
import Derived.Deep.AppendLies
import Derived.Lib.SmallJoins
namespace Go.Proofs.YtikdgmmloiegjaaGreatDoor
open Go.RowKit
set_option linter.unusedVariables false

def gloC1 (g : G3) : List Value := [.string g.name, .bool g.ask, .string g.sum]
def gloC (gs : List G3) : List Value := gs.flatMap gloC1
theorem gloC_snoc (gs : List G3) (g : G3) : gloC gs ++ [.string g.name, .bool g.ask, .string g.sum] = gloC (gs ++ [g]) := by simp [gloC, gloC1]
/-- A record in memory: where its code and its looks lie, and what it says. -/
abbrev Ent := Value × Value × T3
def entC (e : Ent) : List Value := [e.1, e.2.1, .string e.2.2.out]
def apart (f : Ent → Value) (a b : Ent) : Prop := ∀ k, (f a).ownBlock = some k → (f b).ownBlock ≠ some k
structure FS (F : Nat) (s : Sta) (tv qv pv : Value) (es ce : List Ent) (w : World) : Prop where
  er : es.map (·.2.2) = s.rs
  ec : ce.map (·.2.2) = curL s.cur
  blk : w.heap[F]? = some (.cells #[.int .i64 (s.w : Int), tv, qv, pv] 35 (0, 0))
  txt : w.ownsRow (F + 1) 9 1 tv s.ts.length (s.ts.map Value.string)
  row : w.ownsRow (F + 1) 54 3 qv es.length (es.flatMap entC)
  cod : ∀ e ∈ es ++ ce, w.ownsRow (F + 1) 56 3 e.1 e.2.2.code.length (insC e.2.2.code)
  loo : ∀ e ∈ es ++ ce, w.ownsRow (F + 1) 60 3 e.2.1 e.2.2.looks.length (gloC e.2.2.looks)
  apc : (es ++ ce).Pairwise (apart (·.1))
  apl : (es ++ ce).Pairwise (apart (·.2.1))
  nul : ce = [] → pv = .pointer none
  now : ∀ e, ce = [e] → ∃ R, pv = .pointer (some ⟨R, 0, none⟩) ∧ F < R ∧ w.heap[R]? = some (.cells #[e.1, e.2.1, .string e.2.2.out] 54 (0, 0)) ∧ qv.ownBlock ≠ some R
theorem hlt {w : World} {b : Nat} {o : Obj} (h : w.heap[b]? = some o) : b < w.heap.size := by
  rcases Nat.lt_or_ge b w.heap.size with q | q
  · exact q
  · rw [Array.getElem?_eq_none q] at h; cases h
theorem own_sameP {w w' : World} {B e sz n : Nat} {v : Value} {xs : List Value} (h : w.ownsRow B e sz v n xs) (hk : ∀ b, v.ownBlock = some b → w'.heap[b]? = w.heap[b]?) : w'.ownsRow B e sz v n xs := by
  refine ⟨h.1, ?_⟩
  rcases h.2 with h2 | ⟨g, cap, cur, hv, hg, hh, r⟩
  · exact Or.inl h2
  · refine Or.inr ⟨g, cap, cur, hv, hg, ?_, r⟩
    subst hv
    rw [hk g rfl]; exact hh
theorem own_typ {w : World} {B e sz n : Nat} {v : Value} {xs : List Value} (h : w.ownsRow B e sz v n xs) {b : Nat} (hb : v.ownBlock = some b) : ∃ cur, w.heap[b]? = some (.cells cur e (0, 0)) := by
  rcases h.2 with ⟨rfl, _⟩ | ⟨g, cap, cur, rfl, hg, hh, _⟩
  · simp [Value.ownBlock] at hb
  · simp only [Value.ownBlock, Option.some.injEq] at hb
    subst hb; exact ⟨cur, hh⟩
theorem neTP {w : World} {B B' e e' sz sz' n n' : Nat} {v v' : Value} {xs xs' : List Value} (h : w.ownsRow B e sz v n xs) (h' : w.ownsRow B' e' sz' v' n' xs') (hne : e ≠ e') : ∀ b, v.ownBlock = some b → v'.ownBlock ≠ some b := by
  intro b hb eb
  obtain ⟨c1, k1⟩ := own_typ h hb
  obtain ⟨c2, k2⟩ := own_typ h' eb
  rw [k1] at k2
  simp at k2
  exact hne k2.2
theorem neB {w : World} {B e sz n R t : Nat} {v : Value} {xs : List Value} {cs : Array Value} (h : w.ownsRow B e sz v n xs) (hR : w.heap[R]? = some (.cells cs t (0, 0))) (hne : e ≠ t) : v.ownBlock ≠ some R := fun hb => by
  obtain ⟨c1, k1⟩ := own_typ h hb
  rw [k1] at hR
  simp at hR
  exact hne hR.2
theorem FS.below {F : Nat} {s : Sta} {tv qv pv : Value} {es ce : List Ent} {w w' : World} (h : FS F s tv qv pv es ce w) (hb : Below w.heap.size w w') : FS F s tv qv pv es ce w' :=
  ⟨h.er, h.ec, by rw [hb.block _ (hlt h.blk)]; exact h.blk, own_sameP h.txt fun b e => hb.block b (h.txt.lt b e).2, own_sameP h.row fun b e => hb.block b (h.row.lt b e).2,
   fun e he => own_sameP (h.cod e he) fun b k => hb.block b ((h.cod e he).lt b k).2, fun e he => own_sameP (h.loo e he) fun b k => hb.block b ((h.loo e he).lt b k).2, h.apc, h.apl, h.nul, fun e he => by
    obtain ⟨R, h1, h2, h3, h4⟩ := h.now e he
    exact ⟨R, h1, h2, by rw [hb.block _ (hlt h3)]; exact h3, h4⟩⟩
/-- A store into the reader's own block. -/
theorem setF {F j : Nat} {w : World} {v : Value} : ∀ b, b ≠ F → (w.setCell ⟨F, j, none⟩ v).heap[b]? = w.heap[b]? := fun b hb => Below.heap_setCell w ⟨F, j, none⟩ v b hb
theorem FS.setW {F : Nat} {s : Sta} {tv qv pv : Value} {es ce : List Ent} {w : World} (h : FS F s tv qv pv es ce w) (n : Nat) : FS F ⟨n, s.ts, s.rs, s.cur⟩ tv qv pv es ce (w.setCell ⟨F, 0, none⟩ (.int .i64 (n : Int))) := by
  refine ⟨h.er, h.ec, by rw [Joins.block_setCell h.blk]; rfl, own_sameP h.txt fun b e => setF b ?_, own_sameP h.row fun b e => setF b ?_, fun e he => own_sameP (h.cod e he) fun b k => setF b ?_, fun e he => own_sameP (h.loo e he) fun b k => setF b ?_, h.apc, h.apl, h.nul, fun e he => ?_⟩
  · have := (h.txt.lt b e).1; omega
  · have := (h.row.lt b e).1; omega
  · have := ((h.cod e he).lt b k).1; omega
  · have := ((h.loo e he).lt b k).1; omega
  · obtain ⟨R, h1, h2, h3, h4⟩ := h.now e he
    exact ⟨R, h1, h2, by rw [setF R (by omega)]; exact h3, h4⟩
/-- A text behind the texts. -/
theorem FS.addT {F : Nat} {s : Sta} {tv tv' qv pv : Value} {es ce : List Ent} {w w' : World} (h : FS F s tv qv pv es ce w) (hg : w.grownBy w' tv.ownBlock) (x : ByteArray) (hr : w'.ownsRow (F + 1) 9 1 tv' (s.ts.length + 1) (s.ts.map Value.string ++ [.string x])) :
    FS F ⟨s.w, s.ts ++ [x], s.rs, s.cur⟩ tv' qv pv es ce (w'.setCell ⟨F, 1, none⟩ tv') := by
  have key : ∀ b, b < w.heap.size → b ≠ F → tv.ownBlock ≠ some b → (w'.setCell ⟨F, 1, none⟩ tv').heap[b]? = w.heap[b]? := fun b h1 h2 h3 => by rw [setF b h2, hg.block b h1 (fun e => h3 e.symm)]
  refine ⟨h.er, h.ec, ?_, ?_, own_sameP h.row fun b e => key b (h.row.lt b e).2 ?_ ?_, fun e he => own_sameP (h.cod e he) fun b k => key b ((h.cod e he).lt b k).2 ?_ ?_, fun e he => own_sameP (h.loo e he) fun b k => key b ((h.loo e he).lt b k).2 ?_ ?_, h.apc, h.apl, h.nul, fun e he => ?_⟩
  · have hF : w'.heap[F]? = w.heap[F]? := hg.block F (hlt h.blk) (fun e => by have := (h.txt.lt F e.symm).1; omega)
    rw [Joins.block_setCell (hF.trans h.blk)]; rfl
  · have : (s.ts ++ [x]).length = s.ts.length + 1 := by simp
    show World.ownsRow _ _ _ _ _ (s.ts ++ [x]).length ((s.ts ++ [x]).map Value.string)
    rw [this, List.map_append]
    exact own_sameP hr fun b e => setF b (by have := (hr.lt b e).1; omega)
  · have := (h.row.lt b e).1; omega
  · exact neTP h.row h.txt (by decide) b e
  · have := ((h.cod e he).lt b k).1; omega
  · exact neTP (h.cod e he) h.txt (by decide) b k
  · have := ((h.loo e he).lt b k).1; omega
  · exact neTP (h.loo e he) h.txt (by decide) b k
  · obtain ⟨R, h1, h2, h3, h4⟩ := h.now e he
    exact ⟨R, h1, h2, by rw [key R (hlt h3) (by omega) (neB h.txt h3 (by decide))]; exact h3, h4⟩
/-- A record begins. -/
theorem FS.beg {F : Nat} {s : Sta} {tv qv pv : Value} {es : List Ent} {w w' : World} (h : FS F s tv qv pv es [] w) (hb : Below w.heap.size w w') (R : Nat) (o : ByteArray) (hR : w.heap.size ≤ R) (hc : w'.heap[R]? = some (.cells #[.slice none 0 0, .slice none 0 0, .string o] 54 (0, 0))) :
    FS F ⟨s.w, s.ts, s.rs, some ⟨[], [], o⟩⟩ tv qv (.pointer (some ⟨R, 0, none⟩)) es [(.slice none 0 0, .slice none 0 0, ⟨[], [], o⟩)] (w'.setCell ⟨F, 3, none⟩ (.pointer (some ⟨R, 0, none⟩))) := by
  have h' := h.below hb
  have hF := hlt h.blk
  refine ⟨h.er, rfl, by rw [Joins.block_setCell h'.blk]; rfl, own_sameP h'.txt fun b e => setF b ?_, own_sameP h'.row fun b e => setF b ?_, fun e he => ?_, fun e he => ?_, ?_, ?_, fun e => (by cases e), fun e he => ?_⟩
  · have := (h'.txt.lt b e).1; omega
  · have := (h'.row.lt b e).1; omega
  · rcases List.mem_append.1 he with k | k
    · have := h'.cod e (by simp [k])
      exact own_sameP this fun b q => setF b (by have := (this.lt b q).1; omega)
    · rw [List.mem_singleton] at k; subst k; exact World.ownsRow_nil _ _ _ _
  · rcases List.mem_append.1 he with k | k
    · have := h'.loo e (by simp [k])
      exact own_sameP this fun b q => setF b (by have := (this.lt b q).1; omega)
    · rw [List.mem_singleton] at k; subst k; exact World.ownsRow_nil _ _ _ _
  · rw [List.pairwise_append]
    have := h.apc; rw [List.append_nil] at this
    exact ⟨this, List.pairwise_singleton _ _, fun a _ b hb k _ e => by rw [List.mem_singleton] at hb; subst hb; simp [Value.ownBlock] at e⟩
  · rw [List.pairwise_append]
    have := h.apl; rw [List.append_nil] at this
    exact ⟨this, List.pairwise_singleton _ _, fun a _ b hb k _ e => by rw [List.mem_singleton] at hb; subst hb; simp [Value.ownBlock] at e⟩
  · obtain rfl : (.slice none 0 0, .slice none 0 0, ⟨[], [], o⟩) = e := by simpa using he
    exact ⟨R, rfl, by omega, by rw [setF R (by omega)]; exact hc, fun e => by have := (h.row.lt R e).2; omega⟩
/-- The record in work: one instruction more. -/
theorem FS.addI {F : Nat} {s : Sta} {tv qv pv : Value} {es : List Ent} {c l : Value} {r : T3} {w w' : World} (h : FS F s tv qv pv es [(c, l, r)] w) (hg : w.grownBy w' c.ownBlock) (i : I3) {g cap R : Nat} (hp : pv = .pointer (some ⟨R, 0, none⟩))
    (hr : w'.ownsRow (F + 1) 56 3 (.slice (some ⟨g, 0, none⟩) (r.code.length + 1) cap) (r.code.length + 1) (insC r.code ++ [.int .i64 i.op, .string i.text, .int .i64 i.n])) (hat : c.ownBlock = some g ∨ g = w.heap.size) :
    FS F ⟨s.w, s.ts, s.rs, some ⟨r.code ++ [i], r.looks, r.out⟩⟩ tv qv pv es [(.slice (some ⟨g, 0, none⟩) (r.code.length + 1) cap, l, ⟨r.code ++ [i], r.looks, r.out⟩)] (w'.setCell ⟨R, 0, none⟩ (.slice (some ⟨g, 0, none⟩) (r.code.length + 1) cap)) := by
  obtain ⟨R', e1, hFR, hRc, hqR⟩ := h.now _ rfl
  obtain rfl : R = R' := by rw [hp] at e1; simpa using e1
  have hcm := h.cod (c, l, r) (by simp)
  have hlm := h.loo (c, l, r) (by simp)
  have key : ∀ b, b < w.heap.size → b ≠ R → c.ownBlock ≠ some b → (w'.setCell ⟨R, 0, none⟩ (.slice (some ⟨g, 0, none⟩) (r.code.length + 1) cap)).heap[b]? = w.heap[b]? := fun b h1 h2 h3 => by rw [setF b h2, hg.block b h1 (fun e => h3 e.symm)]
  have hcR : c.ownBlock ≠ some R := neB hcm hRc (by decide)
  have hR' : w'.heap[R]? = w.heap[R]? := hg.block R (hlt hRc) (fun e => hcR e.symm)
  have hFc : c.ownBlock ≠ some F := fun e => by have := (hcm.lt F e).1; omega
  refine ⟨h.er, rfl, by rw [key F (hlt h.blk) (by omega) hFc]; exact h.blk, own_sameP h.txt fun b e => key b (h.txt.lt b e).2 ?_ ?_, own_sameP h.row fun b e => key b (h.row.lt b e).2 ?_ ?_, fun e he => ?_, fun e he => ?_, ?_, ?_, fun e => (by cases e), fun e he => ?_⟩
  · rintro rfl; exact neB h.txt hRc (by decide) e
  · exact neTP h.txt hcm (by decide) b e
  · rintro rfl; exact hqR e
  · exact neTP h.row hcm (by decide) b e
  · rcases List.mem_append.1 he with k | k
    · have q := h.cod e (by simp [k])
      refine own_sameP q fun b e' => key b (q.lt b e').2 ?_ ?_
      · rintro rfl; exact neB q hRc (by decide) e'
      · have := (List.pairwise_append.1 h.apc).2.2 e k (c, l, r) (by simp)
        exact this b e'
    · rw [List.mem_singleton] at k; subst k
      show World.ownsRow _ _ _ _ _ (r.code ++ [i]).length (insC (r.code ++ [i]))
      rw [← insC_snoc, show (r.code ++ [i]).length = r.code.length + 1 from by simp]
      refine own_sameP hr fun b e' => setF b ?_
      simp only [Value.ownBlock, Option.some.injEq] at e'
      subst e'
      rcases hat with q | q
      · exact fun e => hcR (e ▸ q)
      · have := hlt hRc; omega
  · have q : w.ownsRow (F + 1) 60 3 e.2.1 e.2.2.looks.length (gloC e.2.2.looks) := by
      rcases List.mem_append.1 he with k | k
      · exact h.loo e (by simp [k])
      · rw [List.mem_singleton] at k; subst k; exact hlm
    refine own_sameP q fun b e' => key b (q.lt b e').2 ?_ ?_
    · rintro rfl; exact neB q hRc (by decide) e'
    · exact neTP q hcm (by decide) b e'
  · obtain ⟨p1, p2, p3⟩ := List.pairwise_append.1 h.apc
    refine List.pairwise_append.2 ⟨p1, List.pairwise_singleton _ _, fun a ha b hb k hk e => ?_⟩
    rw [List.mem_singleton] at hb; subst hb
    simp only [Value.ownBlock, Option.some.injEq] at e
    subst e
    rcases hat with q | q
    · exact p3 a ha (c, l, r) (by simp) _ hk q
    · have := ((h.cod a (by simp [ha])).lt _ hk).2; omega
  · obtain ⟨p1, p2, p3⟩ := List.pairwise_append.1 h.apl
    refine List.pairwise_append.2 ⟨p1, List.pairwise_singleton _ _, fun a ha b hb => ?_⟩
    rw [List.mem_singleton] at hb; subst hb
    exact p3 a ha (c, l, r) (by simp)
  · obtain rfl : (.slice (some ⟨g, 0, none⟩) (r.code.length + 1) cap, l, ⟨r.code ++ [i], r.looks, r.out⟩) = e := by simpa using he
    exact ⟨R, hp, hFR, by rw [Joins.block_setCell (hR'.trans hRc)]; rfl, hqR⟩
/-- The record in work: one look more. -/
theorem FS.addL {F : Nat} {s : Sta} {tv qv pv : Value} {es : List Ent} {c l : Value} {r : T3} {w w' : World} (h : FS F s tv qv pv es [(c, l, r)] w) (hg : w.grownBy w' l.ownBlock) (i : G3) {g cap R : Nat} (hp : pv = .pointer (some ⟨R, 0, none⟩))
    (hr : w'.ownsRow (F + 1) 60 3 (.slice (some ⟨g, 0, none⟩) (r.looks.length + 1) cap) (r.looks.length + 1) (gloC r.looks ++ [.string i.name, .bool i.ask, .string i.sum])) (hat : l.ownBlock = some g ∨ g = w.heap.size) :
    FS F ⟨s.w, s.ts, s.rs, some ⟨r.code, r.looks ++ [i], r.out⟩⟩ tv qv pv es [(c, .slice (some ⟨g, 0, none⟩) (r.looks.length + 1) cap, ⟨r.code, r.looks ++ [i], r.out⟩)] (w'.setCell ⟨R, 1, none⟩ (.slice (some ⟨g, 0, none⟩) (r.looks.length + 1) cap)) := by
  obtain ⟨R', e1, hFR, hRc, hqR⟩ := h.now _ rfl
  obtain rfl : R = R' := by rw [hp] at e1; simpa using e1
  have hcm := h.cod (c, l, r) (by simp)
  have hlm := h.loo (c, l, r) (by simp)
  have key : ∀ b, b < w.heap.size → b ≠ R → l.ownBlock ≠ some b → (w'.setCell ⟨R, 1, none⟩ (.slice (some ⟨g, 0, none⟩) (r.looks.length + 1) cap)).heap[b]? = w.heap[b]? := fun b h1 h2 h3 => by rw [setF b h2, hg.block b h1 (fun e => h3 e.symm)]
  have hcR : l.ownBlock ≠ some R := neB hlm hRc (by decide)
  have hR' : w'.heap[R]? = w.heap[R]? := hg.block R (hlt hRc) (fun e => hcR e.symm)
  have hFc : l.ownBlock ≠ some F := fun e => by have := (hlm.lt F e).1; omega
  refine ⟨h.er, rfl, by rw [key F (hlt h.blk) (by omega) hFc]; exact h.blk, own_sameP h.txt fun b e => key b (h.txt.lt b e).2 ?_ ?_, own_sameP h.row fun b e => key b (h.row.lt b e).2 ?_ ?_, fun e he => ?_, fun e he => ?_, ?_, ?_, fun e => (by cases e), fun e he => ?_⟩
  · rintro rfl; exact neB h.txt hRc (by decide) e
  · exact neTP h.txt hlm (by decide) b e
  · rintro rfl; exact hqR e
  · exact neTP h.row hlm (by decide) b e
  · have q : w.ownsRow (F + 1) 56 3 e.1 e.2.2.code.length (insC e.2.2.code) := by
      rcases List.mem_append.1 he with k | k
      · exact h.cod e (by simp [k])
      · rw [List.mem_singleton] at k; subst k; exact hcm
    refine own_sameP q fun b e' => key b (q.lt b e').2 ?_ ?_
    · rintro rfl; exact neB q hRc (by decide) e'
    · exact neTP q hlm (by decide) b e'
  · rcases List.mem_append.1 he with k | k
    · have q := h.loo e (by simp [k])
      refine own_sameP q fun b e' => key b (q.lt b e').2 ?_ ?_
      · rintro rfl; exact neB q hRc (by decide) e'
      · have := (List.pairwise_append.1 h.apl).2.2 e k (c, l, r) (by simp)
        exact this b e'
    · rw [List.mem_singleton] at k; subst k
      show World.ownsRow _ _ _ _ _ (r.looks ++ [i]).length (gloC (r.looks ++ [i]))
      rw [← gloC_snoc, show (r.looks ++ [i]).length = r.looks.length + 1 from by simp]
      refine own_sameP hr fun b e' => setF b ?_
      simp only [Value.ownBlock, Option.some.injEq] at e'
      subst e'
      rcases hat with q | q
      · exact fun e => hcR (e ▸ q)
      · have := hlt hRc; omega
  · obtain ⟨p1, p2, p3⟩ := List.pairwise_append.1 h.apc
    refine List.pairwise_append.2 ⟨p1, List.pairwise_singleton _ _, fun a ha b hb => ?_⟩
    rw [List.mem_singleton] at hb; subst hb
    exact p3 a ha (c, l, r) (by simp)
  · obtain ⟨p1, p2, p3⟩ := List.pairwise_append.1 h.apl
    refine List.pairwise_append.2 ⟨p1, List.pairwise_singleton _ _, fun a ha b hb k hk e => ?_⟩
    rw [List.mem_singleton] at hb; subst hb
    simp only [Value.ownBlock, Option.some.injEq] at e
    subst e
    rcases hat with q | q
    · exact p3 a ha (c, l, r) (by simp) _ hk q
    · have := ((h.loo a (by simp [ha])).lt _ hk).2; omega
  · obtain rfl : (c, .slice (some ⟨g, 0, none⟩) (r.looks.length + 1) cap, ⟨r.code, r.looks ++ [i], r.out⟩) = e := by simpa using he
    exact ⟨R, hp, hFR, by rw [Joins.block_setCell (hR'.trans hRc)]; rfl, hqR⟩
/-- The record in work is ended. -/
theorem FS.fin {F : Nat} {s : Sta} {tv qv qv' pv : Value} {es : List Ent} {e : Ent} {w w' : World} (h : FS F s tv qv pv es [e] w) (hg : w.grownBy w' qv.ownBlock)
    (hr : w'.ownsRow (F + 1) 54 3 qv' (es.length + 1) (es.flatMap entC ++ entC e)) :
    FS F ⟨s.w, s.ts, s.rs ++ [e.2.2], none⟩ tv qv' (.pointer none) (es ++ [e]) [] ((w'.setCell ⟨F, 2, none⟩ qv').setCell ⟨F, 3, none⟩ (.pointer none)) := by
  have key : ∀ b, b < w.heap.size → b ≠ F → qv.ownBlock ≠ some b → ((w'.setCell ⟨F, 2, none⟩ qv').setCell ⟨F, 3, none⟩ (.pointer none)).heap[b]? = w.heap[b]? := fun b h1 h2 h3 => by rw [setF b h2, setF b h2, hg.block b h1 (fun e => h3 e.symm)]
  have hF : w'.heap[F]? = w.heap[F]? := hg.block F (hlt h.blk) (fun e => by have := (h.row.lt F e.symm).1; omega)
  have b1 : (w'.setCell ⟨F, 2, none⟩ qv').heap[F]? = some (.cells #[.int .i64 (s.w : Int), tv, qv', pv] 35 (0, 0)) := by rw [Joins.block_setCell (hF.trans h.blk)]; rfl
  refine ⟨by rw [List.map_append, h.er]; rfl, rfl, by rw [Joins.block_setCell b1]; rfl, own_sameP h.txt fun b e => key b (h.txt.lt b e).2 ?_ ?_, ?_, fun x hx => ?_, fun x hx => ?_, ?_, ?_, fun _ => rfl, fun e he => (by cases he)⟩
  · have := (h.txt.lt b e).1; omega
  · exact neTP h.txt h.row (by decide) b e
  · rw [show (es ++ [e]).length = es.length + 1 from by simp, show (es ++ [e]).flatMap entC = es.flatMap entC ++ entC e from by simp]
    exact own_sameP hr fun b e => by rw [setF b (by have := (hr.lt b e).1; omega), setF b (by have := (hr.lt b e).1; omega)]
  · have q := h.cod x (by simpa using hx)
    exact own_sameP q fun b e => key b (q.lt b e).2 (by have := (q.lt b e).1; omega) (neTP q h.row (by decide) b e)
  · have q := h.loo x (by simpa using hx)
    exact own_sameP q fun b e => key b (q.lt b e).2 (by have := (q.lt b e).1; omega) (neTP q h.row (by decide) b e)
  · rw [List.append_nil]; exact h.apc
  · rw [List.append_nil]; exact h.apl

end Go.Proofs.YtikdgmmloiegjaaGreatDoor
