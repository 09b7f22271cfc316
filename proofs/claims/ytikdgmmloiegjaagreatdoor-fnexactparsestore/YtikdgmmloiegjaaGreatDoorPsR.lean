import Derived.Test.YtikdgmmloiegjaaGreatDoorPsO
import Derived.Test.YtikdgmmloiegjaaGreatDoorOrd
namespace Go.Proofs.YtikdgmmloiegjaaGreatDoor
open Go.RowKit
set_option linter.unusedVariables false

/-- A call of one argument at a step of a region. -/
theorem step_call1 {f : Nat} {xi : Nat} {ty : TypeId} {W : World} {ops : Array Oper} {o : Oper} {a : Act} {K : Act → World → Prop} {Q : Exit → Act → World → Prop} {E : Prop} (hgd : o.guard = none)
    (ho : o.op = .call { callee := .value (.func f), args := #[.tmp xi], argTypes := #[ty] }) (v1 : Value) (hx : a.eval (.tmp xi) = v1) {P : Value → World → Prop} (hc : Calls Tryz.prog f #[v1] W fun e w' => ∃ v, e = .returned v ∧ P v w') (hfn : ∀ W : World, (callFunc f #[v1]).run Tryz.prog W = .ok (.enter f #[v1]) W) (h : ∀ v w', P v w' → K (a.put o.dst v) w') :
    if Region.wanted o (yielded ops a.tmps) = true then Oper.wp Tryz.prog o a W K Q else E := by
  have hw : Region.wanted o (yielded ops a.tmps) = true := by simp [Region.wanted, hgd]
  have hrun : (execOp a.eval o).run Tryz.prog W = .ok (.enter f #[v1]) W := by
    unfold execOp
    rw [ho]
    simp [Act.eval] at hx
    simp [go_sem, Act.eval, hx]
    exact hfn W
  rw [if_pos hw]
  unfold Oper.wp
  rw [hrun, Oper.upon_enter]
  refine hc.mono ?_
  rintro e w' ⟨v, rfl, hp⟩
  exact h v w' hp
/-- The lines. -/
def LN (g : Nat) (T : List (List UInt8)) (w : World) : Prop := ∀ i (h : i < T.length), w.cell? ⟨g, i, none⟩ = some (.string ⟨T[i].toArray⟩)
theorem LN.same {g : Nat} {T : List (List UInt8)} {w w' : World} (h : LN g T w) (e : w'.heap[g]? = w.heap[g]?) : LN g T w' := fun i hi => (World.cell?_of_block (a := ⟨g, i, none⟩) e).trans (h i hi)
theorem LN.of_own {g B n cap : Nat} {T : List (List UInt8)} {w : World} (hn : n = T.length) (h : w.ownsRow B 9 1 (.slice (some ⟨g, 0, none⟩) n cap) n (strC T)) : LN g T w := fun i hi => by
  rw [h.cellAt _ (by omega)]
  unfold strC
  rw [List.getElem?_map, List.getElem?_eq_getElem hi]; rfl
theorem split_len : ∀ (n : Nat) (S : List UInt8), S.length ≤ n → ∀ l ∈ splitL S, l.length ≤ n
  | n, S, h, l, hl => by
    induction hk : S.length using Nat.strongRecOn generalizing S with
    | _ m ih =>
      subst hk
      cases hf : (cutL 10 S).2.2 with
      | true =>
        rw [split_yes hf] at hl
        have hc := cutL_len 10 S
        rcases List.mem_cons.1 hl with e | e
        · subst e; omega
        · exact ih _ (hc.2.2 hf) _ (by omega) e rfl
      | false =>
        rw [split_no hf, List.mem_singleton] at hl
        subst hl; exact h
theorem split_count : ∀ (S : List UInt8), (splitL S).length ≤ S.length + 1 := by
  intro S
  induction hk : S.length using Nat.strongRecOn generalizing S with
  | _ m ih =>
    subst hk
    cases hf : (cutL 10 S).2.2 with
    | true =>
      rw [split_yes hf]
      have hc := cutL_len 10 S
      have := ih _ (hc.2.2 hf) _ rfl
      have h2 := hc.2.2 hf
      simp; omega
    | false => rw [split_no hf]; simp
/-- Where the loop stands. -/
structure Rt (w : World) (F B g : Nat) (T : List (List UInt8)) (s : LS) (tv qv : Value) (es : List Ent) (wr : World) : Prop where
  rs : RS F B s tv qv es wr
  ln : LN g T wr
  rb : RB w.heap.size wr
  bl : Below w.heap.size w wr
  sz : B ≤ wr.heap.size
  gB : g < B
  gF : g ≠ F
  wF : w.heap.size < F
theorem Rt.next {w wr w' : World} {F B g : Nat} {T : List (List UInt8)} {s s' : LS} {tv qv tv' qv' : Value} {es es' : List Ent} (h : Rt w F B g T s tv qv es wr) (hf : FrB F B wr w') (hr : RS F B s' tv' qv' es' w') (hb : Below w.heap.size w w') (hs : B ≤ w'.heap.size) : Rt w F B g T s' tv' qv' es' w' :=
  ⟨hr, h.ln.same (hf g h.gB h.gF), by have := h.wF; have := h.rs.fb; unfold RB; rw [hf w.heap.size (by omega) (by omega)]; exact h.rb, hb, hs, h.gB, h.gF, h.wF⟩
theorem Rt.below {w wr w' : World} {F B g : Nat} {T : List (List UInt8)} {s : LS} {tv qv : Value} {es : List Ent} (h : Rt w F B g T s tv qv es wr) (hb : Below wr.heap.size wr w') : Rt w F B g T s tv qv es w' :=
  h.next (FrB.of_below h.sz hb) (h.rs.below hb) (h.bl.trans (hb.mono h.bl.size)) (by have := hb.size; have := h.sz; omega)
theorem Rt.setW {w wr : World} {F B g : Nat} {T : List (List UInt8)} {s : LS} {tv qv : Value} {es : List Ent} (h : Rt w F B g T s tv qv es wr) (n : Int) : Rt w F B g T ⟨n, s.ts, s.rs⟩ tv qv es (wr.setCell ⟨F, 0, none⟩ (.int .i64 n)) :=
  h.next (FrB.setA _) (h.rs.setW n) (h.bl.setCell (p := ⟨F, 0, none⟩) (Nat.le_of_lt h.wF) _) (by simpa using h.sz)
theorem Rt.grownB {w wr w' : World} {F B g : Nat} {T : List (List UInt8)} {s : LS} {tv qv : Value} {es : List Ent} (h : Rt w F B g T s tv qv es wr) {e sz n : Nat} {v : Value} {xs : List Value} (ho : wr.ownsRow B e sz v n xs) (hg : wr.grownBy w' v.ownBlock) : Below w.heap.size w w' :=
  h.bl.grown hg h.bl.size (fun k hk => by have := (ho.lt k hk).1; have := h.wF; have := h.rs.fb; omega)
theorem Rt.keepF {w wr w' : World} {F B g : Nat} {T : List (List UInt8)} {s : LS} {tv qv : Value} {es : List Ent} (h : Rt w F B g T s tv qv es wr) {e sz n : Nat} {v : Value} {xs : List Value} (ho : wr.ownsRow B e sz v n xs) (hg : wr.grownBy w' v.ownBlock) : w'.heap[F]? = some (.cells #[.int .i64 s.w, tv, qv] 25 (0, 0)) := by
  rw [hg.block F h.rs.lt (fun e => by have := (ho.lt F e.symm).1; have := h.rs.fb; omega)]; exact h.rs.blk
theorem Rt.addT {w wr w' : World} {F B g : Nat} {T : List (List UInt8)} {s : LS} {tv tv' qv : Value} {es : List Ent} (h : Rt w F B g T s tv qv es wr) (hg : wr.grownBy w' tv.ownBlock) (x : ByteArray) (hr : w'.ownsRow B 9 1 tv' (s.ts.length + 1) (s.ts.map Value.string ++ [.string x])) : Rt w F B g T ⟨s.w, s.ts ++ [x], s.rs⟩ tv' qv es (w'.setCell ⟨F, 1, none⟩ tv') :=
  h.next ((FrB.grown h.sz h.rs.txt hg).trans (FrB.setA _)) (h.rs.addT hg x hr) ((h.grownB h.rs.txt hg).setCell (p := ⟨F, 1, none⟩) (Nat.le_of_lt h.wF) _) (by have := hg.size; have := h.sz; simp; omega)
theorem Rt.addR {w wr w' : World} {F B g : Nat} {T : List (List UInt8)} {s : LS} {tv qv qv' : Value} {es : List Ent} (h : Rt w F B g T s tv qv es wr) (hg : wr.grownBy w' qv.ownBlock) (o : ByteArray) (hr : w'.ownsRow B 54 3 qv' (es.length + 1) (es.flatMap entC ++ [.slice none 0 0, .slice none 0 0, .string o])) : Rt w F B g T ⟨s.w, s.ts, s.rs ++ [⟨[], [], o⟩]⟩ tv qv' (es ++ [(.slice none 0 0, .slice none 0 0, ⟨[], [], o⟩)]) (w'.setCell ⟨F, 2, none⟩ qv') :=
  h.next ((FrB.grown h.sz h.rs.row hg).trans (FrB.setA _)) (h.rs.addR hg o hr) ((h.grownB h.rs.row hg).setCell (p := ⟨F, 2, none⟩) (Nat.le_of_lt h.wF) _) (by have := hg.size; have := h.sz; simp; omega)
theorem Rt.addI {w wr w' : World} {F B g q qc : Nat} {T : List (List UInt8)} {sw : Int} {sts : List ByteArray} {rs : List T3} {tv c l : Value} {es : List Ent} {r : T3} (h : Rt w F B g T ⟨sw, sts, rs ++ [r]⟩ tv (.slice (some ⟨q, 0, none⟩) (es.length + 1) qc) (es ++ [(c, l, r)]) wr) (hg : wr.grownBy w' c.ownBlock) (i : I3) {g' cap : Nat}
    (hr : w'.ownsRow B 56 3 (.slice (some ⟨g', 0, none⟩) (r.code.length + 1) cap) (r.code.length + 1) (insC r.code ++ [.int .i64 i.op, .string i.text, .int .i64 i.n])) (hat : c.ownBlock = some g' ∨ g' = wr.heap.size) :
    Rt w F B g T ⟨sw, sts, rs ++ [⟨r.code ++ [i], r.looks, r.out⟩]⟩ tv (.slice (some ⟨q, 0, none⟩) (es.length + 1) qc) (es ++ [(.slice (some ⟨g', 0, none⟩) (r.code.length + 1) cap, l, ⟨r.code ++ [i], r.looks, r.out⟩)]) (w'.setCell ⟨q, es.length * 3, none⟩ (.slice (some ⟨g', 0, none⟩) (r.code.length + 1) cap)) := by
  have hc := h.rs.cod (c, l, r) (by simp)
  have hq := (h.rs.row.lt q rfl).1
  have := h.wF
  have := h.rs.fb
  exact h.next ((FrB.grown h.sz hc hg).trans (FrB.setUp hq _)) (h.rs.addI hg i hr hat) ((h.grownB hc hg).setCell (p := ⟨q, es.length * 3, none⟩) (by show w.heap.size ≤ q; omega) _) (by have := hg.size; have := h.sz; simp; omega)
theorem Rt.addL {w wr w' : World} {F B g q qc : Nat} {T : List (List UInt8)} {sw : Int} {sts : List ByteArray} {rs : List T3} {tv c l : Value} {es : List Ent} {r : T3} (h : Rt w F B g T ⟨sw, sts, rs ++ [r]⟩ tv (.slice (some ⟨q, 0, none⟩) (es.length + 1) qc) (es ++ [(c, l, r)]) wr) (hg : wr.grownBy w' l.ownBlock) (i : G3) {g' cap : Nat}
    (hr : w'.ownsRow B 60 3 (.slice (some ⟨g', 0, none⟩) (r.looks.length + 1) cap) (r.looks.length + 1) (gloC r.looks ++ [.string i.name, .bool i.ask, .string i.sum])) (hat : l.ownBlock = some g' ∨ g' = wr.heap.size) :
    Rt w F B g T ⟨sw, sts, rs ++ [⟨r.code, r.looks ++ [i], r.out⟩]⟩ tv (.slice (some ⟨q, 0, none⟩) (es.length + 1) qc) (es ++ [(c, .slice (some ⟨g', 0, none⟩) (r.looks.length + 1) cap, ⟨r.code, r.looks ++ [i], r.out⟩)]) (w'.setCell ⟨q, es.length * 3 + 1, none⟩ (.slice (some ⟨g', 0, none⟩) (r.looks.length + 1) cap)) := by
  have hc := h.rs.loo (c, l, r) (by simp)
  have hq := (h.rs.row.lt q rfl).1
  have := h.wF
  have := h.rs.fb
  exact h.next ((FrB.grown h.sz hc hg).trans (FrB.setUp hq _)) (h.rs.addL hg i hr hat) ((h.grownB hc hg).setCell (p := ⟨q, es.length * 3 + 1, none⟩) (by show w.heap.size ≤ q; omega) _) (by have := hg.size; have := h.sz; simp; omega)
/-- The cells of the last record. -/
theorem RS.last {F B q qc : Nat} {s : LS} {tv c l : Value} {es : List Ent} {r : T3} {w : World} (h : RS F B s tv (.slice (some ⟨q, 0, none⟩) (es.length + 1) qc) (es ++ [(c, l, r)]) w) : w.cell? ⟨q, es.length * 3, none⟩ = some c ∧ w.cell? ⟨q, es.length * 3 + 1, none⟩ = some l ∧ w.frozen? ⟨q, es.length * 3, none⟩ = false ∧ w.frozen? ⟨q, es.length * 3 + 1, none⟩ = false := by
  have h1 := h.row
  rw [show (es ++ [(c, l, r)]).length = es.length + 1 from by simp] at h1
  have e : ∀ j, j < 3 → ((es ++ [(c, l, r)]).flatMap entC)[es.length * 3 + j]? = (entC (c, l, r))[j]? := fun j hj => by
    rw [List.flatMap_append, List.getElem?_append_right (by rw [entC_len]; omega), entC_len, show es.length * 3 + j - es.length * 3 = j by omega]; simp
  refine ⟨?_, ?_, h1.frozenAt _, h1.frozenAt _⟩
  · rw [h1.cellAt _ (by omega)]; exact e 0 (by omega)
  · rw [h1.cellAt _ (by omega)]; exact e 1 (by omega)
theorem beg_at (x h : ByteArray) (b : Bool) (hb : begins h.data.toList x.data.toList = b) (hx : x.size ≤ 1048576) (hh : h.size ≤ 100) (w : World) : Calls Tryz.prog 21 #[.string x, .string h] w fun e w' => e = .returned (.bool b) ∧ w = w' := hb ▸ l7Begins_any x h w hx hh
/-- A write elsewhere. -/
theorem RS.setR {F B b j : Nat} {s : LS} {tv qv : Value} {es : List Ent} {w : World} (h : RS F B s tv qv es w) (hb : b < B) (hF : b ≠ F) (v : Value) : RS F B s tv qv es (w.setCell ⟨b, j, none⟩ v) := by
  have k : ∀ x, x ≠ b → (w.setCell ⟨b, j, none⟩ v).heap[x]? = w.heap[x]? := fun x hx => Below.heap_setCell w ⟨b, j, none⟩ v x hx
  exact ⟨h.er, h.fb, by rw [k F (Ne.symm hF)]; exact h.blk, own_sameP h.txt fun x e => k x (by have := (h.txt.lt x e).1; omega), own_sameP h.row fun x e => k x (by have := (h.row.lt x e).1; omega),
   fun e he => own_sameP (h.cod e he) fun x q => k x (by have := ((h.cod e he).lt x q).1; omega), fun e he => own_sameP (h.loo e he) fun x q => k x (by have := ((h.loo e he).lt x q).1; omega), h.apc, h.apl⟩

end Go.Proofs.YtikdgmmloiegjaaGreatDoor
