import Derived.Test.YtjdjhenijihpfaaGreatDoorEdF
namespace Go.Proofs.YtjdjhenijihpfaaGreatDoor
open Go.RowKit Go.Deep
set_option linter.unusedVariables false

section
variable {P : Program} {ops : Array Oper} {Q : Exit → Act → World → Prop} {S : World → Prop} {z : Nat}
/-- Two operations are ready: both ways. -/
theorem Lt.two {i j : Nat} {oi oj : Oper} {n : Nat} {l : Array Bool} {a : Act} {w : World} (hr : Region.ready .any ops l = [i, j]) (hi : ops[i]? = some oi) (hj : ops[j]? = some oj)
    (h1 : ∀ K : Act → World → Prop, Shut (∀ a w, (i ≠ z → S w) → ((i ≠ z → S w) → Lt P ops Q S z n (l.setIfInBounds i true) a w) → K a w) → if Region.wanted oi (yielded ops a.tmps) = true then Oper.wp P oi a w K Q else K (a.put oi.dst undef) w)
    (h2 : ∀ K : Act → World → Prop, Shut (∀ a w, (j ≠ z → S w) → ((j ≠ z → S w) → Lt P ops Q S z n (l.setIfInBounds j true) a w) → K a w) → if Region.wanted oj (yielded ops a.tmps) = true then Oper.wp P oj a w K Q else K (a.put oj.dst undef) w) : Lt P ops Q S z (n + 1) l a w := by
  refine ⟨fun h0 => (by rw [hr] at h0; cases h0), fun m hm => ?_⟩
  rw [hr] at hm
  rcases List.mem_cons.1 hm with q | q
  · subst q
    exact wpOp_step hi (fun K hK => h1 K (fun a w hS hW => hK a w ⟨hS, hW hS⟩))
  · obtain rfl : m = j := by simpa using q
    exact wpOp_step hj (fun K hK => h2 K (fun a w hS hW => hK a w ⟨hS, hW hS⟩))
end
theorem tcV_setC : ∀ (l : List TC) (i : Nat) (c : Value) (is : List I3), i < l.length → (tcV l).set (i * 2 + 1) c = tcV (l.set i ⟨⟨(cx l i).t.name, is⟩, c⟩)
  | [], i, c, is, h => by simp at h
  | e :: r, 0, c, is, h => rfl
  | e :: r, i + 1, c, is, h => by
    have ih := tcV_setC r i c is (by simpa using h)
    have e1 : cx (e :: r) (i + 1) = cx r i := rfl
    rw [e1, List.set_cons_succ]
    show (Value.string e.t.name :: e.c :: tcV r).set ((i + 1) * 2 + 1) c = Value.string e.t.name :: e.c :: tcV (r.set i _)
    rw [show (i + 1) * 2 + 1 = (i * 2 + 1) + 1 + 1 by omega, List.set_cons_succ, List.set_cons_succ, ih]
theorem tcV_setX : ∀ (l : List TC) (i : Nat) (x : TC), i < l.length → ((tcV l).set (i * 2) (.string x.t.name)).set (i * 2 + 1) x.c = tcV (l.set i x)
  | [], i, x, h => by simp at h
  | e :: r, 0, x, h => rfl
  | e :: r, i + 1, x, h => by
    have ih := tcV_setX r i x (by simpa using h)
    rw [List.set_cons_succ]
    show ((Value.string e.t.name :: e.c :: tcV r).set ((i + 1) * 2) _).set ((i + 1) * 2 + 1) x.c = Value.string e.t.name :: e.c :: tcV (r.set i _)
    rw [show (i + 1) * 2 = i * 2 + 1 + 1 by omega, List.set_cons_succ, List.set_cons_succ, List.set_cons_succ, List.set_cons_succ, ih]
theorem srcV_setT : ∀ (l : List S2) (i : Nat) (t : ByteArray), i < l.length → (srcV l).set (i * 2 + 1) (.string t) = srcV (l.set i ⟨(sx l i).name, t⟩)
  | [], i, t, h => by simp at h
  | e :: r, 0, t, h => rfl
  | e :: r, i + 1, t, h => by
    have ih := srcV_setT r i t (by simpa using h)
    have e1 : sx (e :: r) (i + 1) = sx r i := rfl
    rw [e1, List.set_cons_succ]
    show (Value.string e.name :: Value.string e.text :: srcV r).set ((i + 1) * 2 + 1) _ = Value.string e.name :: Value.string e.text :: srcV (r.set i _)
    rw [show (i + 1) * 2 + 1 = (i * 2 + 1) + 1 + 1 by omega, List.set_cons_succ, List.set_cons_succ, ih]
theorem srcV_setN : ∀ (l : List S2) (i : Nat) (t : ByteArray), i < l.length → (srcV l).set (i * 2) (.string t) = srcV (l.set i ⟨t, (sx l i).text⟩)
  | [], i, t, h => by simp at h
  | e :: r, 0, t, h => rfl
  | e :: r, i + 1, t, h => by
    have ih := srcV_setN r i t (by simpa using h)
    have e1 : sx (e :: r) (i + 1) = sx r i := rfl
    rw [e1, List.set_cons_succ]
    show (Value.string e.name :: Value.string e.text :: srcV r).set ((i + 1) * 2) _ = Value.string e.name :: Value.string e.text :: srcV (r.set i _)
    rw [show (i + 1) * 2 = i * 2 + 1 + 1 by omega, List.set_cons_succ, List.set_cons_succ, ih]
theorem mem_setL {α : Type} {p : α → Prop} {l : List α} {i : Nat} {x : α} (h : ∀ a ∈ l, p a) (hx : p x) : ∀ a ∈ l.set i x, p a := fun a ha => by
  rcases List.mem_or_eq_of_mem_set ha with q | q
  · exact h a q
  · rw [q]; exact hx
section
variable {V : World} {P lo g cap : Nat} {v1 v2 : Value} {l1 : List S2} {l2 : List TC}
/-- A target's code is set. -/
theorem Sw.setC (h : Sw V P lo v1 (.slice (some ⟨g, 0, none⟩) l2.length cap) l1 l2) (i : Nat) (hi : i < l2.length) {c : Value} {is : List I3} (hc : V.ownsRow lo 84 3 c is.length (insC is)) (hl : is.length ≤ 400) (hx : ∀ x ∈ is, x.text.size ≤ 50000) :
    Sw (V.setCell ⟨g, i * 2 + 1, none⟩ c) P lo v1 (.slice (some ⟨g, 0, none⟩) l2.length cap) l1 (l2.set i ⟨⟨(cx l2 i).t.name, is⟩, c⟩) := by
  have hst := h.dw.t.stored (i * 2 + 1) c
  rw [tcV_setC l2 i c is hi] at hst
  have hP : P ≠ g := fun e => h.noR.2 (by rw [e]; rfl)
  refine ⟨?_, ⟨own_set2 h.dw.s h.dw.t (by decide) c, by rw [List.length_set]; exact hst.1, fun a ha => ?_⟩, ⟨h.bd.n1, by rw [List.length_set]; exact h.bd.n2, h.bd.s, mem_setL h.bd.t ⟨(h.bd.t _ (cx_mem hi)).1, hl, hx⟩⟩, h.ge⟩
  · exact blk_set h.blk hP c
  · rcases List.mem_or_eq_of_mem_set ha with q | q
    · exact own_set2 (h.dw.c a q) h.dw.t (by decide) c
    · rw [q]; exact own_set2 hc h.dw.t (by decide) c
/-- A target is set. -/
theorem Sw.setX (h : Sw V P lo v1 (.slice (some ⟨g, 0, none⟩) l2.length cap) l1 l2) (i : Nat) (hi : i < l2.length) {x : TC} (hc : V.ownsRow lo 84 3 x.c x.t.code.length (insC x.t.code)) (hx : x.t.name.size ≤ 50000 ∧ x.t.code.length ≤ 400 ∧ ∀ y ∈ x.t.code, y.text.size ≤ 50000) :
    Sw ((V.setCell ⟨g, i * 2, none⟩ (.string x.t.name)).setCell ⟨g, i * 2 + 1, none⟩ x.c) P lo v1 (.slice (some ⟨g, 0, none⟩) l2.length cap) l1 (l2.set i x) := by
  have hs1 := (h.dw.t.stored (i * 2) (.string x.t.name)).1
  have hst := hs1.stored (i * 2 + 1) x.c
  rw [tcV_setX l2 i x hi] at hst
  have hP : P ≠ g := fun e => h.noR.2 (by rw [e]; rfl)
  refine ⟨?_, ⟨own_set2 (own_set2 h.dw.s h.dw.t (by decide) _) hs1 (by decide) _, by rw [List.length_set]; exact hst.1, fun a ha => ?_⟩, ⟨h.bd.n1, by rw [List.length_set]; exact h.bd.n2, h.bd.s, mem_setL h.bd.t hx⟩, h.ge⟩
  · exact blk_set (blk_set h.blk hP _) hP _
  · rcases List.mem_or_eq_of_mem_set ha with q | q
    · exact own_set2 (own_set2 (h.dw.c a q) h.dw.t (by decide) _) hs1 (by decide) _
    · rw [q]; exact own_set2 (own_set2 hc h.dw.t (by decide) _) hs1 (by decide) _
/-- A source's text is set. -/
theorem Sw.setT (h : Sw V P lo (.slice (some ⟨g, 0, none⟩) l1.length cap) v2 l1 l2) (i : Nat) (hi : i < l1.length) {t : ByteArray} (ht : t.size ≤ 50000) :
    Sw (V.setCell ⟨g, i * 2 + 1, none⟩ (.string t)) P lo (.slice (some ⟨g, 0, none⟩) l1.length cap) v2 (l1.set i ⟨(sx l1 i).name, t⟩) l2 := by
  have hst := h.dw.s.stored (i * 2 + 1) (.string t)
  rw [srcV_setT l1 i t hi] at hst
  have hP : P ≠ g := fun e => h.noR.1 (by rw [e]; rfl)
  refine ⟨?_, ⟨by rw [List.length_set]; exact hst.1, own_set2 h.dw.t h.dw.s (by decide) _, fun a ha => own_set2 (h.dw.c a ha) h.dw.s (by decide) _⟩, ⟨by rw [List.length_set]; exact h.bd.n1, h.bd.n2, mem_setL h.bd.s ⟨(h.bd.s _ (sx_mem hi)).1, ht⟩, h.bd.t⟩, h.ge⟩
  exact blk_set h.blk hP _
/-- A source's name is set. -/
theorem Sw.setN (h : Sw V P lo (.slice (some ⟨g, 0, none⟩) l1.length cap) v2 l1 l2) (i : Nat) (hi : i < l1.length) {t : ByteArray} (ht : t.size ≤ 50000) :
    Sw (V.setCell ⟨g, i * 2, none⟩ (.string t)) P lo (.slice (some ⟨g, 0, none⟩) l1.length cap) v2 (l1.set i ⟨t, (sx l1 i).text⟩) l2 := by
  have hst := h.dw.s.stored (i * 2) (.string t)
  rw [srcV_setN l1 i t hi] at hst
  have hP : P ≠ g := fun e => h.noR.1 (by rw [e]; rfl)
  refine ⟨?_, ⟨by rw [List.length_set]; exact hst.1, own_set2 h.dw.t h.dw.s (by decide) _, fun a ha => own_set2 (h.dw.c a ha) h.dw.s (by decide) _⟩, ⟨by rw [List.length_set]; exact h.bd.n1, h.bd.n2, mem_setL h.bd.s ⟨ht, (h.bd.s _ (sx_mem hi)).2⟩, h.bd.t⟩, h.ge⟩
  exact blk_set h.blk hP _
/-- The space is given back. -/
theorem spoil_end {B R : Nat} {a : Option Addr} {len cap' p K b : Nat} {w W : World} {x y : Value} (h : Sw W P w.heap.size v1 v2 l1 l2) (hr : RdK B R a len cap' p K w W) (hB : B ≤ w.heap.size) (hq : W.heap[b]? = some (.cells #[x, y] 26 (0, 0))) (hb : w.heap.size ≤ b) (hK : K ≤ 600) :
    ∃ u1 u2 m1 m2, Ending.returned (.agg #[v1, v2]) = .returned (.agg #[u1, u2]) ∧ Dw ((W.setCell ⟨b, 0, none⟩ v1).setCell ⟨b, 1, none⟩ v2) w.heap.size u1 u2 m1 m2 ∧ BdS m1 m2 ∧ RdK B R a len cap' p 600 w ((W.setCell ⟨b, 0, none⟩ v1).setCell ⟨b, 1, none⟩ v2) :=
  ⟨v1, v2, l1, l2, rfl, h.dw.ret hq, h.bd, ((hr.set hB hb _).set hB hb _).more hK⟩
end
end Go.Proofs.YtjdjhenijihpfaaGreatDoor
