import Derived.Test.YtjdjhenijihpfaaGreatDoorDrB
import Derived.Deep.DeepCutAuto
namespace Go.Proofs.YtjdjhenijihpfaaGreatDoor
open Go.RowKit
set_option linter.unusedVariables false
set_option maxRecDepth 100000
theorem Tryz.info80D : (Tryz.prog.info? 84).map (fun i => (i.zero, i.size, i.bytes)) = some (some (.agg #[.int .i64 0, .string ⟨#[]⟩, .int .i64 0]), 3, 32) := by kernel_rfl
theorem Ow.gb {w0 w w' : World} {g n c R : Nat} {is : List I3} (h : Ow w0 w g n c is) (hg : w.grownBy w' (some R)) (hR : R < w0.heap.size) : Ow w0 w' g n c is := ⟨h.ln, own_keepD h.row (fun b hb hlt => hg.block b hlt (fun e => by injection e with e; omega)), h.tx⟩
theorem RdK.below {B R : Nat} {a : Option Addr} {len cap p K : Nat} {w0 w w' : World} (h : RdK B R a len cap p K w0 w) (hB : B ≤ w0.heap.size) (hb : Below w.heap.size w w') : RdK B R a len cap p K w0 w' := by
  obtain ⟨h1, p', h2, h3⟩ := h
  exact ⟨gb_below h1 hb, p', h2, h3.below (Nat.le_trans hB h1.size) hb⟩
theorem RdK.more {B R : Nat} {a : Option Addr} {len cap p K K' : Nat} {w0 w : World} (h : RdK B R a len cap p K w0 w) (hK : K ≤ K') : RdK B R a len cap p K' w0 w := by
  obtain ⟨h1, p', h2, h3⟩ := h
  exact ⟨h1, p', by omega, h3⟩
theorem RdK.then {B R : Nat} {a : Option Addr} {len cap p p' K K' : Nat} {w0 w w' : World} (h : w0.grownBy w (some R)) (hp : p' ≤ p + K) (k : RdK B R a len cap p' K' w w') : RdK B R a len cap p (K + K') w0 w' := by
  obtain ⟨h1, q, h2, h3⟩ := k
  exact ⟨gb_fresh h h1, q, by omega, h3⟩
theorem RdK.pick {B R : Nat} {a : Option Addr} {len cap p K : Nat} {w0 w : World} (h : RdK B R a len cap p K w0 w) (hp : p + K ≤ 90000) (n : Int) (hn : 1 ≤ n) (hn2 : n ≤ 1000) :
    Calls Tryz.prog 19 #[.pointer (some ⟨R, 0, none⟩), .int .i64 n] w fun e w' => ∃ x : Nat, e = .returned (.int .i64 x) ∧ (x : Int) < n ∧ RdK B R a len cap p (K + 1) w0 w' ∧ w.grownBy w' (some R) := by
  obtain ⟨h1, p', h2, h3⟩ := h
  refine (pick_int w B R a len cap p' n h3 (by omega) hn hn2).mono ?_
  rintro e w' ⟨x, rfl, hx, hr, hg⟩
  exact ⟨x, rfl, hx, ⟨gb_fresh h1 hg, p' + 1, by omega, hr⟩, hg⟩
theorem RdK.text {B R : Nat} {a : Option Addr} {len cap p K : Nat} {w0 w : World} (h : RdK B R a len cap p K w0 w) (hB : B ≤ w0.heap.size) (hp : p + K ≤ 90000) :
    Calls Tryz.prog 23 #[.pointer (some ⟨R, 0, none⟩)] w fun e w' => ∃ s : ByteArray, e = .returned (.string s) ∧ s.size ≤ 10 ∧ RdK B R a len cap p (K + 10) w0 w' ∧ w.grownBy w' (some R) := by
  obtain ⟨h1, p', h2, h3⟩ := h
  refine (l1Text_any w B R a len cap p' h3 (Nat.le_trans hB h1.size) (by omega)).mono ?_
  rintro e w' ⟨s, q, rfl, hs, hr, hq, hg⟩
  exact ⟨s, rfl, hs, ⟨gb_fresh h1 hg, q, by omega, hr⟩, hg⟩
theorem RdK.name {B R : Nat} {a : Option Addr} {len cap p K : Nat} {w0 w : World} (h : RdK B R a len cap p K w0 w) (hB : B ≤ w0.heap.size) (hp : p + K ≤ 90000) :
    Calls Tryz.prog 18 #[.pointer (some ⟨R, 0, none⟩)] w fun e w' => ∃ s : ByteArray, e = .returned (.string s) ∧ s.size ≤ 10 ∧ RdK B R a len cap p (K + 1) w0 w' ∧ w.grownBy w' (some R) := by
  obtain ⟨h1, p', h2, h3⟩ := h
  refine (l2Name_any w B R a len cap p' h3 (Nat.le_trans hB h1.size) (by omega)).mono ?_
  rintro e w' ⟨s, rfl, hs, hg, q, hq, hr⟩
  exact ⟨s, rfl, hs, ⟨gb_fresh h1 hg, q, by omega, hr⟩, hg⟩
/-- What an append to a row of our own leaves. -/
theorem Ow.app {B R : Nat} {a : Option Addr} {len cap p K : Nat} {w0 w wa w8 : World} {g n c k : Nat} {is js : List I3} {news : List Value} {v8 : Value} (hA : Below w.heap.size w wa) (h : Ow w0 w g n c is) (hK : RdK B R a len cap p K w0 w) (hB : B ≤ w0.heap.size) (hR : R < w0.heap.size) (hn : news = insC js) (hk : k = js.length) (h0 : 0 < k) (ht : ∀ x ∈ js, x.text.size ≤ 50000)
    (hown : w8.ownsRow w0.heap.size 84 3 v8 (n + k) (insC is ++ news)) (hg : wa.grownBy w8 (Value.slice (some ⟨g, 0, none⟩) n c).ownBlock) :
    ∃ g8 c8, v8 = .slice (some ⟨g8, 0, none⟩) (n + k) c8 ∧ Ow w0 w8 g8 (n + k) c8 (is ++ js) ∧ RdK B R a len cap p K w0 w8 := by
  obtain ⟨h1, p', h2, h3⟩ := hK
  have hgB : w0.heap.size ≤ g := by
    rcases h.row.2 with ⟨q, _⟩ | ⟨g1, cap1, cur, q, hg, _⟩
    · cases q
    · simp only [Value.slice.injEq, Option.some.injEq, Addr.mk.injEq] at q; omega
  have hs := h1.size
  obtain ⟨g8, c8, rfl⟩ : ∃ g8 c8, v8 = .slice (some ⟨g8, 0, none⟩) (n + k) c8 := by
    rcases hown.2 with ⟨_, q⟩ | ⟨g1, cap1, cur, q, _⟩
    · omega
    · exact ⟨g1, cap1, q⟩
  subst hn
  rw [← insC_app] at hown
  refine ⟨g8, c8, rfl, ⟨by rw [List.length_append, h.ln, hk], hown, fun x hx => ?_⟩, gb_trans (gb_below h1 hA) hg (by intro b hb; simp [Value.ownBlock] at hb; omega), p', h2, (h3.below (by omega) hA).kept (by have := hA.size; omega) hg (by intro b hb; simp [Value.ownBlock] at hb; omega)⟩
  rcases List.mem_append.mp hx with q | q
  · exact h.tx x q
  · exact ht x q
theorem insC_setN : ∀ (is : List I3) (i : Nat) (m : Int), i < is.length → (insC is).set (i * 3 + 2) (.int .i64 m) = insC (is.set i ⟨(ix is i).op, (ix is i).text, m⟩)
  | [], i, m, h => by simp at h
  | e :: r, 0, m, h => by
    simp [insC, insC1, ix]
  | e :: r, i + 1, m, h => by
    have := insC_setN r i m (by simpa using h)
    unfold insC at this ⊢
    rw [List.set_cons_succ, List.flatMap_cons, List.flatMap_cons, List.set_append_right _ _ (by simp [insC1]; omega)]
    have e1 : (i + 1) * 3 + 2 - (insC1 e).length = i * 3 + 2 := by simp [insC1]; omega
    rw [e1, this]
    rfl
theorem Ow.setN {B R : Nat} {a : Option Addr} {len cap p K : Nat} {w0 w : World} {g n c : Nat} {is : List I3} (h : Ow w0 w g n c is) (hK : RdK B R a len cap p K w0 w) (hB : B ≤ w0.heap.size) (hR : R < w0.heap.size) (i : Nat) (hi : i < n) (m : Int) :
    Ow w0 (w.setCell ⟨g, i * 3 + 2, none⟩ (.int .i64 m)) g n c (is.set i ⟨(ix is i).op, (ix is i).text, m⟩) ∧ RdK B R a len cap p K w0 (w.setCell ⟨g, i * 3 + 2, none⟩ (.int .i64 m)) ∧ (∃ v, w.cell? ⟨g, i * 3 + 2, none⟩ = some v) ∧ ∀ j, w.frozen? ⟨g, j, none⟩ = false := by
  obtain ⟨h1, p', h2, h3⟩ := hK
  have hgB : w0.heap.size ≤ g := by
    rcases h.row.2 with ⟨q, _⟩ | ⟨g1, cap1, cur, q, hg, _⟩
    · cases q
    · simp only [Value.slice.injEq, Option.some.injEq, Addr.mk.injEq] at q; omega
  have hl := h.ln
  have hst := h.row.stored (i * 3 + 2) (.int .i64 m)
  rw [insC_setN is i m (by omega)] at hst
  have hsz := h1.size
  refine ⟨⟨by rw [List.length_set]; exact hl, hst.1, fun x hx => ?_⟩, ⟨gb_trans h1 (grown_setCell _ _ _ _) (by intro b hb; cases hb; omega), p', h2, h3.kept (by omega) (grown_setCell _ _ _ _) (by intro b hb; cases hb; omega)⟩, ?_, fun j => h.row.frozenAt j⟩
  · rcases List.mem_or_eq_of_mem_set hx with q | q
    · exact h.tx x q
    · subst q
      have : ix is i ∈ is := by
        have e : ix is i = is[i]'(by omega) := by simp [ix, List.getD_eq_getElem?_getD, (by omega : i < is.length)]
        rw [e]; exact List.getElem_mem _
      exact h.tx (ix is i) this
  · rw [h.row.cellAt (i * 3 + 2) (by omega)]
    exact ⟨_, List.getElem?_eq_getElem (by rw [insC_length]; omega)⟩
end Go.Proofs.YtjdjhenijihpfaaGreatDoor
