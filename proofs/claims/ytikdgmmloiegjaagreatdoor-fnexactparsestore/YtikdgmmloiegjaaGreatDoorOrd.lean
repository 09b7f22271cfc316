import Derived.Test.YtikdgmmloiegjaaGreatDoorPsK
import Derived.Test.YtikdgmmloiegjaaGreatDoorProg
import Derived.WalkKit
import Derived.Deep.RegionHeld3
import Derived.Deep.AppendLies
namespace Go.Proofs.YtikdgmmloiegjaaGreatDoor
open Go.RowKit
set_option linter.unusedVariables false

theorem word_free10 : ∀ o, o < 16 → (10 : UInt8) ∉ (wordB o).data.toList := by decide +kernel
theorem hexd_ne10 : ∀ j, j < 16 → hexd j ≠ 10 := by decide +kernel
theorem qbyte_free10 (u : UInt8) : (10 : UInt8) ∉ qbyte u := by
  have hu : u.toNat < 256 := UInt8.toNat_lt u
  unfold qbyte
  split
  · rename_i h
    intro e
    rw [List.mem_singleton] at e
    subst e
    revert h; decide
  · intro e
    simp only [List.mem_cons, List.not_mem_nil, or_false] at e
    rcases e with e | e | e
    · revert e; decide
    · exact hexd_ne10 (u.toNat / 16) (by omega) e.symm
    · exact hexd_ne10 (u.toNat % 16) (by omega) e.symm
theorem quote_free10 (l : List UInt8) : (10 : UInt8) ∉ quoteL l := by
  intro e
  unfold quoteL at e
  simp only [List.mem_append, List.mem_singleton, List.mem_flatMap] at e
  rcases e with (e | ⟨u, _, e⟩) | e
  · revert e; decide
  · exact qbyte_free10 u e
  · revert e; decide
theorem dec_free10 (n : Nat) : (10 : UInt8) ∉ Lib.decDigits n := by
  intro e
  have := (dec_digit _ _ e).1
  revert this; decide
theorem hex_free10 : ∀ l : List UInt8, (10 : UInt8) ∉ hexbL l
  | [] => by simp [hexbL]
  | u :: l => by
    have hu : u.toNat < 256 := UInt8.toNat_lt u
    rw [hexbL_cons]
    intro e
    rcases List.mem_cons.1 e with e | e
    · exact hexd_ne10 (u.toNat / 16) (by omega) e.symm
    · rcases List.mem_cons.1 e with e | e
      · exact hexd_ne10 (u.toNat % 16) (by omega) e.symm
      · exact hex_free10 l e
theorem line_free10 {i : I3} (h : insOk i = true) : (10 : UInt8) ∉ lineL i := by
  obtain ⟨o, ho, o1, o2⟩ := ok_op h
  have hw := word_free10 i.op.toNat (by omega)
  unfold lineL
  intro e
  rcases List.mem_append.1 e with e | e
  · exact hw e
  · split at e
    · rcases List.mem_cons.1 e with e | e
      · revert e; decide
      · exact quote_free10 _ e
    · split at e
      · cases e
      · rcases List.mem_cons.1 e with e | e
        · revert e; decide
        · exact dec_free10 _ e
theorem free_app {a b : List UInt8} (ha : (10 : UInt8) ∉ a) (hb : (10 : UInt8) ∉ b) : (10 : UInt8) ∉ a ++ b := fun e => (List.mem_append.1 e).elim ha hb
theorem name_free {c : UInt8} (hc : c.toNat < 33) {s : ByteArray} (h : NameOk s) : c ∉ s.data.toList := by
  intro e
  obtain ⟨j, hj, ej⟩ := List.mem_iff_getElem.1 e
  rw [toList_len] at hj
  have := (h.2.2 j hj).1
  have e2 : s[j] = c := ej
  rw [e2] at this
  omega
theorem gl_at {n : Nat} {r : T3} (h : RcOk n r) {g : G3} (hg : g ∈ r.looks) : GlOk n g := by
  obtain ⟨j, hj, rfl⟩ := List.mem_iff_getElem.1 hg
  have := h.2.2.2 j hj
  unfold gx at this
  rwa [List.getD_eq_getElem?_getD, List.getElem?_eq_getElem hj] at this
theorem in_at {r : T3} (h : progOk r.code = true) {i : I3} (hi : i ∈ r.code) : insOk i = true := by
  obtain ⟨j, hj, rfl⟩ := List.mem_iff_getElem.1 hi
  simp only [progOk, Bool.and_eq_true, decide_eq_true_eq] at h
  have := h.2 j hj
  unfold ix at this
  rwa [List.getD_eq_getElem?_getD, List.getElem?_eq_getElem hj] at this
theorem rc_at {n : Nat} {ts : List ByteArray} {rs : List T3} (h : StoOk n ts rs) {r : T3} (hr : r ∈ rs) : RcOk n r := by
  obtain ⟨j, hj, rfl⟩ := List.mem_iff_getElem.1 hr
  have := h.2.2 j hj
  unfold qx at this
  rwa [List.getD_eq_getElem?_getD, List.getElem?_eq_getElem hj] at this
theorem rc_fit {n : Nat} {r : T3} (h : RcOk n r) : RecFit r := ⟨fun i hi => in_at h.1 hi, fun g hg => name_free (by decide) (gl_at h hg).1⟩
theorem rc_fine {n : Nat} (hn : 1 ≤ n) {r : T3} (h : RcOk n r) : fineR r := by
  refine ⟨fun e => ?_, fun g hg e => ?_⟩
  · have h1 := h.2.1
    rw [← toList_len, e] at h1
    simp at h1; omega
  · have h1 := (gl_at h hg).2
    rw [← toList_len, e] at h1
    simp at h1; omega
theorem sto_free {n : Nat} {ts : List ByteArray} {rs : List T3} (h : StoOk n ts rs) : ∀ l ∈ stoLs n ts rs, (10 : UInt8) ∉ l := by
  intro l hl
  unfold stoLs at hl
  rcases List.mem_append.1 hl with hl | hl
  · rcases List.mem_append.1 hl with hl | hl
    · rw [List.mem_singleton] at hl; subst hl
      exact free_app (by decide) (dec_free10 _)
    · obtain ⟨x, _, rfl⟩ := List.mem_map.1 hl
      exact free_app (by decide) (quote_free10 _)
  · obtain ⟨r, hr, hl⟩ := List.mem_flatMap.1 hl
    have hr := rc_at h hr
    unfold recLs at hl
    rcases List.mem_append.1 hl with hl | hl
    · rcases List.mem_append.1 hl with hl | hl
      · rcases List.mem_append.1 hl with hl | hl
        · rw [List.mem_singleton] at hl; subst hl
          exact free_app (by decide) (hex_free10 _)
        · obtain ⟨i, hi, rfl⟩ := List.mem_map.1 hl
          exact free_app (by decide) (line_free10 (in_at hr.1 hi))
      · obtain ⟨g, hg, rfl⟩ := List.mem_map.1 hl
        exact free_app (free_app (free_app (free_app (by split <;> decide) (by decide)) (name_free (by decide) (gl_at hr hg).1)) (by decide)) (hex_free10 _)
    · rw [List.mem_singleton] at hl; subst hl; decide
theorem split_flat : ∀ (ls : List (List UInt8)), (∀ l ∈ ls, (10 : UInt8) ∉ l) → splitL (flatN ls) = ls ++ [[]]
  | [], _ => by simp [flatN, splitL]
  | l :: ls, h => by
    have e : flatN (l :: ls) = l ++ 10 :: flatN ls := by simp [flatN, nl]
    rw [e, split_at _ (h l (by simp)), split_flat ls (fun x hx => h x (by simp [hx]))]
    rfl
theorem flat_split : ∀ (ls : List (List UInt8)) (S : List UInt8), splitL S = ls ++ [[]] → S = flatN ls
  | [], S, h => by
    cases hf : (cutL 10 S).2.2 with
    | true =>
      rw [split_yes hf] at h
      have := List.cons.inj h
      exact absurd this.2 (split_ne _)
    | false =>
      rw [split_no hf] at h
      have := List.cons.inj h
      rw [this.1]; rfl
  | l :: ls, S, h => by
    cases hf : (cutL 10 S).2.2 with
    | true =>
      rw [split_yes hf] at h
      obtain ⟨h1, h2⟩ := List.cons.inj h
      have := flat_split ls _ h2
      have e := cutL_yes hf
      rw [h1, this] at e
      rw [e]; simp [flatN, nl]
    | false =>
      rw [split_no hf] at h
      have := List.cons.inj h
      have h2 := congrArg List.length this.2
      simp at h2
/-- The loose reading. -/
noncomputable def lsOf (S : List UInt8) : LS := lsRead (splitL S) ⟨0, [], []⟩
theorem acc_loose {S : List UInt8} {s : Sta} (h : Acc S s) : lsOf S = ⟨s.w, s.ts, s.rs⟩ ∧ prB s.w s.ts s.rs = bB S := by
  obtain ⟨hl, ls, m, h1, h2, h3, h4⟩ := h
  have hw1 := h4.1
  have hw2 := h4.2.1
  have hst : StoOk s.w s.ts s.rs := by simpa using h4.2.2
  have hfine : fine s := ⟨fun r hr => rc_fine (by omega) (rc_at hst hr), fun r hr => by rw [h3] at hr; simp [curL] at hr⟩
  have hne : ls ≠ [] := by
    rintro rfl
    have h2' : some (Md.head, sta0) = some (m, s) := h2
    obtain ⟨_, rfl⟩ := Prod.mk.inj (Option.some.inj h2')
    simp [sta0] at hw1
  have e := back_store h2 h3 hfine hne
  have eS := flat_split ls S h1
  have hfit : ∀ r ∈ s.rs, RecFit r := fun r hr => rc_fit (rc_at hst hr)
  refine ⟨?_, ?_⟩
  · unfold lsOf
    rw [h1, e]
    exact lsR_store (by omega) s.ts hfit
  · unfold prB
    have e3 : flatN (stoLs (s.w : Int).toNat s.ts s.rs) = S := by
      rw [eS, e]; rfl
    rw [e3, if_pos ⟨h4, hl⟩]
theorem loose_acc {S : List UInt8} (hS : S ≠ []) (h : prB (lsOf S).w (lsOf S).ts (lsOf S).rs = bB S) : Acc S ⟨(lsOf S).w.toNat, (lsOf S).ts, (lsOf S).rs, none⟩ ∧ 0 ≤ (lsOf S).w := by
  generalize lsOf S = s at *
  unfold prB at h
  split at h
  · rename_i hc
    obtain ⟨hw, hl⟩ := hc
    have e : flatN (stoLs s.w.toNat s.ts s.rs) = S := by
      have := congrArg (fun b : ByteArray => b.data.toList) h
      simpa [bB] using this
    have h1 := hw.1
    have h2 := hw.2.1
    obtain ⟨m, hm, hf⟩ := fold_store (n := s.w.toNat) (by omega) s.ts (rs := s.rs) (fun r hr => rc_fit (rc_at hw.2.2 hr))
    refine ⟨⟨by rw [← e]; exact hl, stoLs s.w.toNat s.ts s.rs, m, ?_, hf, rfl, ?_⟩, by omega⟩
    · rw [← e]; exact split_flat _ (sto_free hw.2.2)
    · show WdOk ((s.w.toNat : Nat) : Int) s.ts s.rs
      rw [Int.toNat_of_nonneg (by omega)]; exact hw
  · exfalso
    apply hS
    have := congrArg (fun b : ByteArray => b.data.toList) h
    simpa [bB] using this.symm
theorem acc_ne {S : List UInt8} {s : Sta} (h : Acc S s) : S ≠ [] := by
  rintro rfl
  obtain ⟨hl, ls, m, h1, h2, h3, h4⟩ := h
  have e : splitL [] = [[]] := by simp [splitL]
  rw [e] at h1
  have : ls = [] := by
    cases ls with
    | nil => rfl
    | cons a l => simp at h1
  subst this
  have h2' : some (Md.head, sta0) = some (m, s) := h2
  obtain ⟨_, rfl⟩ := Prod.mk.inj (Option.some.inj h2')
  have := h4.1
  simp [sta0] at this

end Go.Proofs.YtikdgmmloiegjaaGreatDoor
namespace Go.Proofs.YtikdgmmloiegjaaGreatDoor
open Go.RowKit

section
variable {P : Program} {ops : Array Oper} {Q : Exit → Act → World → Prop} {S : World → Prop} {z : Nat}

/-- Whatever order is picked; S holds behind every operation but number z. -/
def Lt (P : Program) (ops : Array Oper) (Q : Exit → Act → World → Prop) (S : World → Prop) (z : Nat) : Nat → Array Bool → Act → World → Prop
  | 0, l, a, w => Region.ready .any ops l = [] ∧ Q .normal a w
  | n + 1, l, a, w => (Region.ready .any ops l = [] → Q .normal a w) ∧ ∀ i ∈ Region.ready .any ops l, wpOp P ops Q i (fun a' w' => (i ≠ z → S w') ∧ Lt P ops Q S z n (l.setIfInBounds i true) a' w') a w
theorem Lt.any : ∀ (n : Nat) (l : Array Bool) (a : Act) (w : World), Lt P ops Q S z n l a w → wpAny P .any ops Q n l a w
  | 0, _, _, _, h => h
  | n + 1, _, _, _, h => ⟨h.1, fun i hi => wpOp_mono (fun a' w' h' => Lt.any n _ a' w' h'.2) (h.2 i hi)⟩
theorem Lt.begin {id : Nat} {a : Act} {w : World} (z : Nat) (S : World → Prop) (hm : P.follows .mixedOrders = true) (h : Lt P ops Q S z ops.size (Array.replicate ops.size false) a w.drew) : (Code.region id ops true).wp P Q a w := wp_region_any hm (Lt.any _ _ _ _ h)
theorem Lt.done {l : Array Bool} {a : Act} {w : World} (hr : Region.ready .any ops l = []) (h : Q .normal a w) : ∀ n, Lt P ops Q S z n l a w
  | 0 => ⟨hr, h⟩
  | _ + 1 => ⟨fun _ => h, by rw [hr]; simp⟩
theorem Lt.step {i : Nat} {o : Oper} {n : Nat} {l : Array Bool} {a : Act} {w : World} (hr : Region.ready .any ops l = [i]) (ho : ops[i]? = some o)
    (h : ∀ K : Act → World → Prop, Shut (∀ a w, (i ≠ z → S w) → ((i ≠ z → S w) → Lt P ops Q S z n (l.setIfInBounds i true) a w) → K a w) → if Region.wanted o (yielded ops a.tmps) = true then Oper.wp P o a w K Q else K (a.put o.dst undef) w) : Lt P ops Q S z (n + 1) l a w := by
  refine ⟨fun h0 => (by rw [hr] at h0; cases h0), fun j hj => ?_⟩
  rw [hr] at hj
  obtain rfl : j = i := by simpa using hj
  exact wpOp_step ho (fun K hK => h K (fun a w hS hW => hK a w ⟨hS, hW hS⟩))
theorem Lt.take1 {i : Nat} {oi : Oper} {v : Value} (hi : ops[i]? = some oi) (hsel : ∀ (j : Nat) (o : Oper) cs b, ops[j]? = some o → o.op ≠ .select cs b)
    (hQ : ∀ c a w, Q (.panic c) (a.put oi.dst v) w → Q (.panic c) a w) (hz : ∀ oz, ops[z]? = some oz → ∃ e ∈ oz.after, Region.binds .any e = true ∧ e.on = i) :
    ∀ (n : Nat) (l : Array Bool) (a : Act) (w : World),
      (∀ j oj, ops[j]? = some oj → j ≠ i → l.getD j true = false → (∀ e ∈ oj.after, Region.binds .any e = true → e.on ≠ i) → oi.apart ops oj = true) →
      i ∈ Region.ready .any ops l → YieldsIf P ops S oi v a → S w → Lt P ops Q S z n (l.setIfInBounds i true) (a.put oi.dst v) w → Lt P ops Q S z (n + 1) l a w := by
  intro n
  induction n with
  | zero =>
    intro l a w _ hr hy hS H
    refine ⟨fun h => (by rw [h] at hr; cases hr), fun j hj => ?_⟩
    rcases Decidable.em (j = i) with rfl | hji
    · exact hy.wpOp hi hS ⟨fun _ => hS, H⟩
    · exact absurd (H.1 ▸ ready_mono hj hji) (by simp)
  | succ n ih =>
    intro l a w hf hr hy hS H
    refine ⟨fun h => (by rw [h] at hr; cases hr), fun j hj => ?_⟩
    rcases Decidable.em (j = i) with rfl | hji
    · exact hy.wpOp hi hS ⟨fun _ => hS, H⟩
    obtain ⟨hj0, oj, hoj, hall⟩ := mem_ready.1 hj
    have hno : ∀ e ∈ oj.after, Region.binds .any e = true → e.on ≠ i := fun e he hb heq => by
      have h1 := hall e he hb
      have h0 := (mem_ready.1 hr).1
      rw [heq] at h1
      rcases Nat.lt_or_ge i l.size with h' | h'
      · simp [h'] at h0 h1; rw [h0] at h1; cases h1
      · simp [Array.getElem?_eq_none h'] at h1
    have hjz : j ≠ z := fun e => by
      subst e
      obtain ⟨ed, h1, h2, h3⟩ := hz oj hoj
      exact hno ed h1 h2 h3
    have hf2 : ∀ k ok, ops[k]? = some ok → k ≠ i → (l.setIfInBounds j true).getD k true = false → (∀ e ∈ ok.after, Region.binds .any e = true → e.on ≠ i) → oi.apart ops ok = true := fun k ok hk hki hun hn => by
      refine hf k ok hk hki ?_ hn
      rcases Decidable.em (j = k) with rfl | hjk
      · exact hj0
      · rw [getD_set_ne true hjk] at hun; exact hun
    refine wpOp_mono (fun a' w' h3 => ⟨h3.2.1, ih (l.setIfInBounds j true) a' w' hf2 (ready_mono hr (Ne.symm hji)) h3.1 (h3.2.1 hjz) ?_⟩) (wpOp_putIf hoj (hf j oj hoj hji hj0 hno) (fun cs b => hsel i oi cs b hi) (fun cs b => hsel j oj cs b hoj) hQ hy (H.2 j (ready_mono hj hji)))
    rw [Array.setIfInBounds_comm _ _ hji]
    exact h3.2.2
def waits (ops : Array Oper) (z i : Nat) : Bool := match ops[z]? with
  | some o => o.after.any fun e => Region.binds .any e && e.on == i
  | none => true
theorem waits_spec {i : Nat} (h : waits ops z i = true) : ∀ oz, ops[z]? = some oz → ∃ e ∈ oz.after, Region.binds .any e = true ∧ e.on = i := by
  intro oz hoz
  unfold waits at h
  rw [hoz] at h
  obtain ⟨k, hk, he⟩ := Array.any_eq_true.1 h
  simp at he
  exact ⟨_, Array.getElem_mem hk, he.1, he.2⟩
theorem Lt.take {i : Nat} {oi : Oper} {v : Value} {n : Nat} {l : Array Bool} {a : Act} {w : World} (hi : ops[i]? = some oi) (hs : Region.noSelect ops = true) (hf : Region.free .any ops l i = true) (hr : (Region.ready .any ops l).contains i = true) (hz : waits ops z i = true)
    (hQ : ∀ c a w, Q (.panic c) (a.put oi.dst v) w → Q (.panic c) a w) (hS : S w) (hy : YieldsIf P ops S oi v a) (h : Lt P ops Q S z n (l.setIfInBounds i true) (a.put oi.dst v) w) : Lt P ops Q S z (n + 1) l a w :=
  Lt.take1 hi (Region.noSelect_spec hs) hQ (waits_spec hz) n l a w (Region.free_spec hi hf) (by simpa using hr) hy hS h
end

end Go.Proofs.YtikdgmmloiegjaaGreatDoor
