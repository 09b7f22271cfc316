import Derived.Test.YtikdgmmloiegjaaGreatDoorPsB
import Derived.Test.YtikdgmmloiegjaaGreatDoorPsH
import Derived.Test.YtikdgmmloiegjaaGreatDoorPsG
namespace Go.Proofs.YtikdgmmloiegjaaGreatDoor
open Go.RowKit
set_option linter.unusedVariables false

/-- A text that the form reader takes, and what it tells. -/
def Acc (src : List UInt8) (s : Sta) : Prop := src.length ≤ 200000 ∧ ∃ ls m, splitL src = ls ++ [[]] ∧ foldS ls .head sta0 = some (m, s) ∧ s.cur = none ∧ WdOk s.w s.ts s.rs
theorem Acc.unique {src : List UInt8} {s t : Sta} (h : Acc src s) (k : Acc src t) : s = t := by
  obtain ⟨_, ls, m, h1, h2, _⟩ := h
  obtain ⟨_, ls', m', k1, k2, _⟩ := k
  have : ls = ls' := by
    rw [h1] at k1
    exact (List.append_inj' k1 rfl).1
  subst this
  rw [h2] at k2
  exact (Prod.mk.inj (Option.some.inj k2)).2
/-- Where the loop stands. -/
structure Mid (src cur : List UInt8) (dn : List (List UInt8)) (m : Md) (s : Sta) : Prop where
  sp : splitL src = dn ++ splitL cur
  fo : foldS dn .head sta0 = some (m, s)
  le : dn.length + cur.length ≤ src.length
theorem Mid.start (src : List UInt8) : Mid src src [] .head sta0 := ⟨by simp, rfl, by simp⟩
theorem foldS_snoc {dn : List (List UInt8)} {m : Md} {s : Sta} (h : foldS dn .head sta0 = some (m, s)) (l : List UInt8) : foldS (dn ++ [l]) .head sta0 = stepS m s l := by
  rw [foldS_append, h]
  show (match stepS m s l with | none => none | some p => foldS [] p.1 p.2) = _
  cases stepS m s l <;> rfl
theorem Mid.next {src cur : List UInt8} {dn : List (List UInt8)} {m m' : Md} {s s' : Sta} (h : Mid src cur dn m s) (hw : (cutL 10 cur).2.2 = true) (hs : stepS m s (cutL 10 cur).1 = some (m', s')) : Mid src (cutL 10 cur).2.1 (dn ++ [(cutL 10 cur).1]) m' s' := by
  refine ⟨by rw [h.sp, split_yes hw]; simp, by rw [foldS_snoc h.fo]; exact hs, ?_⟩
  have := (cutL_len 10 cur).2.2 hw
  have := h.le
  simp; omega
theorem Mid.bad {src cur : List UInt8} {dn : List (List UInt8)} {m : Md} {s : Sta} (h : Mid src cur dn m s) (hw : (cutL 10 cur).2.2 = true) (hs : stepS m s (cutL 10 cur).1 = none) (t : Sta) : ¬ Acc src t := by
  rintro ⟨_, ls, m', h1, h2, _⟩
  rw [h.sp, split_yes hw] at h1
  have hne := split_ne (cutL 10 cur).2.1
  have e : ls = dn ++ (cutL 10 cur).1 :: (splitL (cutL 10 cur).2.1).dropLast := by
    have := congrArg List.dropLast h1
    rw [List.dropLast_concat] at this
    rw [← this, List.dropLast_append_of_ne_nil (by simp), List.dropLast_cons_of_ne_nil hne]
  rw [e, show dn ++ (cutL 10 cur).1 :: (splitL (cutL 10 cur).2.1).dropLast = (dn ++ [(cutL 10 cur).1]) ++ (splitL (cutL 10 cur).2.1).dropLast from by simp, foldS_append, foldS_snoc h.fo, hs] at h2
  cases h2
theorem Mid.open_ {src cur : List UInt8} {dn : List (List UInt8)} {m : Md} {s : Sta} (h : Mid src cur dn m s) (hc : cur ≠ []) (hw : (cutL 10 cur).2.2 = false) (t : Sta) : ¬ Acc src t := by
  rintro ⟨_, ls, m', h1, _⟩
  rw [h.sp, split_no hw] at h1
  have := (List.append_inj' h1 rfl).2
  exact hc (List.singleton_inj.1 this)
theorem Mid.done {src : List UInt8} {dn : List (List UInt8)} {m : Md} {s : Sta} (h : Mid src [] dn m s) (hl : src.length ≤ 200000) (t : Sta) : Acc src t ↔ t = s ∧ s.cur = none ∧ WdOk s.w s.ts s.rs := by
  have hsp : splitL src = dn ++ [[]] := h.sp
  constructor
  · rintro ⟨_, ls, m', h1, h2, h3, h4⟩
    rw [hsp] at h1
    obtain rfl := (List.append_inj' h1 rfl).1
    rw [h.fo] at h2
    obtain ⟨rfl, rfl⟩ := Prod.mk.inj (Option.some.inj h2)
    exact ⟨rfl, h3, h4⟩
  · rintro ⟨rfl, h3, h4⟩
    exact ⟨hl, dn, m, hsp, h.fo, h3, h4⟩

def SmR (k : Nat) (r : T3) : Prop := r.code.length ≤ k ∧ r.looks.length ≤ k ∧ r.out.size ≤ 200000 ∧ (∀ i ∈ r.code, i.text.size ≤ 200000) ∧ ∀ g ∈ r.looks, g.name.size ≤ 200000 ∧ g.sum.size ≤ 200000
structure Small (k : Nat) (s : Sta) : Prop where
  ts : s.ts.length ≤ k
  rs : s.rs.length ≤ k
  xs : ∀ x ∈ s.ts, x.size ≤ 200000
  rr : ∀ r ∈ s.rs, SmR k r
  cc : ∀ r ∈ curL s.cur, SmR k r
theorem SmR.up {k : Nat} {r : T3} (h : SmR k r) : SmR (k + 1) r := ⟨by have := h.1; omega, by have := h.2.1; omega, h.2.2⟩
theorem Small.up {k : Nat} {s : Sta} (h : Small k s) : Small (k + 1) s := ⟨by have := h.ts; omega, by have := h.rs; omega, h.xs, fun r hr => (h.rr r hr).up, fun r hr => (h.cc r hr).up⟩
theorem Small.start : Small 0 sta0 := ⟨by simp [sta0], by simp [sta0], fun x hx => by simp [sta0] at hx, fun x hx => by simp [sta0] at hx, fun x hx => by simp [sta0, curL] at hx⟩
theorem unhexS_len {d l : List UInt8} (h : unhexS d = some l) : l.length ≤ d.length := by
  rw [unhexS_inv h, hexbL_length]; omega
theorem unqOf_len {t x : List UInt8} (h : unqOf t = some x) : x.length ≤ t.length := by
  rw [← unqOf_ok h]; have := flat_ge x; unfold quoteL; rw [List.length_append, List.length_append]; omega
theorem bsz (l : List UInt8) : (⟨l.toArray⟩ : ByteArray).size = l.length := bytes_size l
theorem small_rec {k : Nat} {m' : Md} {s s' : Sta} {l : List UInt8} (h : Small k s) (hl : l.length ≤ 200000) (hs : stRec s l = some (m', s')) : Small (k + 1) s' := by
  unfold stRec at hs
  split at hs
  · cases hs
  · rename_i o ho
    split at hs
    · obtain ⟨_, rfl⟩ := Prod.mk.inj (Option.some.inj hs)
      have h1 := unhexS_len ho
      have h2 := (cutL_len 32 l).2.1
      refine ⟨h.up.ts, h.up.rs, h.xs, h.up.rr, fun r hr => ?_⟩
      simp only [curL, List.mem_singleton] at hr
      subst hr
      exact ⟨by simp, by simp, by rw [bsz]; omega, fun i hi => by simp at hi, fun g hg => by simp at hg⟩
    · cases hs
theorem small_look {k : Nat} {m' : Md} {s s' : Sta} {r : T3} {l : List UInt8} (h : Small k s) (hr : s.cur = some r) (hl : l.length ≤ 200000) (hs : stLook s r l = some (m', s')) : Small (k + 1) s' := by
  have hc := h.cc r (by rw [hr]; simp [curL])
  unfold stLook at hs
  split at hs
  · obtain ⟨_, rfl⟩ := Prod.mk.inj (Option.some.inj hs)
    refine ⟨h.up.ts, by have := h.rs; simp; omega, h.xs, fun x hx => ?_, fun x hx => by simp [curL] at hx⟩
    rcases List.mem_append.1 hx with q | q
    · exact h.up.rr x q
    · rw [List.mem_singleton] at q; subst q; exact hc.up
  · split at hs
    · cases hs
    · rename_i m hm
      have h1 := unhexS_len hm
      have h2 := (cutL_len 32 l).2.1
      have h3 := cutL_len 32 (cutL 32 l).2.1
      have key : ∀ b, Small (k + 1) ⟨s.w, s.ts, s.rs, some ⟨r.code, r.looks ++ [⟨⟨(cutL 32 (cutL 32 l).2.1).1.toArray⟩, b, ⟨m.toArray⟩⟩], r.out⟩⟩ := fun b => by
        refine ⟨h.up.ts, h.up.rs, h.xs, h.up.rr, fun x hx => ?_⟩
        simp only [curL, List.mem_singleton] at hx
        subst hx
        refine ⟨hc.up.1, by have := hc.2.1; simp; omega, hc.2.2.1, hc.2.2.2.1, fun g hg => ?_⟩
        rcases List.mem_append.1 hg with q | q
        · exact hc.2.2.2.2 g q
        · rw [List.mem_singleton] at q; subst q
          exact ⟨by rw [bsz]; omega, by rw [bsz]; omega⟩
      split at hs
      · obtain ⟨_, rfl⟩ := Prod.mk.inj (Option.some.inj hs); exact key _
      · split at hs
        · obtain ⟨_, rfl⟩ := Prod.mk.inj (Option.some.inj hs); exact key _
        · cases hs
theorem small_step {k : Nat} {m m' : Md} {s s' : Sta} {l : List UInt8} (h : Small k s) (hl : l.length ≤ 200000) (hs : stepS m s l = some (m', s')) : Small (k + 1) s' := by
  cases m with
  | head =>
    have hs' : stHead s l = some (m', s') := hs
    unfold stHead at hs'
    split at hs'
    · cases hs'
    · split at hs'
      · obtain ⟨_, rfl⟩ := Prod.mk.inj (Option.some.inj hs'); exact ⟨h.up.ts, h.up.rs, h.xs, h.up.rr, h.up.cc⟩
      · cases hs'
  | text =>
    have hs' : stText s l = some (m', s') := hs
    unfold stText at hs'
    split at hs'
    · split at hs'
      · cases hs'
      · rename_i x hx
        obtain ⟨_, rfl⟩ := Prod.mk.inj (Option.some.inj hs')
        have h1 := unqOf_len hx
        have h2 := (cutL_len 32 l).2.1
        refine ⟨by have := h.ts; simp; omega, h.up.rs, fun y hy => ?_, h.up.rr, h.up.cc⟩
        rcases List.mem_append.1 hy with q | q
        · exact h.xs y q
        · rw [List.mem_singleton] at q; subst q; rw [bsz]; omega
    · exact small_rec h hl hs'
  | recd => exact small_rec h hl hs
  | ins =>
    cases hc : s.cur with
    | none => unfold stepS at hs; rw [hc] at hs; cases hs
    | some r =>
      have hs' : stIns s r l = some (m', s') := by unfold stepS at hs; rw [hc] at hs; exact hs
      have hr := h.cc r (by rw [hc]; simp [curL])
      unfold stIns at hs'
      split at hs'
      · split at hs'
        · cases hs'
        · rename_i i hx
          obtain ⟨_, rfl⟩ := Prod.mk.inj (Option.some.inj hs')
          refine ⟨h.up.ts, h.up.rs, h.xs, h.up.rr, fun x hx' => ?_⟩
          simp only [curL, List.mem_singleton] at hx'
          subst hx'
          refine ⟨by have := hr.1; simp; omega, hr.up.2.1, hr.2.2.1, fun j hj => ?_, hr.2.2.2.2⟩
          rcases List.mem_append.1 hj with q | q
          · exact hr.2.2.2.1 j q
          · rw [List.mem_singleton] at q; subst q
            have := (rd_ok hx).1
            simp only [insOk, Bool.and_eq_true, decide_eq_true_eq] at this
            have h5 := this.1.1.2
            unfold mostT at h5
            split at h5 <;> omega
      · exact small_look h hc hl hs'
  | look =>
    cases hc : s.cur with
    | none => unfold stepS at hs; rw [hc] at hs; cases hs
    | some r =>
      have hs' : stLook s r l = some (m', s') := by unfold stepS at hs; rw [hc] at hs; exact hs
      exact small_look h hc hl hs'

end Go.Proofs.YtikdgmmloiegjaaGreatDoor
namespace Go.Proofs.YtikdgmmloiegjaaGreatDoor
open Go.RowKit
set_option linter.unusedVariables false

theorem ent_one {ce : List Ent} {r : T3} (h : ce.map (·.2.2) = [r]) : ∃ c l, ce = [(c, l, r)] := by
  match ce, h with
  | [(c, l, r')], h => simp at h; subst h; exact ⟨c, l, rfl⟩
theorem lookAll_any (p : Nat → Addr) (F R : Nat) (s : Sta) (L : List UInt8) (tv qv c l : Value) (r : T3) (es : List Ent) (hL : L.length ≤ 200000) (hk : r.looks.length ≤ 200000) (hk2 : es.length ≤ 200000) (w : World) (hE : EnvF p F w) (hF : FS F s tv qv (.pointer (some ⟨R, 0, none⟩)) es [(c, l, r)] w) :
    Calls Tryz.prog 89 #[.pointer (some ⟨F, 0, none⟩), .string ⟨L.toArray⟩] w fun e w' => Below F w w' ∧ StepR F (stLook s r L) e w' := by
  by_cases hn : L = endL
  · subst hn
    refine (end_any p F R s tv qv c l r es w hF hk2).mono ?_
    rintro e w' ⟨h1, rfl, qv', es', h2⟩
    exact ⟨h1, Or.inr ⟨.recd, _, by unfold stLook; exact if_pos rfl, rfl, _, _, _, _, _, h2⟩⟩
  · exact look_any p F R s L tv qv c l r es w hE hF hL hk hn
theorem meth_any (p : Nat → Addr) (F : Nat) (m : Md) (s : Sta) (L : List UInt8) (tv qv pv : Value) (es ce : List Ent) (w : World) (hE : EnvF p F w) (hF : FS F s tv qv pv es ce w) (hi : InvM m s) (hS : Small 200000 s) (hL : L.length ≤ 200000) :
    Calls Tryz.prog (fnOf m) #[.pointer (some ⟨F, 0, none⟩), .string ⟨L.toArray⟩] w fun e w' => Below F w w' ∧ StepR F (stepS m s L) e w' := by
  have hb := bsz L
  have hes : es.length ≤ 200000 := by have := hS.rs; rw [← hF.er, List.length_map] at this; exact this
  have hnil : s.cur = none → ce = [] := fun h => by have := hF.ec; rw [h] at this; simpa [curL] using this
  cases m with
  | head =>
    have := head_any p F s ⟨L.toArray⟩ tv qv pv es ce w hE hF (by omega)
    rw [bB_eq] at this; exact this
  | text =>
    obtain ⟨h1, h2⟩ : s.rs = [] ∧ s.cur = none := hi
    obtain rfl := hnil h2
    have := text_any p F s ⟨L.toArray⟩ tv qv pv es w hE hF (by omega) hS.ts
    rw [bB_eq] at this; exact this
  | recd =>
    have h2 : s.cur = none := hi
    obtain rfl := hnil h2
    have := begin_any p F s ⟨L.toArray⟩ tv qv pv es w hE hF (by omega)
    rw [bB_eq] at this; exact this
  | ins =>
    obtain ⟨r, hc, _⟩ : ∃ r, s.cur = some r ∧ r.looks = [] := hi
    have he := hF.ec
    rw [hc] at he
    obtain ⟨c, l, rfl⟩ := ent_one (by simpa [curL] using he)
    obtain ⟨R, rfl, _⟩ := hF.now _ rfl
    have hr := hS.cc r (by rw [hc]; simp [curL])
    have hst : stepS .ins s L = stIns s r L := by unfold stepS; rw [hc]
    rw [hst]
    exact ins_any p F R s L tv qv c l r es w hE hF hL hr.1 (fun w' h1 h2 => lookAll_any p F R s L tv qv c l r es hL hr.2.1 hes w' h1 h2)
  | look =>
    obtain ⟨r, hc⟩ : ∃ r, s.cur = some r := hi
    have he := hF.ec
    rw [hc] at he
    obtain ⟨c, l, rfl⟩ := ent_one (by simpa [curL] using he)
    obtain ⟨R, rfl, _⟩ := hF.now _ rfl
    have hr := hS.cc r (by rw [hc]; simp [curL])
    have hst : stepS .look s L = stLook s r L := by unfold stepS; rw [hc]
    rw [hst]
    exact lookAll_any p F R s L tv qv c l r es hL hr.2.1 hes w hE hF

end Go.Proofs.YtikdgmmloiegjaaGreatDoor
