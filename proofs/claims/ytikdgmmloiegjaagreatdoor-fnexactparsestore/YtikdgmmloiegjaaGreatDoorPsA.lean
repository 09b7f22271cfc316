import Derived.Test.YtikdgmmloiegjaaGreatDoorPrA
import Derived.Test.YtikdgmmloiegjaaGreatDoorPaA
namespace Go.Proofs.YtikdgmmloiegjaaGreatDoor
open Go.RowKit
set_option linter.unusedVariables false

/-! ### Sums in digits -/
def unhexS : List UInt8 → Option (List UInt8)
  | [] => some []
  | [_] => none
  | a :: b :: r => if hexI a < 0 ∨ hexI b < 0 then none else (unhexS r).map (UInt8.ofNat ((hexI a).toNat * 16 + (hexI b).toNat) :: ·)
theorem hexbL_cons (u : UInt8) (l : List UInt8) : hexbL (u :: l) = hexd (u.toNat / 16) :: hexd (u.toNat % 16) :: hexbL l := rfl
theorem unhexS_hex (l : List UInt8) : unhexS (hexbL l) = some l := by
  induction l with
  | nil => rfl
  | cons u l ih =>
    have hu : u.toNat < 256 := UInt8.toNat_lt u
    have h1 := hexI_hexd (u.toNat / 16) (by omega)
    have h2 := hexI_hexd (u.toNat % 16) (by omega)
    rw [hexbL_cons]
    unfold unhexS
    rw [if_neg (by rw [h1, h2]; omega), ih, h1, h2]
    show some (UInt8.ofNat (u.toNat / 16 * 16 + u.toNat % 16) :: l) = _
    rw [byte_of_halves]
theorem unhexS_inv : ∀ {d l : List UInt8}, unhexS d = some l → d = hexbL l
  | [], l, h => by
    simp only [unhexS, Option.some.injEq] at h; subst h; rfl
  | [_], l, h => by simp [unhexS] at h
  | a :: b :: r, l, h => by
    unfold unhexS at h
    split at h
    · cases h
    · rename_i hn
      obtain ⟨q, hq, rfl⟩ := Option.map_eq_some_iff.1 h
      have ih := unhexS_inv hq
      rcases hexI_cases a with ha | ⟨x, hx, hax, rfl⟩
      · omega
      · rcases hexI_cases b with hb | ⟨y, hy, hby, rfl⟩
        · omega
        · rw [hexbL_cons, ← ih, hax, hby]
          obtain ⟨g1, g2⟩ := halves x y hx hy
          show _ = hexd ((UInt8.ofNat (x * 16 + y)).toNat / 16) :: hexd ((UInt8.ofNat (x * 16 + y)).toNat % 16) :: r
          rw [g1, g2]
def looseH : List UInt8 → List UInt8
  | [] => []
  | [_] => []
  | a :: b :: r => if 0 ≤ hexI a ∧ 0 ≤ hexI b then UInt8.ofNat (16 * (hexI a).toNat + (hexI b).toNat) :: looseH r else looseH r
theorem looseH_hex (l : List UInt8) : looseH (hexbL l) = l := by
  induction l with
  | nil => rfl
  | cons u l ih =>
    have hu : u.toNat < 256 := UInt8.toNat_lt u
    have h1 := hexI_hexd (u.toNat / 16) (by omega)
    have h2 := hexI_hexd (u.toNat % 16) (by omega)
    rw [hexbL_cons]
    unfold looseH
    rw [if_pos (by rw [h1, h2]; omega), ih, h1, h2]
    congr 1
    show UInt8.ofNat (16 * (u.toNat / 16) + u.toNat % 16) = u
    rw [Nat.mul_comm]; exact byte_of_halves u

open Classical in
noncomputable def numOf (most : Nat) (t : List UInt8) : Option Nat := if h : ∃ n, n ≤ most ∧ Lib.decDigits n = t then some h.choose else none
theorem dec_inj {a b : Nat} (h : Lib.decDigits a = Lib.decDigits b) : a = b := by
  have := num_dec a
  rw [h, num_dec] at this
  omega
theorem numOf_some {most n : Nat} {t : List UInt8} (h1 : n ≤ most) (h2 : Lib.decDigits n = t) : numOf most t = some n := by
  have hx : ∃ n, n ≤ most ∧ Lib.decDigits n = t := ⟨n, h1, h2⟩
  unfold numOf
  rw [dif_pos hx]
  have := hx.choose_spec
  rw [dec_inj (this.2.trans h2.symm)]
theorem numOf_none {most : Nat} {t : List UInt8} (h : ∀ n, n ≤ most → Lib.decDigits n ≠ t) : numOf most t = none := by
  unfold numOf; rw [dif_neg]; rintro ⟨n, h1, h2⟩; exact h n h1 h2
theorem numOf_ok {most n : Nat} {t : List UInt8} (h : numOf most t = some n) : n ≤ most ∧ Lib.decDigits n = t := by
  unfold numOf at h
  split at h
  · rename_i hx
    have := hx.choose_spec
    rwa [Option.some.inj h] at this
  · cases h
theorem quote_injL {x y : List UInt8} (h : quoteL x = quoteL y) : x = y := by
  unfold quoteL at h
  have h1 := List.append_inj' h (by simp)
  have h2 := List.append_cancel_left h1.1
  have := loose_q x
  rw [h2, loose_q] at this
  exact this.symm
open Classical in
noncomputable def unqOf (t : List UInt8) : Option (List UInt8) := if h : ∃ x, quoteL x = t then some h.choose else none
theorem unqOf_some {x t : List UInt8} (h2 : quoteL x = t) : unqOf t = some x := by
  have hx : ∃ x, quoteL x = t := ⟨x, h2⟩
  unfold unqOf
  rw [dif_pos hx]
  have := hx.choose_spec
  rw [quote_injL (this.trans h2.symm)]
theorem unqOf_none {t : List UInt8} (h : ∀ x, quoteL x ≠ t) : unqOf t = none := by
  unfold unqOf; rw [dif_neg]; rintro ⟨n, h1⟩; exact h n h1
theorem unqOf_ok {x t : List UInt8} (h : unqOf t = some x) : quoteL x = t := by
  unfold unqOf at h
  split at h
  · rename_i hx
    have := hx.choose_spec
    rwa [Option.some.inj h] at this
  · cases h

/-! ### The reader of forms -/
inductive Md where
  | head | text | recd | ins | look
structure Sta where
  w : Nat
  ts : List ByteArray
  rs : List T3
  cur : Option T3
def wStore : List UInt8 := [115, 116, 111, 114, 101]
def wText : List UInt8 := [116, 101, 120, 116]
def wRec : List UInt8 := [114, 101, 99, 111, 114, 100]
def wDo : List UInt8 := [100, 111]
def wAsk : List UInt8 := [97, 115, 107]
def wHas : List UInt8 := [104, 97, 115]
noncomputable def stHead (s : Sta) (l : List UInt8) : Option (Md × Sta) :=
  match numOf 8 (cutL 32 l).2.1 with
  | none => none
  | some n => if (cutL 32 l).1 = wStore then some (.text, ⟨n, s.ts, s.rs, s.cur⟩) else none
def stRec (s : Sta) (l : List UInt8) : Option (Md × Sta) :=
  match unhexS (cutL 32 l).2.1 with
  | none => none
  | some o => if (cutL 32 l).1 = wRec then some (.ins, ⟨s.w, s.ts, s.rs, some ⟨[], [], ⟨o.toArray⟩⟩⟩) else none
noncomputable def stText (s : Sta) (l : List UInt8) : Option (Md × Sta) :=
  if (cutL 32 l).1 = wText then
    match unqOf (cutL 32 l).2.1 with
    | none => none
    | some x => some (.text, ⟨s.w, s.ts ++ [⟨x.toArray⟩], s.rs, s.cur⟩)
  else stRec s l
def stLook (s : Sta) (r : T3) (l : List UInt8) : Option (Md × Sta) :=
  if l = endL then some (.recd, ⟨s.w, s.ts, s.rs ++ [r], none⟩)
  else match unhexS (cutL 32 (cutL 32 l).2.1).2.1 with
    | none => none
    | some m => if (cutL 32 l).1 = wAsk then some (.look, ⟨s.w, s.ts, s.rs, some ⟨r.code, r.looks ++ [⟨⟨(cutL 32 (cutL 32 l).2.1).1.toArray⟩, true, ⟨m.toArray⟩⟩], r.out⟩⟩)
      else if (cutL 32 l).1 = wHas then some (.look, ⟨s.w, s.ts, s.rs, some ⟨r.code, r.looks ++ [⟨⟨(cutL 32 (cutL 32 l).2.1).1.toArray⟩, false, ⟨m.toArray⟩⟩], r.out⟩⟩)
      else none
noncomputable def stIns (s : Sta) (r : T3) (l : List UInt8) : Option (Md × Sta) :=
  if (cutL 32 l).1 = wDo then
    match rd (cutL 32 l).2.1 with
    | none => none
    | some i => some (.ins, ⟨s.w, s.ts, s.rs, some ⟨r.code ++ [i], r.looks, r.out⟩⟩)
  else stLook s r l
noncomputable def stepS (m : Md) (s : Sta) (l : List UInt8) : Option (Md × Sta) :=
  match m, s.cur with
  | .head, _ => stHead s l
  | .text, _ => stText s l
  | .recd, _ => stRec s l
  | .ins, some r => stIns s r l
  | .look, some r => stLook s r l
  | _, none => none
noncomputable def foldS : List (List UInt8) → Md → Sta → Option (Md × Sta)
  | [], m, s => some (m, s)
  | l :: ls, m, s => match stepS m s l with
    | none => none
    | some p => foldS ls p.1 p.2
theorem foldS_append : ∀ (a b : List (List UInt8)) (m : Md) (s : Sta), foldS (a ++ b) m s = match foldS a m s with | none => none | some p => foldS b p.1 p.2
  | [], b, m, s => rfl
  | l :: a, b, m, s => by
    have ih := foldS_append a b
    rw [List.cons_append]
    show (match stepS m s l with | none => none | some p => foldS (a ++ b) p.1 p.2) = match (match stepS m s l with | none => none | some p => foldS a p.1 p.2) with | none => none | some p => foldS b p.1 p.2
    cases stepS m s l with
    | none => rfl
    | some p => exact ih p.1 p.2

/-! ### Forward: what is written is read -/
theorem cut_word (w r : List UInt8) (h : (32 : UInt8) ∉ w) : cutL 32 (w ++ [32] ++ r) = (w, r, true) := by
  rw [List.append_assoc]; exact cutL_at r h
theorem step_head (s : Sta) (n : Nat) (h : n ≤ 8) : stepS .head s (stoL n) = some (.text, ⟨n, s.ts, s.rs, s.cur⟩) := by
  have e : cutL 32 (stoL n) = (wStore, Lib.decDigits n, true) := cut_word wStore _ (by decide)
  show stHead s (stoL n) = _
  unfold stHead
  rw [e, numOf_some h rfl]
  exact if_pos rfl
theorem step_text (s : Sta) (x : ByteArray) : stepS .text s (txtL x) = some (.text, ⟨s.w, s.ts ++ [x], s.rs, s.cur⟩) := by
  have e : cutL 32 (txtL x) = (wText, quoteL x.data.toList, true) := cut_word wText _ (by decide)
  show stText s (txtL x) = _
  unfold stText
  rw [e, if_pos rfl, unqOf_some rfl]
theorem step_rec (m : Md) (hm : m = .text ∨ m = .recd) (s : Sta) (r : T3) : stepS m s (recHd r) = some (.ins, ⟨s.w, s.ts, s.rs, some ⟨[], [], r.out⟩⟩) := by
  have e : cutL 32 (recHd r) = (wRec, hexbL r.out.data.toList, true) := cut_word wRec _ (by decide)
  have k : stRec s (recHd r) = some (.ins, ⟨s.w, s.ts, s.rs, some ⟨[], [], r.out⟩⟩) := by
    unfold stRec
    rw [e, unhexS_hex]
    exact if_pos rfl
  rcases hm with rfl | rfl
  · show stText s (recHd r) = _
    unfold stText
    rw [e, if_neg (show ¬ wRec = wText by decide)]
    exact k
  · exact k
theorem step_do (s : Sta) (r : T3) (i : I3) (h : insOk i = true) : stepS .ins ⟨s.w, s.ts, s.rs, some r⟩ (doL i) = some (.ins, ⟨s.w, s.ts, s.rs, some ⟨r.code ++ [i], r.looks, r.out⟩⟩) := by
  have e : cutL 32 (doL i) = (wDo, lineL i, true) := cut_word wDo _ (by decide)
  show stIns _ r (doL i) = _
  unfold stIns
  rw [e, if_pos rfl, rd_some h rfl]
theorem cut_look (g : G3) (h : (32 : UInt8) ∉ g.name.data.toList) : cutL 32 (lookL g) = ((if g.ask then wAsk else wHas), g.name.data.toList ++ [32] ++ hexbL g.sum.data.toList, true) := by
  have e : lookL g = (if g.ask then wAsk else wHas) ++ [32] ++ (g.name.data.toList ++ [32] ++ hexbL g.sum.data.toList) := by
    unfold lookL wAsk wHas; simp
  rw [e, cut_word _ _ (by split <;> decide)]
theorem step_look (m : Md) (hm : m = .ins ∨ m = .look) (s : Sta) (r : T3) (g : G3) (h : (32 : UInt8) ∉ g.name.data.toList) : stepS m ⟨s.w, s.ts, s.rs, some r⟩ (lookL g) = some (.look, ⟨s.w, s.ts, s.rs, some ⟨r.code, r.looks ++ [g], r.out⟩⟩) := by
  have e := cut_look g h
  have e2 := cut_word g.name.data.toList (hexbL g.sum.data.toList) h
  have hne : lookL g ≠ endL := by
    intro q
    have := congrArg (cutL 32) q
    rw [e] at this
    have h3 := (Prod.mk.inj (Prod.mk.inj this).2).2
    revert h3; decide
  have k : stLook ⟨s.w, s.ts, s.rs, some r⟩ r (lookL g) = some (.look, ⟨s.w, s.ts, s.rs, some ⟨r.code, r.looks ++ [g], r.out⟩⟩) := by
    unfold stLook
    rw [if_neg hne, e]
    simp only [e2, unhexS_hex]
    obtain ⟨nm, ask, sm⟩ := g
    cases ask
    · show (if wHas = wAsk then _ else if wHas = wHas then _ else none) = _
      rw [if_neg (show ¬ wHas = wAsk by decide), if_pos rfl]
    · show (if wAsk = wAsk then _ else _) = _
      rw [if_pos rfl]
  rcases hm with rfl | rfl
  · show stIns _ r (lookL g) = _
    unfold stIns
    rw [e, if_neg (by show (if g.ask then wAsk else wHas) ≠ wDo; split <;> decide)]
    exact k
  · exact k
theorem step_end (m : Md) (hm : m = .ins ∨ m = .look) (s : Sta) (r : T3) : stepS m ⟨s.w, s.ts, s.rs, some r⟩ endL = some (.recd, ⟨s.w, s.ts, s.rs ++ [r], none⟩) := by
  have k : stLook ⟨s.w, s.ts, s.rs, some r⟩ r endL = some (.recd, ⟨s.w, s.ts, s.rs ++ [r], none⟩) := by unfold stLook; rw [if_pos rfl]
  rcases hm with rfl | rfl
  · show stIns _ r endL = _
    unfold stIns
    rw [if_neg (by decide)]
    exact k
  · exact k
/-- A record that can be written and read. -/
def RecFit (r : T3) : Prop := (∀ i ∈ r.code, insOk i = true) ∧ ∀ g ∈ r.looks, (32 : UInt8) ∉ g.name.data.toList
theorem fold_do : ∀ (is : List I3) (s : Sta) (r : T3), (∀ i ∈ is, insOk i = true) → foldS (is.map doL) .ins ⟨s.w, s.ts, s.rs, some r⟩ = some (.ins, ⟨s.w, s.ts, s.rs, some ⟨r.code ++ is, r.looks, r.out⟩⟩)
  | [], s, r, _ => by simp [foldS]
  | i :: is, s, r, h => by
    rw [List.map_cons, foldS, step_do s r i (h i (by simp))]
    have := fold_do is s ⟨r.code ++ [i], r.looks, r.out⟩ (fun x hx => h x (by simp [hx]))
    simpa using this
theorem fold_look : ∀ (gs : List G3) (m : Md) (hm : m = .ins ∨ m = .look) (s : Sta) (r : T3), (∀ g ∈ gs, (32 : UInt8) ∉ g.name.data.toList) → ∃ m', (m' = .ins ∨ m' = .look) ∧ foldS (gs.map lookL) m ⟨s.w, s.ts, s.rs, some r⟩ = some (m', ⟨s.w, s.ts, s.rs, some ⟨r.code, r.looks ++ gs, r.out⟩⟩)
  | [], m, hm, s, r, _ => ⟨m, hm, by simp [foldS]⟩
  | g :: gs, m, hm, s, r, h => by
    obtain ⟨m', hm', k⟩ := fold_look gs .look (Or.inr rfl) s ⟨r.code, r.looks ++ [g], r.out⟩ (fun x hx => h x (by simp [hx]))
    refine ⟨m', hm', ?_⟩
    rw [List.map_cons, foldS, step_look m hm s r g (h g (by simp))]
    simpa using k
theorem fold_rec (m : Md) (hm : m = .text ∨ m = .recd) (s : Sta) (r : T3) (h : RecFit r) : foldS (recLs r) m s = some (.recd, ⟨s.w, s.ts, s.rs ++ [r], none⟩) := by
  obtain ⟨m', hm', k⟩ := fold_look r.looks .ins (Or.inl rfl) s ⟨r.code, [], r.out⟩ h.2
  have kd := fold_do r.code s ⟨[], [], r.out⟩ h.1
  unfold recLs
  rw [foldS_append, foldS_append, foldS_append]
  have k1 : foldS [recHd r] m s = some (.ins, ⟨s.w, s.ts, s.rs, some ⟨[], [], r.out⟩⟩) := by
    unfold foldS; rw [step_rec m hm s r]; rfl
  simp only [k1, kd]
  simp only [List.nil_append] at k ⊢
  simp only [k]
  unfold foldS
  rw [step_end m' hm' s ⟨r.code, r.looks, r.out⟩]
  rfl
theorem fold_recs : ∀ (rs : List T3) (m : Md) (hm : m = .text ∨ m = .recd) (s : Sta), s.cur = none → (∀ r ∈ rs, RecFit r) → ∃ m', (m' = .text ∨ m' = .recd) ∧ foldS (rs.flatMap recLs) m s = some (m', ⟨s.w, s.ts, s.rs ++ rs, none⟩)
  | [], m, hm, s, hc, _ => ⟨m, hm, by obtain ⟨a, b, c, d⟩ := s; simp at hc; subst hc; simp [foldS]⟩
  | r :: rs, m, hm, s, hc, h => by
    obtain ⟨m', hm', k⟩ := fold_recs rs .recd (Or.inr rfl) ⟨s.w, s.ts, s.rs ++ [r], none⟩ rfl (fun x hx => h x (by simp [hx]))
    refine ⟨m', hm', ?_⟩
    rw [List.flatMap_cons, foldS_append, fold_rec m hm s r (h r (by simp))]
    simpa using k
theorem fold_text : ∀ (ts : List ByteArray) (s : Sta), foldS (ts.map txtL) .text s = some (.text, ⟨s.w, s.ts ++ ts, s.rs, s.cur⟩)
  | [], s => by simp [foldS]
  | x :: ts, s => by
    rw [List.map_cons, foldS, step_text]
    have := fold_text ts ⟨s.w, s.ts ++ [x], s.rs, s.cur⟩
    simpa using this
def sta0 : Sta := ⟨0, [], [], none⟩
theorem fold_store {n : Nat} (hn : n ≤ 8) (ts : List ByteArray) {rs : List T3} (h : ∀ r ∈ rs, RecFit r) : ∃ m, (m = .text ∨ m = .recd) ∧ foldS (stoLs n ts rs) .head sta0 = some (m, ⟨n, ts, rs, none⟩) := by
  obtain ⟨m', hm', k⟩ := fold_recs rs .text (Or.inl rfl) ⟨n, ts, [], none⟩ rfl h
  refine ⟨m', hm', ?_⟩
  unfold stoLs
  rw [foldS_append, foldS_append]
  have k1 : foldS [stoL n] .head sta0 = some (.text, ⟨n, [], [], none⟩) := by
    unfold foldS; rw [step_head _ n hn]; rfl
  simp only [k1, fold_text]
  simpa using k

/-! ### Backward: what was read is what is written -/
def curLs : Option T3 → List (List UInt8)
  | none => []
  | some r => [recHd r] ++ r.code.map doL ++ r.looks.map lookL
def eaten (s : Sta) : List (List UInt8) := stoLs s.w s.ts s.rs ++ curLs s.cur
def curL : Option T3 → List T3
  | none => []
  | some r => [r]
def fineR (r : T3) : Prop := r.out.data.toList ≠ [] ∧ ∀ g ∈ r.looks, g.sum.data.toList ≠ []
def fine (s : Sta) : Prop := (∀ r ∈ s.rs, fineR r) ∧ ∀ r ∈ curL s.cur, fineR r
def InvM : Md → Sta → Prop
  | .head, s => s = sta0
  | .text, s => s.rs = [] ∧ s.cur = none
  | .recd, s => s.cur = none
  | .ins, s => ∃ r, s.cur = some r ∧ r.looks = []
  | .look, s => ∃ r, s.cur = some r
def eat : Md → Sta → List (List UInt8)
  | .head, _ => []
  | _, s => eaten s
theorem cut_full {l : List UInt8} (h : (cutL 32 l).2.1 ≠ []) : l = (cutL 32 l).1 ++ [32] ++ (cutL 32 l).2.1 := by
  by_cases hf : (cutL 32 l).2.2 = true
  · have := cutL_yes hf
    simpa using this
  · have hf' : (cutL 32 l).2.2 = false := by simpa using hf
    exact absurd (cutL_no hf').2 h
theorem hexbL_ne {l : List UInt8} (h : l ≠ []) : hexbL l ≠ [] := by
  cases l with
  | nil => exact absurd rfl h
  | cons u l => rw [hexbL_cons]; simp
theorem back_rec {s s' : Sta} {l : List UInt8} {m' : Md} (hc : s.cur = none) (h : stRec s l = some (m', s')) : m' = .ins ∧ InvM .ins s' ∧ (fine s' → fine s ∧ eaten s' = eaten s ++ [l]) := by
  unfold stRec at h
  split at h
  · cases h
  · rename_i o ho
    split at h
    · rename_i hw
      obtain ⟨rfl, rfl⟩ := Prod.mk.inj (Option.some.inj h)
      refine ⟨rfl, ⟨_, rfl, rfl⟩, fun hf => ?_⟩
      have hfr := hf.2 ⟨[], [], ⟨o.toArray⟩⟩ (by simp [curL])
      refine ⟨⟨hf.1, by rw [hc]; intro r hr; simp [curL] at hr⟩, ?_⟩
      have e1 := unhexS_inv ho
      have e2 : o ≠ [] := by simpa using hfr.1
      have e3 := cut_full (l := l) (by rw [e1]; exact hexbL_ne e2)
      rw [hw, e1] at e3
      have e4 : l = recHd ⟨[], [], ⟨o.toArray⟩⟩ := by rw [e3]; simp [recHd, wRec]
      unfold eaten
      rw [hc, e4]
      simp [curLs]
    · cases h
theorem back_look {s s' : Sta} {r : T3} {l : List UInt8} {m' : Md} (hc : s.cur = some r) (h : stLook s r l = some (m', s')) : InvM m' s' ∧ (m' = .recd ∨ m' = .look) ∧ (fine s' → fine s ∧ eaten s' = eaten s ++ [l]) := by
  unfold stLook at h
  split at h
  · rename_i he
    obtain ⟨rfl, rfl⟩ := Prod.mk.inj (Option.some.inj h)
    refine ⟨rfl, Or.inl rfl, fun hf => ⟨⟨fun x hx => hf.1 x (by simp [hx]), by rw [hc]; intro x hx; simp [curL] at hx; subst hx; exact hf.1 x (by simp)⟩, ?_⟩⟩
    unfold eaten stoLs
    rw [hc, he]
    simp [curLs, recLs]
  · split at h
    · cases h
    · rename_i m hm
      have key : ∀ (b : Bool) (wd : List UInt8), (cutL 32 l).1 = wd → wd = (if b then wAsk else wHas) → fine ⟨s.w, s.ts, s.rs, some ⟨r.code, r.looks ++ [⟨⟨(cutL 32 (cutL 32 l).2.1).1.toArray⟩, b, ⟨m.toArray⟩⟩], r.out⟩⟩ → fine s ∧ eaten ⟨s.w, s.ts, s.rs, some ⟨r.code, r.looks ++ [⟨⟨(cutL 32 (cutL 32 l).2.1).1.toArray⟩, b, ⟨m.toArray⟩⟩], r.out⟩⟩ = eaten s ++ [l] := by
        intro b wd hwd hb hf
        have hfr := hf.2 _ (by simp [curL]; rfl)
        refine ⟨⟨hf.1, by rw [hc]; intro x hx; simp [curL] at hx; subst hx; exact ⟨hfr.1, fun g hg => hfr.2 g (by simp [hg])⟩⟩, ?_⟩
        have e1 := unhexS_inv hm
        have e2 : m ≠ [] := by simpa using hfr.2 ⟨⟨(cutL 32 (cutL 32 l).2.1).1.toArray⟩, b, ⟨m.toArray⟩⟩ (by simp)
        have e3 := cut_full (l := (cutL 32 l).2.1) (by rw [e1]; exact hexbL_ne e2)
        have e5 : (cutL 32 l).2.1 ≠ [] := by rw [e3]; simp
        have e4 := cut_full (l := l) e5
        rw [hwd, hb] at e4
        have e6 : l = lookL ⟨⟨(cutL 32 (cutL 32 l).2.1).1.toArray⟩, b, ⟨m.toArray⟩⟩ := by
          unfold lookL
          simp only [← e1]
          rw [List.append_assoc, List.append_assoc, ← List.append_assoc (cutL 32 (cutL 32 l).2.1).1, ← e3]
          exact e4
        unfold eaten
        rw [hc]
        simp only [curLs, List.map_append, List.map_cons, List.map_nil, recHd]
        rw [← e6]
        simp
      split at h
      · rename_i hw
        obtain ⟨rfl, rfl⟩ := Prod.mk.inj (Option.some.inj h)
        exact ⟨⟨_, rfl⟩, Or.inr rfl, key true _ hw rfl⟩
      · split at h
        · rename_i hw
          obtain ⟨rfl, rfl⟩ := Prod.mk.inj (Option.some.inj h)
          exact ⟨⟨_, rfl⟩, Or.inr rfl, key false _ hw rfl⟩
        · cases h
theorem back_step {m m' : Md} {s s' : Sta} {l : List UInt8} (hi : InvM m s) (h : stepS m s l = some (m', s')) : InvM m' s' ∧ m' ≠ .head ∧ (fine s' → fine s ∧ eat m' s' = eat m s ++ [l]) := by
  cases m with
  | head =>
    have hs : s = sta0 := hi
    subst hs
    have h' : stHead sta0 l = some (m', s') := h
    unfold stHead at h'
    split at h'
    · cases h'
    · rename_i n hn
      split at h'
      · rename_i hw
        obtain ⟨rfl, rfl⟩ := Prod.mk.inj (Option.some.inj h')
        refine ⟨⟨rfl, rfl⟩, by simp, fun hf => ⟨(⟨by intro r hr; simp [sta0] at hr, by intro r hr; simp [sta0, curL] at hr⟩ : fine sta0), ?_⟩⟩
        obtain ⟨_, e1⟩ := numOf_ok hn
        have e3 := cut_full (l := l) (by rw [← e1]; exact dec_ne n)
        rw [hw, ← e1] at e3
        have e4 : l = stoL n := by rw [e3]; simp [stoL, wStore]
        rw [e4]
        simp [eat, eaten, stoLs, curLs, sta0]
      · cases h'
  | text =>
    obtain ⟨h1, h2⟩ : s.rs = [] ∧ s.cur = none := hi
    have h' : stText s l = some (m', s') := h
    unfold stText at h'
    split at h'
    · rename_i hw
      split at h'
      · cases h'
      · rename_i x hx
        obtain ⟨rfl, rfl⟩ := Prod.mk.inj (Option.some.inj h')
        refine ⟨⟨h1, h2⟩, by simp, fun hf => ⟨hf, ?_⟩⟩
        have e1 := unqOf_ok hx
        have e3 := cut_full (l := l) (by rw [← e1]; simp [quoteL])
        rw [hw, ← e1] at e3
        have e4 : l = txtL ⟨x.toArray⟩ := by rw [e3]; simp [txtL, wText]
        show eaten _ = eaten _ ++ _
        unfold eaten stoLs
        rw [h1, h2, e4]
        simp [curLs]
    · obtain ⟨rfl, k1, k2⟩ := back_rec h2 h'
      exact ⟨k1, by simp, k2⟩
  | recd =>
    have h2 : s.cur = none := hi
    have h' : stRec s l = some (m', s') := h
    obtain ⟨rfl, k1, k2⟩ := back_rec h2 h'
    exact ⟨k1, by simp, k2⟩
  | ins =>
    obtain ⟨r, hc, hl⟩ : ∃ r, s.cur = some r ∧ r.looks = [] := hi
    have h' : stIns s r l = some (m', s') := by
      have := h
      unfold stepS at this
      rw [hc] at this; exact this
    unfold stIns at h'
    split at h'
    · rename_i hw
      split at h'
      · cases h'
      · rename_i i hx
        obtain ⟨rfl, rfl⟩ := Prod.mk.inj (Option.some.inj h')
        refine ⟨⟨_, rfl, hl⟩, by simp, fun hf => ⟨⟨hf.1, by rw [hc]; intro x hx; simp [curL] at hx; subst hx; have := hf.2 _ (by simp [curL]; rfl); exact this⟩, ?_⟩⟩
        have e1 := (rd_ok hx).2
        have hne : lineL i ≠ [] := by
          obtain ⟨o, ho, o1, o2⟩ := ok_op (rd_ok hx).1
          have hw : ∀ o, o < 16 → 1 ≤ o → (wordB o).data.toList ≠ [] := by decide +kernel
          have hw2 := hw i.op.toNat (by omega) (by omega)
          unfold lineL
          intro e
          exact hw2 (List.append_eq_nil_iff.1 e).1
        have e3 := cut_full (l := l) (by rw [← e1]; exact hne)
        rw [hw, ← e1] at e3
        have e4 : l = doL i := by rw [e3]; simp [doL, wDo]
        show eaten _ = eaten _ ++ _
        unfold eaten
        rw [hc, e4]
        simp [curLs, recHd, hl]
    · obtain ⟨k1, k2, k3⟩ := back_look hc h'
      rcases k2 with rfl | rfl
      · exact ⟨k1, by simp, k3⟩
      · exact ⟨k1, by simp, k3⟩
  | look =>
    obtain ⟨r, hc⟩ : ∃ r, s.cur = some r := hi
    have h' : stLook s r l = some (m', s') := by
      have := h
      unfold stepS at this
      rw [hc] at this; exact this
    obtain ⟨k1, k2, k3⟩ := back_look hc h'
    rcases k2 with rfl | rfl
    · exact ⟨k1, by simp, k3⟩
    · exact ⟨k1, by simp, k3⟩
theorem back_fold : ∀ (ls : List (List UInt8)) (m m' : Md) (s s' : Sta), InvM m s → foldS ls m s = some (m', s') → InvM m' s' ∧ (fine s' → fine s ∧ eat m' s' = eat m s ++ ls)
  | [], m, m', s, s', hi, h => by
    obtain ⟨rfl, rfl⟩ := Prod.mk.inj (Option.some.inj h)
    exact ⟨hi, fun hf => ⟨hf, by simp⟩⟩
  | l :: ls, m, m', s, s', hi, h => by
    have h' : (match stepS m s l with | none => none | some p => foldS ls p.1 p.2) = some (m', s') := h
    cases hst : stepS m s l with
    | none => rw [hst] at h'; cases h'
    | some p =>
      rw [hst] at h'
      obtain ⟨m1, s1⟩ := p
      obtain ⟨k1, k2, k3⟩ := back_step hi hst
      obtain ⟨j1, j2⟩ := back_fold ls m1 m' s1 s' k1 h'
      refine ⟨j1, fun hf => ?_⟩
      obtain ⟨q1, q2⟩ := j2 hf
      obtain ⟨r1, r2⟩ := k3 q1
      exact ⟨r1, by rw [q2, r2]; simp⟩
theorem back_store {ls : List (List UInt8)} {m : Md} {s : Sta} (h : foldS ls .head sta0 = some (m, s)) (hc : s.cur = none) (hf : fine s) (hne : ls ≠ []) : ls = stoLs s.w s.ts s.rs := by
  obtain ⟨h1, h2⟩ := back_fold ls .head m sta0 s rfl h
  obtain ⟨_, e⟩ := h2 hf
  have e' : eat m s = ls := by rw [e]; rfl
  cases m with
  | head => exact absurd e'.symm hne
  | text => rw [← e']; simp [eat, eaten, hc, curLs]
  | recd => rw [← e']; simp [eat, eaten, hc, curLs]
  | ins => rw [← e']; simp [eat, eaten, hc, curLs]
  | look => rw [← e']; simp [eat, eaten, hc, curLs]

/-! ### The loose reader -/
structure LS where
  w : Int
  ts : List ByteArray
  rs : List T3
def begins (h x : List UInt8) : Bool := decide (h.length ≤ x.length) && decide (x.take h.length = h)
def hStore : List UInt8 := [115, 116, 111, 114, 101, 32]
def hText : List UInt8 := [116, 101, 120, 116, 32]
def hRec : List UInt8 := [114, 101, 99, 111, 114, 100, 32]
def hDo : List UInt8 := [100, 111, 32]
def hAsk : List UInt8 := [97, 115, 107, 32]
def hHas : List UInt8 := [104, 97, 115, 32]
def glanceL (x : List UInt8) : G3 := ⟨⟨(cutL 32 (x.drop 4)).1.toArray⟩, begins hAsk x, ⟨(looseH (cutL 32 (x.drop 4)).2.1).toArray⟩⟩
def zI : I3 := ⟨0, ⟨#[]⟩, 0⟩
def onLast (f : T3 → T3) : List T3 → List T3
  | [] => []
  | [r] => [f r]
  | r :: q :: rs => r :: onLast f (q :: rs)
theorem onLast_snoc (f : T3 → T3) : ∀ (rs : List T3) (r : T3), onLast f (rs ++ [r]) = rs ++ [f r]
  | [], r => rfl
  | [a], r => rfl
  | a :: b :: rs, r => by
    have := onLast_snoc f (b :: rs) r
    show a :: onLast f ((b :: rs) ++ [r]) = _
    rw [this]; rfl
inductive Cls where
  | store | text | recd | ins | ask | has | other
def clsL (x : List UInt8) : Cls := if begins hStore x then .store else if begins hText x then .text else if begins hRec x then .recd else if begins hDo x then .ins else if begins hAsk x then .ask else if begins hHas x then .has else .other
noncomputable def lsStep (s : LS) (x : List UInt8) : LS :=
  match clsL x with
  | .store => ⟨numL (x.drop 6), s.ts, s.rs⟩
  | .text => ⟨s.w, s.ts ++ [⟨(looseF ((x.drop 5).drop 1)).toArray⟩], s.rs⟩
  | .recd => ⟨s.w, s.ts, s.rs ++ [⟨[], [], ⟨(looseH (x.drop 7)).toArray⟩⟩]⟩
  | .ins => ⟨s.w, s.ts, onLast (fun r => ⟨r.code ++ [(rd (x.drop 3)).getD zI], r.looks, r.out⟩) s.rs⟩
  | .ask => ⟨s.w, s.ts, onLast (fun r => ⟨r.code, r.looks ++ [glanceL x], r.out⟩) s.rs⟩
  | .has => ⟨s.w, s.ts, onLast (fun r => ⟨r.code, r.looks ++ [glanceL x], r.out⟩) s.rs⟩
  | .other => s
noncomputable def lsRead (ls : List (List UInt8)) (s : LS) : LS := ls.foldl lsStep s
theorem begins_app (h r : List UInt8) : begins h (h ++ r) = true := by simp [begins]
theorem begins_iff {h x : List UInt8} : begins h x = true ↔ ∃ r, x = h ++ r := by
  constructor
  · intro e
    simp only [begins, Bool.and_eq_true, decide_eq_true_eq] at e
    refine ⟨x.drop h.length, ?_⟩
    have := (List.take_append_drop h.length x).symm
    rwa [e.2] at this
  · rintro ⟨r, rfl⟩; exact begins_app h r
theorem begins_not {h k r : List UInt8} (hd : h.take (min h.length k.length) ≠ k.take (min h.length k.length)) : begins h (k ++ r) = false := by
  cases hb : begins h (k ++ r) with
  | false => rfl
  | true =>
    obtain ⟨q, hq⟩ := begins_iff.1 hb
    exfalso; apply hd
    have := congrArg (List.take (min h.length k.length)) hq
    rw [List.take_append_of_le_length (by omega), List.take_append_of_le_length (by omega)] at this
    exact this.symm
theorem cls_store (r : List UInt8) : clsL (hStore ++ r) = .store := by unfold clsL; rw [begins_app]; rfl
theorem cls_text (r : List UInt8) : clsL (hText ++ r) = .text := by
  unfold clsL; rw [begins_not (h := hStore) (k := hText) (by decide), begins_app]; rfl
theorem cls_rec (r : List UInt8) : clsL (hRec ++ r) = .recd := by
  unfold clsL; rw [begins_not (h := hStore) (k := hRec) (by decide), begins_not (h := hText) (k := hRec) (by decide), begins_app]; rfl
theorem cls_do (r : List UInt8) : clsL (hDo ++ r) = .ins := by
  unfold clsL; rw [begins_not (h := hStore) (k := hDo) (by decide), begins_not (h := hText) (k := hDo) (by decide), begins_not (h := hRec) (k := hDo) (by decide), begins_app]; rfl
theorem cls_ask (r : List UInt8) : clsL (hAsk ++ r) = .ask := by
  unfold clsL; rw [begins_not (h := hStore) (k := hAsk) (by decide), begins_not (h := hText) (k := hAsk) (by decide), begins_not (h := hRec) (k := hAsk) (by decide), begins_not (h := hDo) (k := hAsk) (by decide), begins_app]; rfl
theorem cls_has (r : List UInt8) : clsL (hHas ++ r) = .has := by
  unfold clsL; rw [begins_not (h := hStore) (k := hHas) (by decide), begins_not (h := hText) (k := hHas) (by decide), begins_not (h := hRec) (k := hHas) (by decide), begins_not (h := hDo) (k := hHas) (by decide), begins_not (h := hAsk) (k := hHas) (by decide), begins_app]; rfl
theorem lsS_store (s : LS) (n : Nat) (h : n ≤ 8) : lsStep s (stoL n) = ⟨n, s.ts, s.rs⟩ := by
  have e : stoL n = hStore ++ Lib.decDigits n := rfl
  unfold lsStep
  rw [e, cls_store]
  show (⟨numL (Lib.decDigits n), s.ts, s.rs⟩ : LS) = _
  rw [numL_dec n (by omega)]
theorem lsS_text (s : LS) (x : ByteArray) : lsStep s (txtL x) = ⟨s.w, s.ts ++ [x], s.rs⟩ := by
  have e : txtL x = hText ++ quoteL x.data.toList := rfl
  unfold lsStep
  rw [e, cls_text]
  show (⟨s.w, s.ts ++ [⟨(looseF ((quoteL x.data.toList).drop 1)).toArray⟩], s.rs⟩ : LS) = _
  have : (quoteL x.data.toList).drop 1 = x.data.toList.flatMap qbyte ++ [34] := by simp [quoteL]
  rw [this, loose_q]
theorem lsS_rec (s : LS) (r : T3) : lsStep s (recHd r) = ⟨s.w, s.ts, s.rs ++ [⟨[], [], r.out⟩]⟩ := by
  have e : recHd r = hRec ++ hexbL r.out.data.toList := rfl
  unfold lsStep
  rw [e, cls_rec]
  show (⟨s.w, s.ts, s.rs ++ [⟨[], [], ⟨(looseH (hexbL r.out.data.toList)).toArray⟩⟩]⟩ : LS) = _
  rw [looseH_hex]
theorem lsS_do (w : Int) (ts : List ByteArray) (rs : List T3) (r : T3) (i : I3) (h : insOk i = true) : lsStep ⟨w, ts, rs ++ [r]⟩ (doL i) = ⟨w, ts, rs ++ [⟨r.code ++ [i], r.looks, r.out⟩]⟩ := by
  have e : doL i = hDo ++ lineL i := rfl
  unfold lsStep
  rw [e, cls_do]
  show (⟨w, ts, onLast (fun r => ⟨r.code ++ [(rd (lineL i)).getD zI], r.looks, r.out⟩) (rs ++ [r])⟩ : LS) = _
  rw [onLast_snoc, rd_some h rfl]; rfl
theorem glance_look (g : G3) (h : (32 : UInt8) ∉ g.name.data.toList) : glanceL (lookL g) = g := by
  obtain ⟨nm, ask, sm⟩ := g
  have e : lookL ⟨nm, ask, sm⟩ = (if ask then hAsk else hHas) ++ (nm.data.toList ++ [32] ++ hexbL sm.data.toList) := by
    cases ask <;> simp [lookL, hAsk, hHas]
  have hd : (lookL ⟨nm, ask, sm⟩).drop 4 = nm.data.toList ++ [32] ++ hexbL sm.data.toList := by
    rw [e]; cases ask <;> rfl
  have hc := cut_word nm.data.toList (hexbL sm.data.toList) h
  unfold glanceL
  rw [hd, hc, e, looseH_hex]
  cases ask
  · have : begins hAsk (hHas ++ (nm.data.toList ++ [32] ++ hexbL sm.data.toList)) = false := begins_not (by decide)
    simp only [Bool.false_eq_true, if_false, this]
  · simp only [if_true, begins_app]
theorem lsS_look (w : Int) (ts : List ByteArray) (rs : List T3) (r : T3) (g : G3) (h : (32 : UInt8) ∉ g.name.data.toList) : lsStep ⟨w, ts, rs ++ [r]⟩ (lookL g) = ⟨w, ts, rs ++ [⟨r.code, r.looks ++ [g], r.out⟩]⟩ := by
  have hg := glance_look g h
  have hc : clsL (lookL g) = if g.ask then .ask else .has := by
    obtain ⟨nm, ask, sm⟩ := g
    have e : lookL ⟨nm, ask, sm⟩ = (if ask then hAsk else hHas) ++ (nm.data.toList ++ [32] ++ hexbL sm.data.toList) := by
      cases ask <;> simp [lookL, hAsk, hHas]
    rw [e]; cases ask
    · exact cls_has _
    · exact cls_ask _
  unfold lsStep
  rw [hc]
  cases g.ask
  · show (⟨w, ts, onLast (fun r => ⟨r.code, r.looks ++ [glanceL (lookL g)], r.out⟩) (rs ++ [r])⟩ : LS) = _
    rw [onLast_snoc, hg]
  · show (⟨w, ts, onLast (fun r => ⟨r.code, r.looks ++ [glanceL (lookL g)], r.out⟩) (rs ++ [r])⟩ : LS) = _
    rw [onLast_snoc, hg]
theorem lsS_end (s : LS) : lsStep s endL = s := by unfold lsStep; rw [show clsL endL = .other from by rfl]
theorem lsS_nil (s : LS) : lsStep s [] = s := by unfold lsStep; rw [show clsL [] = .other from by rfl]
theorem lsR_do : ∀ (is : List I3) (w : Int) (ts : List ByteArray) (rs : List T3) (r : T3), (∀ i ∈ is, insOk i = true) → lsRead (is.map doL) ⟨w, ts, rs ++ [r]⟩ = ⟨w, ts, rs ++ [⟨r.code ++ is, r.looks, r.out⟩]⟩
  | [], w, ts, rs, r, _ => by simp [lsRead]
  | i :: is, w, ts, rs, r, h => by
    show lsRead (is.map doL) (lsStep _ (doL i)) = _
    rw [lsS_do w ts rs r i (h i (by simp)), lsR_do is w ts rs _ (fun x hx => h x (by simp [hx]))]
    simp
theorem lsR_look : ∀ (gs : List G3) (w : Int) (ts : List ByteArray) (rs : List T3) (r : T3), (∀ g ∈ gs, (32 : UInt8) ∉ g.name.data.toList) → lsRead (gs.map lookL) ⟨w, ts, rs ++ [r]⟩ = ⟨w, ts, rs ++ [⟨r.code, r.looks ++ gs, r.out⟩]⟩
  | [], w, ts, rs, r, _ => by simp [lsRead]
  | i :: is, w, ts, rs, r, h => by
    show lsRead (is.map lookL) (lsStep _ (lookL i)) = _
    rw [lsS_look w ts rs r i (h i (by simp)), lsR_look is w ts rs _ (fun x hx => h x (by simp [hx]))]
    simp
theorem lsR_app (a b : List (List UInt8)) (s : LS) : lsRead (a ++ b) s = lsRead b (lsRead a s) := by simp [lsRead]
theorem lsR_rec (s : LS) (r : T3) (h : RecFit r) : lsRead (recLs r) s = ⟨s.w, s.ts, s.rs ++ [r]⟩ := by
  unfold recLs
  rw [lsR_app, lsR_app, lsR_app]
  have k1 : lsRead [recHd r] s = ⟨s.w, s.ts, s.rs ++ [⟨[], [], r.out⟩]⟩ := lsS_rec s r
  rw [k1, lsR_do _ _ _ _ _ h.1, lsR_look _ _ _ _ _ h.2]
  simp only [List.nil_append]
  exact lsS_end _
theorem lsR_recs : ∀ (rs : List T3) (s : LS), (∀ r ∈ rs, RecFit r) → lsRead (rs.flatMap recLs) s = ⟨s.w, s.ts, s.rs ++ rs⟩
  | [], s, _ => by simp [lsRead]
  | r :: rs, s, h => by
    rw [List.flatMap_cons, lsR_app, lsR_rec s r (h r (by simp)), lsR_recs rs _ (fun x hx => h x (by simp [hx]))]
    simp
theorem lsR_text : ∀ (ts : List ByteArray) (s : LS), lsRead (ts.map txtL) s = ⟨s.w, s.ts ++ ts, s.rs⟩
  | [], s => by simp [lsRead]
  | x :: ts, s => by
    show lsRead (ts.map txtL) (lsStep s (txtL x)) = _
    rw [lsS_text, lsR_text ts]; simp
/-- What was written is read again, loosely too. -/
theorem lsR_store {n : Nat} (hn : n ≤ 8) (ts : List ByteArray) {rs : List T3} (h : ∀ r ∈ rs, RecFit r) : lsRead (stoLs n ts rs ++ [[]]) ⟨0, [], []⟩ = ⟨n, ts, rs⟩ := by
  rw [lsR_app]
  show lsStep (lsRead (stoLs n ts rs) _) [] = _
  rw [lsS_nil]
  unfold stoLs
  rw [lsR_app, lsR_app]
  have k1 : lsRead [stoL n] ⟨0, [], []⟩ = ⟨n, [], []⟩ := lsS_store _ n hn
  rw [k1, lsR_text, lsR_recs _ _ h]
  simp

end Go.Proofs.YtikdgmmloiegjaaGreatDoor
