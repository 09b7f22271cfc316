import Derived.Test.YtmanoabocelpeaaGreatDoorFtA
import Derived.Test.YtmanoabocelpeaaGreatDoorEdC
namespace Go.Proofs.YtmanoabocelpeaaGreatDoor
open Go.RowKit
set_option linter.unusedVariables false
set_option linter.unusedSimpArgs false
def askB (c : List I3) : Bool := c.any fun i => i.op.toNat == 12
theorem step_ask {is : List I3} {s s' : St} {nm : ByteArray} (h : step0 is s = .look true nm s') : askB is = true := by
 unfold step0 at h
 split at h
 ·cases h
 ·split at h
  ·cases h
  ·rename_i h1 h2
   simp only [insP] at h
   split at h
   ·cases h
   ·split at h
    ·cases h
    ·split at h
     ·cases h
     ·split at h
      ·split at h
       ·cases h
       ·split at h
        ·cases h
        ·injection h with e1 e2 e3
         rw [askB, List.any_eq_true]
         refine ⟨ix is s.pl, ?_, e1⟩
         unfold ix
         rw [List.getD_eq_getElem?_getD, List.getElem?_eq_getElem (by omega)]
         exact List.getElem_mem _
      ·split at h <;> cases h
theorem full_ask {is : List I3} {ys : List R3} {s : St} {r : Res} (h : Full is ys s r) : ∀ {nm n}, r = .wait true nm n -> askB is = true := by
 induction h with
 | over => intro nm n e; cases e
 | go _ _ ih => exact ih
 | wait h1 => intro nm n e; cases e; exact step_ask h1
 | ans _ _ _ _ ih => exact ih
 | «end» => intro nm n e; cases e
theorem Ev.top {ss : List S2} {ts : List T2} {k : Nat} {j : Job} {d : Md} (h : Ev ss ts k j d) : ∀ {is ys ls}, j = .run is ys ls -> 1 <= k -> askB is = true /\ ∃ nm d', Ev ss ts k (.make nm) d' := by
 induction h with
 | source | missing | made => intro is ys ls e; cases e
 | over => intro is ys ls e hk; omega
 | has _ _ ih => intro is ys ls e hk; cases e; exact ih rfl hk
 | @asked is ys ls nm n k k' d d' h1 h2 h3 ih1 ih2 =>
  intro is ys ls e hk
  cases e
  refine ⟨full_ask h1 rfl, ?_⟩
  rcases Nat.le_total k' k with h | h
  ·rw [Nat.max_eq_left h]; exact ⟨_, _, h2⟩
  ·rw [Nat.max_eq_right h] at hk ⊢; exact (ih2 rfl hk).2
theorem Ev.inv {ss : List S2} {ts : List T2} {k : Nat} {nm : ByteArray} {d : Md} (h : Ev ss ts k (.make nm) d) : k = 0 \/ ∃ i k', k = k' + 1 /\ ¬ Has (snames ss) nm /\ i < ts.length /\ (tx ts i).name = nm /\ Ev ss ts k' (.run (tx ts i).code [] []) d := by
 cases h with
 | source => exact Or.inl rfl
 | missing => exact Or.inl rfl
 | made h1 h2 h3 h4 => exact Or.inr ⟨_, _, rfl, h1, h2, h3, h4⟩
theorem tx_mem {ts : List T2} {i : Nat} (h : i < ts.length) : tx ts i ∈ ts := by
 unfold tx
 rw [List.getD_eq_getElem?_getD, List.getElem?_eq_getElem h]
 exact List.getElem_mem _
theorem Ev.chain {ss : List S2} {ts : List T2} : ∀ (k : Nat) {nm : ByteArray} {d : Md}, Ev ss ts (k + 1) (.make nm) d -> ∃ l : List T2, l.length = k + 1 /\ ∀ p, (hp : p < l.length) -> l[p] ∈ ts /\ (∃ d', Ev ss ts (k + 1 - p) (.make l[p].name) d') /\ (p < k -> askB l[p].code = true)
 | 0, nm, d, h => by
  rcases h.inv with h' | ⟨i, k', e, h1, h2, h3, h4⟩
  ·omega
  ·refine ⟨[tx ts i], rfl, fun p hp => ?_⟩
   obtain rfl : p = 0 := by simp at hp; omega
   exact ⟨tx_mem h2, ⟨d, by show Ev ss ts 1 (.make (tx ts i).name) d; rw [h3]; exact h⟩, fun h => absurd h (Nat.not_lt_zero _)⟩
 | k + 1, nm, d, h => by
  rcases h.inv with h' | ⟨i, k', e, h1, h2, h3, h4⟩
  ·omega
  ·obtain rfl : k' = k + 1 := by omega
   obtain ⟨ha, nm', d', h5⟩ := h4.top rfl (by omega)
   obtain ⟨l, hl, hp⟩ := Ev.chain k h5
   refine ⟨tx ts i :: l, by simp [hl], fun p hq => ?_⟩
   cases p with
   | zero => exact ⟨tx_mem h2, ⟨d, by show Ev ss ts (k + 1 + 1) (.make (tx ts i).name) d; rw [h3]; exact h⟩, fun _ => ha⟩
   | succ p =>
    obtain ⟨q1, ⟨q2, q3⟩, q4⟩ := hp p (by simpa using hq)
    refine ⟨q1, ⟨q2, ?_⟩, fun h => q4 (by omega)⟩
    rw [show k + 1 + 1 - (p + 1) = k + 1 - p by omega]
    exact q3
theorem nd_le {α : Type} : ∀ (l m : List α), l.Nodup -> (∀ x ∈ l, x ∈ m) -> l.length <= m.length
 | [], m, _, _ => Nat.zero_le _
 | x :: l, m, h, hs => by
  obtain ⟨m1, m2, rfl⟩ := List.append_of_mem (hs x (by simp))
  obtain ⟨h1, h2⟩ := List.nodup_cons.mp h
  have := nd_le l (m1 ++ m2) h2 fun y hy => by
   have := hs y (by simp [hy])
   simp only [List.mem_append, List.mem_cons] at this ⊢
   rcases this with h | rfl | h
   ·exact Or.inl h
   ·exact absurd hy h1
   ·exact Or.inr h
  simp only [List.length_append, List.length_cons] at this ⊢
  omega
theorem Ev.few {ss : List S2} {ts : List T2} (hs : Asc (snames ss)) (ht : Asc (tnames ts)) {k : Nat} {nm : ByteArray} {d : Md} (h : Ev ss ts k (.make nm) d) : k <= (ts.filter fun t => askB t.code).length + 1 /\ ((∀ t ∈ ts, askB t.code = true) -> k <= (ts.filter fun t => askB t.code).length) := by
 cases k with
 | zero => exact ⟨by omega, fun _ => by omega⟩
 | succ k =>
  obtain ⟨l, hl, hp⟩ := Ev.chain k h
  have hn : l.Nodup := by
   rw [List.nodup_iff_pairwise_ne, List.pairwise_iff_getElem]
   intro i j hi hj hij e
   obtain ⟨_, ⟨_, a⟩, _⟩ := hp i hi
   obtain ⟨_, ⟨_, b⟩, _⟩ := hp j hj
   rw [e] at a
   have := (a.unique hs ht b).1
   omega
  refine ⟨?_, fun hall => ?_⟩
  ·have := nd_le (l.take k) (ts.filter fun t => askB t.code) (hn.sublist (List.take_sublist _ _)) fun x hx => by
    obtain ⟨i, hi, rfl⟩ := List.getElem_of_mem hx
    rw [List.length_take] at hi
    rw [List.getElem_take]
    obtain ⟨a, _, b⟩ := hp i (by omega)
    exact List.mem_filter.mpr ⟨a, b (by omega)⟩
   rw [List.length_take] at this
   omega
  ·have := nd_le l (ts.filter fun t => askB t.code) hn fun x hx => by
    obtain ⟨i, hi, rfl⟩ := List.getElem_of_mem hx
    obtain ⟨a, _, b⟩ := hp i hi
    exact List.mem_filter.mpr ⟨a, hall _ a⟩
   omega
def litI (x : ByteArray) : I3 := ⟨1, x, 0⟩
def askI : I3 := ⟨12, ByteArray.empty, 0⟩
def dropI : I3 := ⟨9, ByteArray.empty, 0⟩
def endI : I3 := ⟨15, ByteArray.empty, 0⟩
structure Ch (ts : List T2) (l : Nat -> ByteArray) (mk : ByteArray) : Prop where
 inj : ∀ i j, i <= 61 -> j <= 61 -> l i = l j -> i = j
 nm : ∀ i, i <= 61 -> NameOk (l i)
 all : ∀ q, q < ts.length -> ∃ i, i <= 61 /\ (tx ts q).name = l i
 one : ∃ q, q < ts.length /\ tx ts q = ⟨l 0, [litI (l 61), askI, dropI, litI (l 1), askI, endI]⟩
 mid : ∀ i, 1 <= i -> i <= 60 -> ∃ q, q < ts.length /\ tx ts q = ⟨l i, [litI (l (i + 1)), askI, endI]⟩
 last : ∃ q, q < ts.length /\ tx ts q = ⟨l 61, [litI mk, endI]⟩
 mks : mk.size <= 2000
theorem name_le {x : ByteArray} (h : NameOk x) : x.size <= 2000 := by have := h.2.1; omega
theorem go_lit {is : List I3} {p k m : Nat} {l : List ByteArray} {x : ByteArray} (hp : p < is.length) (hk : k < 2000) (e : ix is p = litI x) (hl : l.length < 50) (hx : x.size <= 2000) : step0 is ⟨p, l, k, m⟩ = .go ⟨p + 1, l ++ [x], k + 1, m⟩ := by
 have hb : ¬ Bad 1 x 0 l := by
  unfold Bad
  rintro (h | ⟨y, h1, h2⟩)
  ·simp [restL, takesN, takesOf, outP] at h; omega
  ·simp [outP] at h1; subst h1; omega
 have h := (st_ins (s := ⟨p, l, k, m⟩) hp (show k ≠ 2000 by omega) (o := 1) (t := x) (n := 0) (by rw [e]; rfl)).trans (ins_go (by simp [takesN, takesOf]) (by omega) hb)
 rw [h]
 simp [nextP, restL, takesN, takesOf, outP]
theorem lookA0 {is : List I3} {p k m : Nat} {l : List ByteArray} {x : ByteArray} (hp : p < is.length) (hk : k < 2000) (e : ix is p = askI) (hx : NameOk x) (hm : m < 200) : step0 is ⟨p, l ++ [x], k, m⟩ = .look true x ⟨p, l, k + 1, m + 1⟩ := by
 have ht : topB (l ++ [x]) = x := by unfold topB; simp
 have h := (st_ins (s := ⟨p, l ++ [x], k, m⟩) hp (show k ≠ 2000 by omega) (o := 12) (t := ByteArray.empty) (n := 0) (by rw [e]; rfl)).trans (ins_look (by simp [takesN, takesOf]) (Or.inl rfl) (by rw [ht]; exact hx) (show m ≠ 200 by omega))
 rw [h, ht]
 simp [restL, takesN, takesOf]
theorem over_end {is : List I3} {p k m : Nat} {l : List ByteArray} {x : ByteArray} (hp : p < is.length) (hk : k < 2000) (e : ix is p = endI) : step0 is ⟨p, l ++ [x], k, m⟩ = .over 0 x (k + 1) := by
 have ht : topB (l ++ [x]) = x := by unfold topB; simp
 have h := (st_ins (s := ⟨p, l ++ [x], k, m⟩) hp (show k ≠ 2000 by omega) (o := 15) (t := ByteArray.empty) (n := 0) (by rw [e]; rfl)).trans (ins_end (by simp [takesN, takesOf]) rfl)
 rw [h, ht]
theorem go_drop {is : List I3} {p k m : Nat} {l : List ByteArray} {x : ByteArray} (hp : p < is.length) (hk : k < 2000) (e : ix is p = dropI) (hl : l.length < 50) : step0 is ⟨p, l ++ [x], k, m⟩ = .go ⟨p + 1, l, k + 1, m⟩ := by
 have hb : ¬ Bad 9 ByteArray.empty 0 (l ++ [x]) := by
  unfold Bad
  rintro (h | ⟨y, h1, h2⟩)
  ·simp [restL, takesN, takesOf, outP] at h; omega
  ·simp [outP] at h1
 have h := (st_ins (s := ⟨p, l ++ [x], k, m⟩) hp (show k ≠ 2000 by omega) (o := 9) (t := ByteArray.empty) (n := 0) (by rw [e]; rfl)).trans (ins_go (by simp [takesN, takesOf]) (by omega) hb)
 rw [h]
 simp [nextP, restL, takesN, takesOf, outP]
theorem ans_t (x t : ByteArray) : ansP true x (rx [⟨true, 0, t⟩] 0) ⟨1, [], 2, 1⟩ = .go ⟨2, [t], 2, 1⟩ := by simp [ansP, rx]
theorem f_mid0 {x : ByteArray} (hx : NameOk x) : Full [litI x, askI, endI] [] s00 (.wait true x 2) :=
 .go (go_lit (by simp) (by omega) rfl (by simp) (name_le hx)) (.wait (lookA0 (l := []) (by simp) (by omega) rfl hx (by omega)) (by simp))
theorem f_mid1 {x : ByteArray} (hx : NameOk x) (t : ByteArray) : Full [litI x, askI, endI] [⟨true, 0, t⟩] s00 (.over 0 t 3) :=
 .go (go_lit (by simp) (by omega) rfl (by simp) (name_le hx)) (.ans (lookA0 (l := []) (by simp) (by omega) rfl hx (by omega)) (by simp) (ans_t _ t) (.over (over_end (l := []) (by simp) (by omega) rfl)))
theorem f_last {x : ByteArray} (hx : x.size <= 2000) : Full [litI x, endI] [] s00 (.over 0 x 2) :=
 .go (go_lit (by simp) (by omega) rfl (by simp) hx) (.over (over_end (l := []) (by simp) (by omega) rfl))
theorem f_one0 {x z : ByteArray} (hz : NameOk z) : Full [litI z, askI, dropI, litI x, askI, endI] [] s00 (.wait true z 2) :=
 .go (go_lit (by simp) (by omega) rfl (by simp) (name_le hz)) (.wait (lookA0 (l := []) (by simp) (by omega) rfl hz (by omega)) (by simp))
theorem f_one1 {x z : ByteArray} (hz : NameOk z) (hx : NameOk x) (t : ByteArray) : Full [litI z, askI, dropI, litI x, askI, endI] [⟨true, 0, t⟩] s00 (.wait true x 5) :=
 .go (go_lit (by simp) (by omega) rfl (by simp) (name_le hz)) (.ans (lookA0 (l := []) (by simp) (by omega) rfl hz (by omega)) (by simp) (ans_t _ t) (.go (go_drop (l := []) (by simp) (by omega) rfl (by simp)) (.go (go_lit (l := []) (by simp) (by omega) rfl (by simp) (name_le hx)) (.wait (lookA0 (l := []) (by simp) (by omega) rfl hx (by omega)) (by simp)))))
theorem nobody {is : List I3} {ys : List R3} {ask ask' : Bool} {x y : ByteArray} {n m : Nat} (h : Full is ys s00 (.wait ask x n)) (h' : Full is ys s00 (.wait ask' y m)) : ask = ask' /\ x = y := by
 have := h.unique h'
 injection this with a b
 exact ⟨a, b⟩
open Classical in
theorem rep_tgt {ss : List S2} {ts : List T2} {nm : ByteArray} {d : Md} (h : Has (tnames ts) nm) : repP ss ts nm d = ⟨true, d.c, d.t⟩ := by
 unfold repP
 rw [if_pos (by unfold thingB; rw [decide_eq_true_iff]; exact Or.inr h)]
theorem Ch.tgt {ts : List T2} {l : Nat -> ByteArray} {mk : ByteArray} (h : Ch ts l mk) (i : Nat) (hi : i <= 61) : Has (tnames ts) (l i) := by
 rcases (show i = 0 \/ (1 <= i /\ i <= 60) \/ i = 61 by omega) with rfl | ⟨h1, h2⟩ | rfl
 ·obtain ⟨q, hq, e⟩ := h.one; have := has_tgt hq; rw [e] at this; exact this
 ·obtain ⟨q, hq, e⟩ := h.mid i h1 h2; have := has_tgt hq; rw [e] at this; exact this
 ·obtain ⟨q, hq, e⟩ := h.last; have := has_tgt hq; rw [e] at this; exact this
theorem Ch.ev {ss : List S2} {ts : List T2} (hv : SpV ss ts) {l : Nat -> ByteArray} {mk : ByteArray} (h : Ch ts l mk) : ∀ k, k <= 60 -> ∃ d, Ev ss ts (k + 1) (.make (l (61 - k))) d /\ d.c = 0
 | 0, _ => by
  obtain ⟨q, hq, e⟩ := h.last
  refine ⟨⟨0, mk, []⟩, .made (fun hn => hv.dis _ hn (h.tgt 61 (by omega))) hq (by rw [e]) ?_, rfl⟩
  rw [e]
  exact .over (f_last h.mks)
 | k + 1, hk => by
  obtain ⟨d, h1, h2⟩ := Ch.ev hv h k (by omega)
  obtain ⟨q, hq, e⟩ := h.mid (61 - (k + 1)) (by omega) (by omega)
  rw [show 61 - (k + 1) + 1 = 61 - k by omega] at e
  have hr : repP ss ts (l (61 - k)) d = ⟨true, 0, d.t⟩ := by rw [rep_tgt (h.tgt _ (by omega)), h2]
  refine ⟨⟨0, d.t, [⟨l (61 - k), true, formB d.c d.t⟩]⟩, .made (fun hn => hv.dis _ hn (h.tgt (61 - (k + 1)) (by omega))) hq (by rw [e]) ?_, rfl⟩
  rw [e]
  have := Ev.asked (f_mid0 (h.nm (61 - k) (by omega))) h1 (ls := []) (k' := 0) (d' := ⟨0, d.t, [⟨l (61 - k), true, formB d.c d.t⟩]⟩) (ss := ss) (ts := ts) (by rw [hr]; exact .over (f_mid1 (h.nm (61 - k) (by omega)) d.t))
  rw [Nat.max_eq_left (Nat.zero_le _)] at this
  exact this
theorem Ch.dead {ss : List S2} {ts : List T2} (hv : SpV ss ts) {l : Nat -> ByteArray} {mk : ByteArray} (h : Ch ts l mk) : ∀ (k : Nat) (ms : Ms) (st : List ByteArray) (ms' : Ms) (a : Ans), k <= 59 -> st.length = 60 - k -> (∀ j, 60 - k <= j -> j <= 60 -> lk ms (l j) = none) -> Does ss ts ms st (.make (l (60 - k))) ms' a -> a.stop := by
 intro k
 induction k with
 | zero =>
  intro ms st ms' a _ hl hn hd
  have h0 := hn 60 (by omega) (by omega)
  cases hd with
  | known h1 => rw [h0] at h1; cases h1
  | circle h1 => rw [h0] at h1; cases h1
  | source h1 h2 h3 => exact absurd (h.tgt 60 (by omega)) (hv.dis _ (h3 ▸ has_src h2))
  | missing h1 h2 => exact absurd (Or.inr (h.tgt 60 (by omega))) h2
  | deep => exact trivial
  | made h1 h2 h3 h4 h5 => omega
  | fell h1 h2 h3 h4 h5 => omega
 | succ k ih =>
  intro ms st ms' a hk hl hn hd
  have h0 := hn (60 - (k + 1)) (by omega) (by omega)
  cases hd with
  | known h1 => rw [h0] at h1; cases h1
  | circle h1 => rw [h0] at h1; cases h1
  | source h1 h2 h3 => exact absurd (h.tgt (60 - (k + 1)) (by omega)) (hv.dis _ (h3 ▸ has_src h2))
  | missing h1 h2 => exact absurd (Or.inr (h.tgt (60 - (k + 1)) (by omega))) h2
  | deep => exact trivial
  | fell h1 h2 h3 h4 h5 h6 h7 => exact h7
  | made h1 h2 h3 h4 h5 h6 =>
   obtain ⟨q, hq, e⟩ := h.mid (60 - (k + 1)) (by omega) (by omega)
   cases tgt_inj hv.ascT h3 hq (by rw [h4, e])
   rw [e, show 60 - (k + 1) + 1 = 60 - k by omega] at h6
   have hf := f_mid0 (h.nm (60 - k) (by omega))
   cases h6 with
   | over k1 => cases hf.unique k1
   | has k1 => cases (nobody hf k1).1
   | asked k1 k2 k3 =>
    obtain ⟨_, ex⟩ := nobody hf k1
    subst ex
    refine absurd (ih _ _ _ _ (by omega) (by simp; omega) (fun j hj hj' => ?_) k2) id
    rw [lk_app_other (fun e' => by have := h.inj _ _ (by omega) (by omega) e'; omega)]
    exact hn j (by omega) hj'
   | askfell k1 k2 k3 => exact absurd k3 id
theorem Ch.first {ss : List S2} {ts : List T2} (hv : SpV ss ts) {l : Nat -> ByteArray} {mk : ByteArray} (h : Ch ts l mk) {ms : Ms} {d : Md} : ¬ Does ss ts [] [] (.make (l 0)) ms (.ok d) := by
 intro hd
 cases hd with
 | source h1 h2 h3 => exact absurd (h.tgt 0 (by omega)) (hv.dis _ (h3 ▸ has_src h2))
 | missing h1 h2 => exact absurd (Or.inr (h.tgt 0 (by omega))) h2
 | fell h1 h2 h3 h4 h5 h6 h7 => exact h7
 | known h1 => simp [lk] at h1
 | made h1 h2 h3 h4 h5 h6 =>
  obtain ⟨q, hq, e⟩ := h.one
  cases tgt_inj hv.ascT h3 hq (by rw [h4, e])
  rw [e] at h6
  have hf := f_one0 (x := l 1) (h.nm 61 (by omega))
  cases h6 with
  | over k1 => cases hf.unique k1
  | has k1 => cases (nobody hf k1).1
  | askfell k1 k2 k3 => exact absurd k3 id
  | asked k1 k2 k3 =>
   obtain ⟨_, ex⟩ := nobody hf k1
   subst ex
   have hz : lk ([] ++ [(l 0, none)]) (l 61) = none := by rw [lk_app_other (fun e' => by have := h.inj 0 61 (by omega) (by omega) e'; omega)]; simp [lk]
   cases k2 with
   | known h1 => rw [hz] at h1; cases h1
   | source h1 h2 h3 => exact absurd (h.tgt 61 (by omega)) (hv.dis _ (h3 ▸ has_src h2))
   | missing h1 h2 => exact absurd (Or.inr (h.tgt 61 (by omega))) h2
   | fell g1 g2 g3 g4 g5 g6 g7 => exact g7
   | made g1 g2 g3 g4 g5 g6 =>
    obtain ⟨q', hq', e'⟩ := h.last
    cases tgt_inj hv.ascT g3 hq' (by rw [g4, e'])
    rw [e'] at g6
    have hl := f_last h.mks
    cases g6 with
    | has k1 => cases hl.unique k1
    | asked k1 => cases hl.unique k1
    | askfell k1 => cases hl.unique k1
    | over k1 =>
     cases hl.unique k1
     rw [rep_tgt (h.tgt 61 (by omega))] at k3
     have hf1 := f_one1 (h.nm 61 (by omega)) (h.nm 1 (by omega)) mk
     cases k3 with
     | over k1 => cases hf1.unique k1
     | has k1 => cases (nobody hf1 k1).1
     | askfell k1 k2 k3 => exact absurd k3 id
     | asked k1 k2 k3 =>
      obtain ⟨_, ex⟩ := nobody hf1 k1
      subst ex
      refine absurd (h.dead hv 59 _ _ _ _ (by omega) (by simp) (fun j hj hj' => ?_) k2) id
      rw [lk_set_other (fun e' => by have := h.inj _ _ (by omega) (by omega) e'; omega), lk_app_other (fun e' => by have := h.inj _ _ (by omega) (by omega) e'; omega), lk_app_other (fun e' => by have := h.inj _ _ (by omega) (by omega) e'; omega)]
      simp [lk]
def Shal (ts : List T2) : Prop := (ts.filter fun t => askB t.code).length <= 60 \/ (ts.length <= 61 /\ ∀ t ∈ ts, askB t.code = true) \/ ∃ l mk, Ch ts l mk
theorem looks_clean {ss : List S2} {ts : List T2} (hv : SpV ss ts) (hS : Shal ts) {nm : ByteArray} {ms : Ms} {d : Md} (hd : Does ss ts [] [] (.make nm) ms (.ok d)) : ∀ g ∈ d.ls, g.ask = true -> ∃ ms' d', Does ss ts [] [] (.make g.name) ms' (.ok d') /\ g.sum = formB d'.c d'.t /\ NameOk g.name := by
 obtain ⟨⟨k, hk⟩, _⟩ := hd.ev (fun nm d h => by simp [lk] at h) d rfl
 have hle : k <= 61 := by
  obtain ⟨f1, f2⟩ := hk.few hv.ascS hv.ascT
  rcases hS with h | ⟨h, ha⟩ | ⟨l, mk, h⟩
  ·omega
  ·have := f2 ha
   have := List.length_filter_le (fun t : T2 => askB t.code) ts
   omega
  ·rcases hk.inv with h0 | ⟨i, k', e, h1, h2, h3, h4⟩
   ·omega
   ·obtain ⟨j, hj, ej⟩ := h.all i h2
    have en : nm = l j := h3.symm.trans ej
    subst en
    cases j with
    | zero => exact absurd hd (h.first hv)
    | succ j =>
     obtain ⟨d', h5, _⟩ := h.ev hv (61 - (j + 1)) (by omega)
     rw [show 61 - (61 - (j + 1)) = j + 1 by omega] at h5
     have := (h5.unique hv.ascS hv.ascT hk).1
     omega
 intro g hg ha
 obtain ⟨k', d', h1, h2, h3, h5⟩ := hk.looks g hg ha
 obtain ⟨ms', h4⟩ := h2.clean hv.ascS hv.ascT (by omega)
 exact ⟨ms', d', h4, h3, h5⟩
end Go.Proofs.YtmanoabocelpeaaGreatDoor
namespace Go.Proofs.YtmanoabocelpeaaGreatDoor
open Go.RowKit Go.Deep
set_option linter.unusedVariables false
def SpS (B R : Nat) (a : Option Addr) (len cap p K : Nat) (w : World) (e : Ending) (w' : World) : Prop :=
 ∃ v1 v2 l1 l2, e = .returned (.agg #[v1, v2]) /\ Dw w' w.heap.size v1 v2 l1 l2 /\ BdS l1 l2 /\ RdK B R a len cap p K w w' /\ Shal (l2.map (·.t))
theorem shal_cnt {l : List TC} (h : (l.filter fun a => askB a.t.code).length <= 60) : Shal (l.map (·.t)) := Or.inl (by rw [List.filter_map, List.length_map]; exact h)
theorem shal_few (l : List TC) (h : l.length <= 60) : Shal (l.map (·.t)) := shal_cnt (Nat.le_trans (List.length_filter_le _ _) h)
theorem ask_skip {l : List TC} {x : TC} (h : askB x.t.code = false) : ((l ++ [x]).filter fun a => askB a.t.code).length = (l.filter fun a => askB a.t.code).length := by
 rw [List.filter_append, List.length_append, List.filter_cons_of_neg (by simp [h])]
 rfl
section
variable {P : Program} {ops : Array Oper} {Q : Exit -> Act -> World -> Prop} {S : World -> Prop} {z : Nat}
theorem Lt.two {i j : Nat} {oi oj : Oper} {n : Nat} {l : Array Bool} {a : Act} {w : World} (hr : Region.ready .any ops l = [i, j]) (hi : ops.toList[i]? = some oi) (hj : ops.toList[j]? = some oj)
  (h1 : ∀ K : Act -> World -> Prop, Shut (∀ a w, (i ≠ z -> S w) -> ((i ≠ z -> S w) -> Lt P ops Q S z n (l.setIfInBounds i true) a w) -> K a w) -> if Region.wanted oi (yielded ops a.tmps) = true then Oper.wp P oi a w K Q else K (a.put oi.dst undef) w)
  (h2 : ∀ K : Act -> World -> Prop, Shut (∀ a w, (j ≠ z -> S w) -> ((j ≠ z -> S w) -> Lt P ops Q S z n (l.setIfInBounds j true) a w) -> K a w) -> if Region.wanted oj (yielded ops a.tmps) = true then Oper.wp P oj a w K Q else K (a.put oj.dst undef) w) : Lt P ops Q S z (n + 1) l a w := by
 refine ⟨fun h0 => (by rw [hr] at h0; cases h0), fun m hm => ?_⟩
 rw [hr] at hm
 rcases List.mem_cons.1 hm with q | q
 ·subst q
  exact wpOp_step (Array.getElem?_toList.symm.trans hi) (fun K hK => h1 K (fun a w hS hW => hK a w ⟨hS, hW hS⟩))
 ·obtain rfl : m = j := by simpa using q
  exact wpOp_step (Array.getElem?_toList.symm.trans hj) (fun K hK => h2 K (fun a w hS hW => hK a w ⟨hS, hW hS⟩))
end
theorem tcV_setC : ∀ (l : List TC) (i : Nat) (c : Value) (is : List I3), i < l.length -> (tcV l).set (i * 2 + 1) c = tcV (l.set i ⟨⟨(cx l i).t.name, is⟩, c⟩)
 | [], i, c, is, h => by simp at h
 | e :: r, 0, c, is, h => rfl
 | e :: r, i + 1, c, is, h => by
  have ih := tcV_setC r i c is (by simpa using h)
  have e1 : cx (e :: r) (i + 1) = cx r i := rfl
  rw [e1, List.set_cons_succ]
  show (Value.string e.t.name :: e.c :: tcV r).set ((i + 1) * 2 + 1) c = Value.string e.t.name :: e.c :: tcV (r.set i _)
  rw [show (i + 1) * 2 + 1 = (i * 2 + 1) + 1 + 1 by omega, List.set_cons_succ, List.set_cons_succ, ih]
theorem tcV_setX : ∀ (l : List TC) (i : Nat) (x : TC), i < l.length -> ((tcV l).set (i * 2) (.string x.t.name)).set (i * 2 + 1) x.c = tcV (l.set i x)
 | [], i, x, h => by simp at h
 | e :: r, 0, x, h => rfl
 | e :: r, i + 1, x, h => by
  have ih := tcV_setX r i x (by simpa using h)
  rw [List.set_cons_succ]
  show ((Value.string e.t.name :: e.c :: tcV r).set ((i + 1) * 2) _).set ((i + 1) * 2 + 1) x.c = Value.string e.t.name :: e.c :: tcV (r.set i _)
  rw [show (i + 1) * 2 = i * 2 + 1 + 1 by omega, List.set_cons_succ, List.set_cons_succ, List.set_cons_succ, List.set_cons_succ, ih]
theorem srcV_setT : ∀ (l : List S2) (i : Nat) (t : ByteArray), i < l.length -> (srcV l).set (i * 2 + 1) (.string t) = srcV (l.set i ⟨(sx l i).name, t⟩)
 | [], i, t, h => by simp at h
 | e :: r, 0, t, h => rfl
 | e :: r, i + 1, t, h => by
  have ih := srcV_setT r i t (by simpa using h)
  have e1 : sx (e :: r) (i + 1) = sx r i := rfl
  rw [e1, List.set_cons_succ]
  show (Value.string e.name :: Value.string e.text :: srcV r).set ((i + 1) * 2 + 1) _ = Value.string e.name :: Value.string e.text :: srcV (r.set i _)
  rw [show (i + 1) * 2 + 1 = (i * 2 + 1) + 1 + 1 by omega, List.set_cons_succ, List.set_cons_succ, ih]
theorem srcV_setN : ∀ (l : List S2) (i : Nat) (t : ByteArray), i < l.length -> (srcV l).set (i * 2) (.string t) = srcV (l.set i ⟨t, (sx l i).text⟩)
 | [], i, t, h => by simp at h
 | e :: r, 0, t, h => rfl
 | e :: r, i + 1, t, h => by
  have ih := srcV_setN r i t (by simpa using h)
  have e1 : sx (e :: r) (i + 1) = sx r i := rfl
  rw [e1, List.set_cons_succ]
  show (Value.string e.name :: Value.string e.text :: srcV r).set ((i + 1) * 2) _ = Value.string e.name :: Value.string e.text :: srcV (r.set i _)
  rw [show (i + 1) * 2 = i * 2 + 1 + 1 by omega, List.set_cons_succ, List.set_cons_succ, ih]
theorem mem_setL {α : Type} {p : α -> Prop} {l : List α} {i : Nat} {x : α} (h : ∀ a ∈ l, p a) (hx : p x) : ∀ a ∈ l.set i x, p a := fun a ha => by
 rcases List.mem_or_eq_of_mem_set ha with q | q
 ·exact h a q
 ·rw [q]; exact hx
section
variable {V : World} {P lo g cap : Nat} {v1 v2 : Value} {l1 : List S2} {l2 : List TC}
theorem Sw.setC (h : Sw V P lo v1 (.slice (some ⟨g, 0, none⟩) l2.length cap) l1 l2) (i : Nat) (hi : i < l2.length) {c : Value} {is : List I3} (hc : V.ownsRow lo 91 3 c is.length (insC is)) (hl : is.length <= 400) (hx : ∀ x ∈ is, x.text.size <= 50000) :
  Sw (V.setCell ⟨g, i * 2 + 1, none⟩ c) P lo v1 (.slice (some ⟨g, 0, none⟩) l2.length cap) l1 (l2.set i ⟨⟨(cx l2 i).t.name, is⟩, c⟩) := by
 have hst := h.dw.t.stored (i * 2 + 1) c
 rw [tcV_setC l2 i c is hi] at hst
 have hP : P ≠ g := fun e => h.noR.2 (by rw [e]; rfl)
 refine ⟨?_, ⟨own_set2 h.dw.s h.dw.t (by decide) c, by rw [List.length_set]; exact hst.1, fun a ha => ?_⟩, ⟨h.bd.n1, by rw [List.length_set]; exact h.bd.n2, h.bd.s, mem_setL h.bd.t ⟨(h.bd.t _ (cx_mem hi)).1, hl, hx⟩⟩, h.ge⟩
 ·exact blk_set h.blk hP c
 ·rcases List.mem_or_eq_of_mem_set ha with q | q
  ·exact own_set2 (h.dw.c a q) h.dw.t (by decide) c
  ·rw [q]; exact own_set2 hc h.dw.t (by decide) c
theorem Sw.setX (h : Sw V P lo v1 (.slice (some ⟨g, 0, none⟩) l2.length cap) l1 l2) (i : Nat) (hi : i < l2.length) {x : TC} (hc : V.ownsRow lo 91 3 x.c x.t.code.length (insC x.t.code)) (hx : x.t.name.size <= 50000 /\ x.t.code.length <= 400 /\ ∀ y ∈ x.t.code, y.text.size <= 50000) :
  Sw ((V.setCell ⟨g, i * 2, none⟩ (.string x.t.name)).setCell ⟨g, i * 2 + 1, none⟩ x.c) P lo v1 (.slice (some ⟨g, 0, none⟩) l2.length cap) l1 (l2.set i x) := by
 have hs1 := (h.dw.t.stored (i * 2) (.string x.t.name)).1
 have hst := hs1.stored (i * 2 + 1) x.c
 rw [tcV_setX l2 i x hi] at hst
 have hP : P ≠ g := fun e => h.noR.2 (by rw [e]; rfl)
 refine ⟨?_, ⟨own_set2 (own_set2 h.dw.s h.dw.t (by decide) _) hs1 (by decide) _, by rw [List.length_set]; exact hst.1, fun a ha => ?_⟩, ⟨h.bd.n1, by rw [List.length_set]; exact h.bd.n2, h.bd.s, mem_setL h.bd.t hx⟩, h.ge⟩
 ·exact blk_set (blk_set h.blk hP _) hP _
 ·rcases List.mem_or_eq_of_mem_set ha with q | q
  ·exact own_set2 (own_set2 (h.dw.c a q) h.dw.t (by decide) _) hs1 (by decide) _
  ·rw [q]; exact own_set2 (own_set2 hc h.dw.t (by decide) _) hs1 (by decide) _
theorem Sw.setT (h : Sw V P lo (.slice (some ⟨g, 0, none⟩) l1.length cap) v2 l1 l2) (i : Nat) (hi : i < l1.length) {t : ByteArray} (ht : t.size <= 50000) :
  Sw (V.setCell ⟨g, i * 2 + 1, none⟩ (.string t)) P lo (.slice (some ⟨g, 0, none⟩) l1.length cap) v2 (l1.set i ⟨(sx l1 i).name, t⟩) l2 := by
 have hst := h.dw.s.stored (i * 2 + 1) (.string t)
 rw [srcV_setT l1 i t hi] at hst
 have hP : P ≠ g := fun e => h.noR.1 (by rw [e]; rfl)
 refine ⟨?_, ⟨by rw [List.length_set]; exact hst.1, own_set2 h.dw.t h.dw.s (by decide) _, fun a ha => own_set2 (h.dw.c a ha) h.dw.s (by decide) _⟩, ⟨by rw [List.length_set]; exact h.bd.n1, h.bd.n2, mem_setL h.bd.s ⟨(h.bd.s _ (sx_mem hi)).1, ht⟩, h.bd.t⟩, h.ge⟩
 exact blk_set h.blk hP _
theorem Sw.setN (h : Sw V P lo (.slice (some ⟨g, 0, none⟩) l1.length cap) v2 l1 l2) (i : Nat) (hi : i < l1.length) {t : ByteArray} (ht : t.size <= 50000) :
  Sw (V.setCell ⟨g, i * 2, none⟩ (.string t)) P lo (.slice (some ⟨g, 0, none⟩) l1.length cap) v2 (l1.set i ⟨t, (sx l1 i).text⟩) l2 := by
 have hst := h.dw.s.stored (i * 2) (.string t)
 rw [srcV_setN l1 i t hi] at hst
 have hP : P ≠ g := fun e => h.noR.1 (by rw [e]; rfl)
 refine ⟨?_, ⟨by rw [List.length_set]; exact hst.1, own_set2 h.dw.t h.dw.s (by decide) _, fun a ha => own_set2 (h.dw.c a ha) h.dw.s (by decide) _⟩, ⟨by rw [List.length_set]; exact h.bd.n1, h.bd.n2, mem_setL h.bd.s ⟨ht, (h.bd.s _ (sx_mem hi)).2⟩, h.bd.t⟩, h.ge⟩
 exact blk_set h.blk hP _
theorem spoil_end {B R : Nat} {a : Option Addr} {len cap' p K b : Nat} {w W : World} {x y : Value} (h : Sw W P w.heap.size v1 v2 l1 l2) (hr : RdK B R a len cap' p K w W) (hB : B <= w.heap.size) (hq : W.heap[b]? = some (.cells #[x, y] 26 (0, 0))) (hb : w.heap.size <= b) (hK : K <= 600) (hS : Shal (l2.map (·.t))) :
  ∃ u1 u2 m1 m2, Ending.returned (.agg #[v1, v2]) = .returned (.agg #[u1, u2]) /\ Dw ((W.setCell ⟨b, 0, none⟩ v1).setCell ⟨b, 1, none⟩ v2) w.heap.size u1 u2 m1 m2 /\ BdS m1 m2 /\ RdK B R a len cap' p 600 w ((W.setCell ⟨b, 0, none⟩ v1).setCell ⟨b, 1, none⟩ v2) /\ Shal (m2.map (·.t)) :=
 ⟨v1, v2, l1, l2, rfl, h.dw.ret hq, h.bd, ((hr.set hB hb _).set hB hb _).more hK, hS⟩
end
end Go.Proofs.YtmanoabocelpeaaGreatDoor
