import Derived.Test.YtmanoabocelpeaaGreatDoorTClB
namespace Go.Proofs.YtmanoabocelpeaaGreatDoor
open Go.RowKit
set_option linter.unusedVariables false
inductive Ev (ss : List S2) (ts : List T2) : Nat -> Job -> Md -> Prop
 | source {nm i} : i < ss.length -> (sx ss i).name = nm -> Ev ss ts 0 (.make nm) ⟨0, (sx ss i).text, []⟩
 | missing {nm} : ¬ Thing ss ts nm -> Ev ss ts 0 (.make nm) ⟨4, nm, []⟩
 | made {nm i k d} : ¬ Has (snames ss) nm -> i < ts.length -> (tx ts i).name = nm -> Ev ss ts k (.run (tx ts i).code [] []) d -> Ev ss ts (k + 1) (.make nm) d
 | over {is ys ls c t n} : Full is ys s00 (.over c t n) -> Ev ss ts 0 (.run is ys ls) ⟨c, t, ls⟩
 | has {is ys ls nm n k d} : Full is ys s00 (.wait false nm n) -> Ev ss ts k (.run is (ys ++ [⟨thingB ss ts nm, 0, ⟨#[]⟩⟩]) (ls ++ [⟨nm, false, flagB (thingB ss ts nm)⟩])) d -> Ev ss ts k (.run is ys ls) d
 | asked {is ys ls nm n k k' d d'} : Full is ys s00 (.wait true nm n) -> Ev ss ts k (.make nm) d -> Ev ss ts k' (.run is (ys ++ [repP ss ts nm d]) (ls ++ [⟨nm, true, formB d.c d.t⟩])) d' -> Ev ss ts (max k k') (.run is ys ls) d'
theorem Ev.unique {ss : List S2} {ts : List T2} (hs : Asc (snames ss)) (ht : Asc (tnames ts)) {k : Nat} {j : Job} {d : Md} (h : Ev ss ts k j d) : ∀ {k' d'}, Ev ss ts k' j d' -> k' = k /\ d' = d := by
 induction h with
 | source h1 h2 =>
  intro k' d' h'
  cases h' with
  | source k1 k2 => cases src_inj hs k1 h1 (k2.trans h2.symm); exact ⟨rfl, rfl⟩
  | missing k1 => exact absurd (Or.inl (h2 ▸ has_src h1)) k1
  | made k1 => exact absurd (h2 ▸ has_src h1) k1
 | missing h1 =>
  intro k' d' h'
  cases h' with
  | source k1 k2 => exact absurd (Or.inl (k2 ▸ has_src k1)) h1
  | missing k1 => exact ⟨rfl, rfl⟩
  | made k1 k2 k3 => exact absurd (Or.inr (k3 ▸ has_tgt k2)) h1
 | made h1 h2 h3 h4 ih =>
  intro k' d' h'
  cases h' with
  | source k1 k2 => exact absurd (k2 ▸ has_src k1) h1
  | missing k1 => exact absurd (Or.inr (h3 ▸ has_tgt h2)) k1
  | made k1 k2 k3 k4 =>
   cases tgt_inj ht k2 h2 (k3.trans h3.symm)
   obtain ⟨e, e'⟩ := ih k4
   exact ⟨by rw [e], e'⟩
 | over h1 =>
  intro k' d' h'
  cases h' with
  | over k1 => cases h1.unique k1; exact ⟨rfl, rfl⟩
  | has k1 => cases h1.unique k1
  | asked k1 => cases h1.unique k1
 | has h1 h2 ih =>
  intro k' d' h'
  cases h' with
  | over k1 => cases h1.unique k1
  | has k1 k2 => cases h1.unique k1; exact ih k2
  | asked k1 => cases h1.unique k1
 | asked h1 h2 h3 ih1 ih2 =>
  intro k' d' h'
  cases h' with
  | over k1 => cases h1.unique k1
  | has k1 => cases h1.unique k1
  | asked k1 k2 k3 =>
   cases h1.unique k1
   obtain ⟨e, e'⟩ := ih1 k2
   subst e; subst e'
   obtain ⟨e, e'⟩ := ih2 k3
   subst e; subst e'
   exact ⟨rfl, rfl⟩
def Snd (ss : List S2) (ts : List T2) (ms : Ms) : Prop := ∀ nm d, lk ms nm = some (some d) -> ∃ k, Ev ss ts k (.make nm) d
theorem Snd.app {ss : List S2} {ts : List T2} {ms : Ms} (h : Snd ss ts ms) {nm : ByteArray} {o : Option Md} (hn : lk ms nm = none) (ho : ∀ d, o = some d -> ∃ k, Ev ss ts k (.make nm) d) : Snd ss ts (ms ++ [(nm, o)]) := fun x d hx => by
 by_cases e : nm = x
 ·subst e
  rw [lk_app_new hn] at hx
  cases hx
  exact ho _ rfl
 ·rw [lk_app_other e] at hx
  exact h x d hx
theorem Snd.set {ss : List S2} {ts : List T2} {ms : Ms} (h : Snd ss ts ms) {nm : ByteArray} {d : Md} {k : Nat} (ho : Ev ss ts k (.make nm) d) : Snd ss ts (setMd ms nm d) := fun x d' hx => by
 by_cases e : nm = x
 ·subst e
  cases hl : lk ms nm with
  | none => rw [lk_none_iff, <- nms_set ms nm d, <- lk_none_iff] at hl; rw [hl] at hx; cases hx
  | some y => rw [lk_set_same hl] at hx; cases hx; exact ⟨k, ho⟩
 ·rw [lk_set_other e] at hx
  exact h x d' hx
theorem Does.ev {ss : List S2} {ts : List T2} {ms : Ms} {st : List ByteArray} {j : Job} {ms' : Ms} {a : Ans} (h : Does ss ts ms st j ms' a) : Snd ss ts ms -> ∀ d, a = .ok d -> (∃ k, Ev ss ts k j d) /\ Snd ss ts ms' := by
 induction h with
 | known h1 => intro hi d e; cases e; exact ⟨hi _ _ h1, hi⟩
 | circle => intro _ d e; cases e
 | source h1 h2 h3 => intro hi d e; cases e; exact ⟨⟨_, .source h2 h3⟩, hi.app h1 fun d e => by cases e; exact ⟨_, .source h2 h3⟩⟩
 | missing h1 h2 => intro hi d e; cases e; exact ⟨⟨_, .missing h2⟩, hi.app h1 fun d e => by cases e; exact ⟨_, .missing h2⟩⟩
 | deep => intro _ d e; cases e
 | made h1 h2 h3 h4 h5 h6 ih =>
  intro hi d e
  cases e
  obtain ⟨⟨k, hk⟩, hs⟩ := ih (hi.app h1 fun d e => by cases e) _ rfl
  exact ⟨⟨_, .made h2 h3 h4 hk⟩, hs.set (.made h2 h3 h4 hk)⟩
 | fell h1 h2 h3 h4 h5 h6 h7 => intro _ d e; subst e; exact absurd h7 id
 | over h1 => intro hi d e; cases e; exact ⟨⟨_, .over h1⟩, hi⟩
 | has h1 h2 ih =>
  intro hi d e
  obtain ⟨⟨k, hk⟩, hs⟩ := ih hi d e
  exact ⟨⟨_, .has h1 hk⟩, hs⟩
 | asked h1 h2 h3 ih1 ih2 =>
  intro hi d e
  obtain ⟨⟨k, hk⟩, hs⟩ := ih1 hi _ rfl
  obtain ⟨⟨k', hk'⟩, hs'⟩ := ih2 hs d e
  exact ⟨⟨_, .asked h1 hk hk'⟩, hs'⟩
 | askfell h1 h2 h3 => intro _ d e; subst e; exact absurd h3 id
theorem step_name {is : List I3} {s s' : St} {ask : Bool} {nm : ByteArray} (h : step0 is s = .look ask nm s') : NameOk nm := by
 unfold step0 at h
 split at h
 ·cases h
 ·split at h
  ·cases h
  ·simp only [insP] at h
   split at h
   ·cases h
   ·split at h
    ·cases h
    ·split at h
     ·cases h
     ·split at h
      ·split at h
       ·cases h
       ·split at h
        ·cases h
        ·rename_i h1 h2
         injection h with e1 e2 e3
         rw [<- e2]
         exact Classical.not_not.mp h1
      ·split at h <;> cases h
theorem full_name {is : List I3} {ys : List R3} {s : St} {r : Res} (h : Full is ys s r) : ∀ {ask nm n}, r = .wait ask nm n -> NameOk nm := by
 induction h with
 | over => intro ask nm n e; cases e
 | go _ _ ih => exact ih
 | wait h1 => intro ask nm n e; cases e; exact step_name h1
 | ans _ _ _ _ ih => exact ih
 | «end» => intro ask nm n e; cases e
def Good (ss : List S2) (ts : List T2) (K : Nat) (ls : List G3) : Prop := ∀ g ∈ ls, g.ask = true -> ∃ k d, k <= K /\ Ev ss ts k (.make g.name) d /\ g.sum = formB d.c d.t /\ NameOk g.name
theorem Ev.good {ss : List S2} {ts : List T2} {k : Nat} {j : Job} {d : Md} (h : Ev ss ts k j d) : ∀ {is ys ls}, j = .run is ys ls -> ∀ K, k <= K -> Good ss ts K ls -> Good ss ts K d.ls := by
 induction h with
 | source | missing | made => intro is ys ls e; cases e
 | over h1 => intro is ys ls e K _ hg; cases e; exact hg
 | has h1 h2 ih =>
  intro is ys ls e K hk hg
  cases e
  refine ih rfl K hk fun g hm ha => ?_
  rcases List.mem_append.mp hm with hm | hm
  ·exact hg g hm ha
  ·rw [List.mem_singleton.mp hm] at ha; cases ha
 | asked h1 h2 h3 ih1 ih2 =>
  intro is ys ls e K hk hg
  cases e
  refine ih2 rfl K (by omega) fun g hm ha => ?_
  rcases List.mem_append.mp hm with hm | hm
  ·exact hg g hm ha
  ·rw [List.mem_singleton.mp hm]; exact ⟨_, _, by omega, h2, rfl, full_name h1 rfl⟩
theorem Ev.looks {ss : List S2} {ts : List T2} {k : Nat} {nm : ByteArray} {d : Md} (h : Ev ss ts k (.make nm) d) : Good ss ts (k - 1) d.ls := by
 cases h with
 | source => intro g hg; simp at hg
 | missing => intro g hg; simp at hg
 | made h1 h2 h3 h4 => exact h4.good rfl _ (by omega) fun g hg => by simp at hg
theorem Ev.does {ss : List S2} {ts : List T2} (hs : Asc (snames ss)) (ht : Asc (tnames ts)) {k : Nat} {j : Job} {d : Md} (h : Ev ss ts k j d) : ∀ (ms : Ms) (st : List ByteArray), Snd ss ts ms -> (∀ y, lk ms y = some none -> ∃ m e, k < m /\ Ev ss ts m (.make y) e) -> st.length + k <= 60 -> ∃ ms', Does ss ts ms st j ms' (.ok d) /\ Snd ss ts ms' /\ ∀ y, lk ms' y = some none -> lk ms y = some none := by
 have hmake : ∀ {nm k d}, Ev ss ts k (.make nm) d -> ∀ (ms : Ms) (st : List ByteArray), Snd ss ts ms -> (∀ y, lk ms y = some none -> ∃ m e, k < m /\ Ev ss ts m (.make y) e) -> (lk ms nm = none -> ∃ ms', Does ss ts ms st (.make nm) ms' (.ok d) /\ Snd ss ts ms' /\ ∀ y, lk ms' y = some none -> lk ms y = some none) -> ∃ ms', Does ss ts ms st (.make nm) ms' (.ok d) /\ Snd ss ts ms' /\ ∀ y, lk ms' y = some none -> lk ms y = some none := by
  intro nm k d h ms st hm hb hn
  cases hl : lk ms nm with
  | none => exact hn hl
  | some o =>
   cases o with
   | none =>
    obtain ⟨m, e, h1, h2⟩ := hb nm hl
    have := (h.unique hs ht h2).1
    omega
   | some d' =>
    obtain ⟨k', h'⟩ := hm nm d' hl
    obtain ⟨_, e⟩ := h.unique hs ht h'
    subst e
    exact ⟨ms, .known hl, hm, fun y hy => hy⟩
 have hnew : ∀ {ms : Ms} {nm : ByteArray} {d : Md}, lk ms nm = none -> ∀ y, lk (ms ++ [(nm, some d)]) y = some none -> lk ms y = some none := fun {ms nm d} hl y hy => by
  by_cases e : nm = y
  ·subst e; rw [lk_app_new hl] at hy; cases hy
  ·rw [lk_app_other e] at hy; exact hy
 induction h with
 | source h1 h2 =>
  intro ms st hm hb hk
  exact hmake (.source h1 h2) ms st hm hb fun hl => ⟨_, .source hl h1 h2, hm.app hl fun d e => by cases e; exact ⟨_, .source h1 h2⟩, hnew hl⟩
 | missing h1 =>
  intro ms st hm hb hk
  exact hmake (.missing h1) ms st hm hb fun hl => ⟨_, .missing hl h1, hm.app hl fun d e => by cases e; exact ⟨_, .missing h1⟩, hnew hl⟩
 | @made nm i k d h1 h2 h3 h4 ih =>
  intro ms st hm hb hk
  refine hmake (.made h1 h2 h3 h4) ms st hm hb fun hl => ?_
  obtain ⟨ms', h5, h6, h7⟩ := ih (ms ++ [(nm, none)]) (st ++ [nm]) (hm.app hl fun d e => by cases e) (fun y hy => by
   by_cases e : nm = y
   ·subst e; exact ⟨k + 1, d, by omega, .made h1 h2 h3 h4⟩
   ·rw [lk_app_other e] at hy
    obtain ⟨m, e', h8, h9⟩ := hb y hy
    exact ⟨m, e', by omega, h9⟩) (by simp; omega)
  refine ⟨_, .made hl h1 h2 h3 (by omega) h5, h6.set (.made h1 h2 h3 h4), fun y hy => ?_⟩
  by_cases e : nm = y
  ·subst e
   cases hq : lk ms' nm with
   | none => rw [lk_none_iff, <- nms_set ms' nm d, <- lk_none_iff] at hq; rw [hq] at hy; cases hy
   | some x => rw [lk_set_same hq] at hy; cases hy
  ·rw [lk_set_other e] at hy
   have := h7 y hy
   rw [lk_app_other e] at this
   exact this
 | over h1 => intro ms st hm hb hk; exact ⟨ms, .over h1, hm, fun y hy => hy⟩
 | has h1 h2 ih =>
  intro ms st hm hb hk
  obtain ⟨ms', h5, h6, h7⟩ := ih ms st hm hb hk
  exact ⟨ms', .has h1 h5, h6, h7⟩
 | @asked is ys ls nm n k k' d d' h1 h2 h3 ih1 ih2 =>
  intro ms st hm hb hk
  obtain ⟨ms1, h5, h6, h7⟩ := ih1 ms st hm (fun y hy => by obtain ⟨m, e', h8, h9⟩ := hb y hy; exact ⟨m, e', by omega, h9⟩) (by omega)
  obtain ⟨ms2, h8, h9, h10⟩ := ih2 ms1 st h6 (fun y hy => by obtain ⟨m, e', h8, h9⟩ := hb y (h7 y hy); exact ⟨m, e', by omega, h9⟩) (by omega)
  exact ⟨ms2, .asked h1 h5 h8, h9, fun y hy => h7 y (h10 y hy)⟩
theorem Ev.clean {ss : List S2} {ts : List T2} (hs : Asc (snames ss)) (ht : Asc (tnames ts)) {k : Nat} {nm : ByteArray} {d : Md} (h : Ev ss ts k (.make nm) d) (hk : k <= 60) : ∃ ms, Does ss ts [] [] (.make nm) ms (.ok d) := by
 obtain ⟨ms, h1, _⟩ := h.does hs ht [] [] (fun nm d h => by simp [lk] at h) (fun y h => by simp [lk] at h) (by simpa using hk)
 exact ⟨ms, h1⟩
end Go.Proofs.YtmanoabocelpeaaGreatDoor
