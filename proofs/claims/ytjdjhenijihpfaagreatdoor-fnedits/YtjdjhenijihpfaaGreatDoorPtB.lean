import Derived.Test.YtjdjhenijihpfaaGreatDoorPsI
import Derived.Test.YtjdjhenijihpfaaGreatDoorInT
import Derived.Deep.DeepCutAuto
namespace Go.Proofs.YtjdjhenijihpfaaGreatDoor
open Go.RowKit
set_option linter.unusedVariables false

/-- A target, and where its code lies. -/
structure TC where
  t : T2
  c : Value
def tcV (l : List TC) : List Value := l.flatMap fun a => [.string a.t.name, a.c]
theorem tcV_length (l : List TC) : (tcV l).length = l.length * 2 := by
  induction l with
  | nil => rfl
  | cons s l ih => simp [tcV] at ih ⊢; omega
theorem tcV_append (l m : List TC) : tcV (l ++ m) = tcV l ++ tcV m := by simp [tcV]
theorem tcV_one (s : TC) : tcV [s] = [.string s.t.name, s.c] := rfl
theorem tcV_take (l : List TC) (r : Nat) (h : r ≤ l.length) : tcV (l.take r) = (tcV l).take (r * 2) := by
  have e := tcV_append (l.take r) (l.drop r)
  rw [List.take_append_drop] at e
  rw [e, List.take_append_of_le_length (by rw [tcV_length, List.length_take]; omega)]
  exact (List.take_of_length_le (by rw [tcV_length, List.length_take]; omega)).symm
theorem tcV_drop (l : List TC) (r : Nat) (h : r ≤ l.length) : tcV (l.drop r) = (tcV l).drop (r * 2) := by
  have e := tcV_append (l.take r) (l.drop r)
  rw [List.take_append_drop] at e
  have hd : (tcV (l.take r)).drop (r * 2) = [] := List.drop_of_length_le (by rw [tcV_length, List.length_take]; omega)
  rw [e, List.drop_append_of_le_length (by rw [tcV_length, List.length_take]; omega), hd, List.nil_append]
theorem tcV_at (l : List TC) (i : Nat) (hi : i < l.length) : (tcV l)[i * 2]? = some (.string l[i].t.name) ∧ (tcV l)[i * 2 + 1]? = some l[i].c := by
  have e : l = l.take i ++ (l[i] :: l.drop (i + 1)) := by rw [← List.drop_eq_getElem_cons hi, List.take_append_drop]
  have hl : (tcV (l.take i)).length = i * 2 := by rw [tcV_length, List.length_take]; omega
  have hs : tcV l = tcV (l.take i) ++ (.string l[i].t.name :: l[i].c :: tcV (l.drop (i + 1))) := by
    conv => lhs; rw [e]
    rw [tcV_append]; rfl
  rw [hs, List.getElem?_append_right (by omega), List.getElem?_append_right (by omega), hl, Nat.sub_self, show i * 2 + 1 - i * 2 = 1 by omega]
  exact ⟨rfl, rfl⟩
def insK (l : List TC) (s : TC) (r : Nat) : List TC := l.take r ++ [s] ++ l.drop r
theorem insK_length (l : List TC) (s : TC) (r : Nat) (h : r ≤ l.length) : (insK l s r).length = l.length + 1 := by simp [insK]; omega
theorem tcV_ins (l : List TC) (s : TC) (r : Nat) (h : r ≤ l.length) : tcV (insK l s r) = (tcV l).take (r * 2) ++ [.string s.t.name, s.c] ++ (tcV l).drop (r * 2) := by
  unfold insK
  rw [tcV_append, tcV_append, tcV_take l r h, tcV_drop l r h, tcV_one]
def insT (l : List T2) (s : T2) (r : Nat) : List T2 := l.take r ++ [s] ++ l.drop r
theorem insK_map (l : List TC) (s : TC) (r : Nat) : (insK l s r).map (·.t) = insT (l.map (·.t)) s.t r := by simp [insK, insT, List.map_take, List.map_drop]
theorem insT_length (l : List T2) (s : T2) (r : Nat) (h : r ≤ l.length) : (insT l s r).length = l.length + 1 := by simp [insT]; omega

def ApC (a b : TC) : Prop := ∀ k, a.c.ownBlock = some k → b.c.ownBlock ≠ some k
theorem ApC.symm {a b : TC} (h : ApC a b) : ApC b a := fun k e1 e2 => h k e2 e1
/-- The codes of a row of targets. -/
structure Codes (w : World) (lo hi : Nat) (l : List TC) : Prop where
  code : ∀ a ∈ l, ∃ ys, RowO w lo hi 84 3 a.c a.t.code.length ys ∧ Filled3 a.t.code a.t.code.length ys
  apart : l.Pairwise ApC
theorem Codes.below {w w' : World} {lo hi : Nat} {l : List TC} (h : Codes w lo hi l) (hb : Below w.heap.size w w') : Codes w' lo hi l :=
  ⟨fun a ha => by obtain ⟨ys, h1, h2⟩ := h.code a ha; exact ⟨ys, h1.below hb, h2⟩, h.apart⟩
theorem Codes.keepO {w w' : World} {lo hi e sz n B : Nat} {u : Value} {l : List TC} {zs : List Value} (h : Codes w lo hi l) (ho : w.ownsRow B e sz u n zs) (hk : KeepO u.ownBlock w w') (h2 : 84 ≠ e) : Codes w' lo hi l :=
  ⟨fun a ha => by obtain ⟨ys, k1, k2⟩ := h.code a ha; exact ⟨ys, k1.same fun b eb => hk b (k1.own.lt b eb).2 (fun e' => neT k1.own ho h2 b eb e'.symm), k2⟩, h.apart⟩
theorem Codes.setT {w : World} {b lo hi j : Nat} {l : List TC} (h : Codes w lo hi l) (ht : HasT w b 26) (u : Value) : Codes (w.setCell ⟨b, j, none⟩ u) lo hi l :=
  ⟨fun a ha => by obtain ⟨ys, k1, k2⟩ := h.code a ha; exact ⟨ys, ⟨own_setT k1.own ht (by decide) u, k1.top⟩, k2⟩, h.apart⟩
theorem Codes.wide {w : World} {lo hi lo' hi' : Nat} {l : List TC} (h : Codes w lo hi l) (h1 : lo' ≤ lo) (h2 : hi ≤ hi') : Codes w lo' hi' l :=
  ⟨fun a ha => by obtain ⟨ys, k1, k2⟩ := h.code a ha; exact ⟨ys, k1.wide h1 h2, k2⟩, h.apart⟩
theorem Codes.slice {w : World} {lo hi : Nat} {l : List TC} (h : Codes w lo hi l) {a : TC} (ha : a ∈ l) : ∃ va vc, a.c = .slice va a.t.code.length vc := by
  obtain ⟨ys, k1, _⟩ := h.code a ha
  exact code_slice k1
theorem Codes.cells {w : World} {lo hi : Nat} {l : List TC} (h : Codes w lo hi l) : ∀ v ∈ tcV l, v.oneCell' = true := by
  intro v hv
  obtain ⟨a, ha, hm⟩ := List.mem_flatMap.mp hv
  simp at hm
  rcases hm with rfl | rfl
  · rfl
  · obtain ⟨va, vc, e⟩ := h.slice ha
    rw [e]; rfl
/-- One code more, that lies apart. -/
theorem Codes.ins {w : World} {lo hi : Nat} {l : List TC} (h : Codes w lo hi l) (s : TC) (r : Nat) {ys : List Value} (hs : RowO w lo hi 84 3 s.c s.t.code.length ys) (hf : Filled3 s.t.code s.t.code.length ys) (ha : ∀ a ∈ l, ApC a s) : Codes w lo hi (insK l s r) := by
  have hmem : ∀ a, a ∈ insK l s r → a = s ∨ a ∈ l := fun a hm => by
    unfold insK at hm
    rw [List.mem_append, List.mem_append, List.mem_singleton] at hm
    rcases hm with (hm | hm) | hm
    · exact Or.inr (List.mem_of_mem_take hm)
    · exact Or.inl hm
    · exact Or.inr (List.mem_of_mem_drop hm)
  refine ⟨fun a hm => ?_, ?_⟩
  · rcases hmem a hm with rfl | hm
    · exact ⟨ys, hs, hf⟩
    · exact h.code a hm
  · have hp := h.apart
    rw [← List.take_append_drop r l, List.pairwise_append] at hp
    obtain ⟨p1, p2, p3⟩ := hp
    unfold insK
    rw [List.pairwise_append, List.pairwise_append]
    refine ⟨⟨p1, List.pairwise_singleton _ _, fun a h1 b h2 => ?_⟩, p2, fun a h1 b h2 => ?_⟩
    · rw [List.mem_singleton] at h2; subst h2
      exact ha a (List.mem_of_mem_take h1)
    · rw [List.mem_append, List.mem_singleton] at h1
      rcases h1 with h1 | rfl
      · exact p3 a h1 b h2
      · exact (ha b (List.mem_of_mem_drop h2)).symm
theorem OwnT.toC {w : World} {lo hi : Nat} {v : Value} {ts : List T2} (h : OwnT w lo hi v ts) : ∃ l : List TC, l.map (·.t) = ts ∧ RowO w lo hi 64 2 v ts.length (tcV l) ∧ Codes w lo hi l := by
  obtain ⟨xs, cv, h⟩ := h
  obtain ⟨l, el⟩ : ∃ l : List TC, l = (List.range ts.length).map (fun i => ⟨tx ts i, cv i⟩) := ⟨_, rfl⟩
  have hl : l.length = ts.length := by rw [el]; simp
  have hg : ∀ i (hi : i < l.length), l[i] = ⟨tx ts i, cv i⟩ := fun i hi => by subst el; simp
  have hx : xs = tcV l := by
    apply List.ext_getElem?
    intro j
    rcases Nat.lt_or_ge j (ts.length * 2) with hj | hj
    · obtain ⟨a1, a2⟩ := h.fil (j / 2) (by omega)
      obtain ⟨b1, b2⟩ := tcV_at l (j / 2) (by omega)
      rw [hg] at b1 b2
      rcases Nat.mod_two_eq_zero_or_one j with hm | hm
      · rw [show j = j / 2 * 2 by omega, a1, b1]
      · rw [show j = j / 2 * 2 + 1 by omega, a2, b2]
    · rw [List.getElem?_eq_none (by rw [h.row.own.1]; omega), List.getElem?_eq_none (by rw [tcV_length]; omega)]
  refine ⟨l, ?_, by rw [← hx]; exact h.row, fun a ha => ?_, ?_⟩
  · apply List.ext_getElem
    · simp [hl]
    · intro i h1 h2
      rw [List.getElem_map, hg]
      exact tx_get h2
  · obtain ⟨i, hi, e⟩ := List.getElem_of_mem ha
    rw [hg] at e
    subst e
    exact h.code i (by omega)
  · rw [List.pairwise_iff_getElem]
    intro i j hi hj hij
    rw [hg, hg]
    exact h.apart i j hij (by omega)
theorem Codes.toT {w : World} {lo hi : Nat} {v : Value} {l : List TC} (h : Codes w lo hi l) (hr : RowO w lo hi 64 2 v l.length (tcV l)) : OwnT w lo hi v (l.map (·.t)) := by
  have hl : (l.map (·.t)).length = l.length := by simp
  have ht : ∀ i (hi : i < l.length), tx (l.map (·.t)) i = l[i].t := fun i hi => by rw [tx_get (by simpa using hi)]; simp
  refine ⟨tcV l, fun i => (l.getD i ⟨⟨ByteArray.empty, []⟩, .slice none 0 0⟩).c, by rw [hl]; exact hr, fun i hi => ?_, fun i hi => ?_, fun i j hij hj => ?_⟩
  · rw [hl] at hi
    obtain ⟨a1, a2⟩ := tcV_at l i hi
    rw [ht i hi, a1, a2]
    simp [List.getD_eq_getElem?_getD, hi]
  · rw [hl] at hi
    rw [ht i hi]
    obtain ⟨ys, k1, k2⟩ := h.code l[i] (List.getElem_mem hi)
    refine ⟨ys, ?_, k2⟩
    simpa [List.getD_eq_getElem?_getD, hi] using k1
  · rw [hl] at hj
    have := List.pairwise_iff_getElem.mp h.apart i j (by omega) hj hij
    simpa [List.getD_eq_getElem?_getD, hj, show i < l.length by omega, ApC] using this

/-! ### PutTarget -/
open Classical in
noncomputable def ptS (ss : List S2) (ts : List T2) (t : ByteArray) (ok : Bool) : List S2 := if roomC ss ts t ok = 0 then fltS t ss else []
open Classical in
noncomputable def ptT (ss : List S2) (ts : List T2) (t : ByteArray) (is : List I3) (ok : Bool) : List T2 := if roomC ss ts t ok = 0 then insT (fltT t ts) ⟨t, is⟩ (place (tnames (fltT t ts)) t) else []
theorem pt_no {ss : List S2} {ts : List T2} {t : ByteArray} {is : List I3} {ok : Bool} (h : roomC ss ts t ok ≠ 0) : ptS ss ts t ok = [] ∧ ptT ss ts t is ok = [] := by unfold ptS ptT; rw [if_neg h, if_neg h]; exact ⟨rfl, rfl⟩
theorem pt_yes {ss : List S2} {ts : List T2} {t : ByteArray} {is : List I3} {ok : Bool} (h : roomC ss ts t ok = 0) {r : Nat} (hr : AtR (tnames (fltT t ts)) t r) : ptS ss ts t ok = fltS t ss ∧ ptT ss ts t is ok = insT (fltT t ts) ⟨t, is⟩ r := by unfold ptS ptT; rw [if_pos h, if_pos h, place_eq hr]; exact ⟨rfl, rfl⟩
theorem insT_mem {l : List T2} {s : T2} {r : Nat} {P : T2 → Prop} (h : ∀ i, i < l.length → P (tx l i)) (hs : P s) : ∀ i, i < (insT l s r).length → P (tx (insT l s r) i) := by
  intro i hi
  rw [tx_get hi]
  have hm := List.getElem_mem hi
  have hP : ∀ a ∈ l, P a := fun a ha => by
    obtain ⟨j, hj, e⟩ := List.getElem_of_mem ha
    have := h j hj
    rw [tx_get hj, e] at this; exact this
  generalize (insT l s r)[i] = a at hm
  unfold insT at hm
  rw [List.mem_append, List.mem_append, List.mem_singleton] at hm
  rcases hm with (hm | rfl) | hm
  · exact hP a (List.mem_of_mem_take hm)
  · exact hs
  · exact hP a (List.mem_of_mem_drop hm)
theorem pt_small (ss : List S2) (ts : List T2) (t : ByteArray) (is : List I3) (ok : Bool) (hi : is.length ≤ 1048576) : SpSmall (ptS ss ts t ok) (ptT ss ts t is ok) := by
  by_cases g : roomC ss ts t ok = 0
  · obtain ⟨h, _, h3⟩ := roomC_zero g
    obtain ⟨r, hr⟩ := atR_exists (ascT t h.a2) t
    rw [(pt_yes (is := is) g hr).1, (pt_yes (is := is) g hr).2]
    have hl := insT_length (fltT t ts) ⟨t, is⟩ r (by have := hr.le; rw [tnames_length] at this; exact this)
    exact ⟨by omega, by omega, insT_mem (P := fun s => s.code.length ≤ 1048576) (fltT_mem (P := fun s => s.code.length ≤ 1048576) (fun i hi => (h.codes i hi).2)) hi⟩
  · rw [(pt_no (is := is) g).1, (pt_no (is := is) g).2]
    exact ⟨by simp, by simp, fun i hi => by simp at hi⟩
/-- What PutTarget hands out. -/
def PtOut (lo : Nat) (w : World) (e : Ending) (ss : List S2) (ts : List T2) (t : ByteArray) (is : List I3) (ok : Bool) : Prop := ∃ v1 v2, e = .returned (.tuple #[.agg #[v1, v2], .int .i64 (roomC ss ts t ok)]) ∧ OwnS w lo w.heap.size v1 (ptS ss ts t ok) ∧ OwnT w lo w.heap.size v2 (ptT ss ts t is ok)
theorem PtOut.no {lo : Nat} {w : World} {c : Int} {ss : List S2} {ts : List T2} {t : ByteArray} {is : List I3} {ok : Bool} (h : roomC ss ts t ok = c) (h0 : c ≠ 0) : PtOut lo w (.returned (.tuple #[.agg #[.slice none 0 0, .slice none 0 0], .int .i64 c])) ss ts t is ok := by
  have h1 : roomC ss ts t ok ≠ 0 := by rw [h]; exact h0
  refine ⟨_, _, by rw [h], ?_, ?_⟩
  · rw [(pt_no (is := is) h1).1]; exact OwnS.nil _ _ _
  · rw [(pt_no (is := is) h1).2]; exact OwnT.nil _ _ _

end Go.Proofs.YtjdjhenijihpfaaGreatDoor

namespace Go.Proofs.YtjdjhenijihpfaaGreatDoor
open Go.RowKit Go.Deep
set_option linter.unusedVariables false

theorem RoomOut.one {lo : Nat} {w : World} {e : Ending} {ss : List S2} {ts : List T2} {t : ByteArray} {ok : Bool} (h : RoomOut lo w e ss ts t ok) : ∃ v1 v2, e = .returned (.tuple #[.agg #[v1, v2], .int .i64 (roomC ss ts t ok)]) ∧ OwnS w lo w.heap.size v1 (ptS ss ts t ok) ∧ OwnT w lo w.heap.size v2 (psT ss ts t ok) := by
  rcases h with ⟨h1, rfl⟩ | ⟨h1, v1, v2, rfl, o1, o2⟩
  · refine ⟨_, _, rfl, ?_, ?_⟩
    · unfold ptS; rw [if_neg h1]; exact OwnS.nil _ _ _
    · unfold psT; rw [if_neg h1]; exact OwnT.nil _ _ _
  · refine ⟨v1, v2, by rw [h1], ?_, ?_⟩
    · unfold ptS; rw [if_pos h1]; exact o1
    · unfold psT; rw [if_pos h1]; exact o2
theorem blk_set2 {w : World} {b P : Nat} {o : Obj} (h : w.heap[b]? = some o) (hne : b ≠ P) (u v : Value) : ((w.setCell ⟨P, 0, none⟩ u).setCell ⟨P, 1, none⟩ v).heap[b]? = some o := by
  rw [Below.heap_setCell _ ⟨P, 1, none⟩ v b hne, Below.heap_setCell _ ⟨P, 0, none⟩ u b hne]; exact h
theorem Sp.old {w : World} {P lo hi : Nat} {x y v1 v2 : Value} {ss : List S2} {ts : List T2} (hz : w.heap[P]? = some (.cells #[x, y] 26 (0, 0))) (o1 : OwnS w lo hi v1 ss) (o2 : OwnT w lo hi v2 ts) : Sp ((w.setCell ⟨P, 0, none⟩ v1).setCell ⟨P, 1, none⟩ v2) P lo hi v1 v2 ss ts := by
  have ht : HasT w P 26 := ⟨_, hz⟩
  have h1 : (w.setCell ⟨P, 0, none⟩ v1).heap[P]? = some (.cells #[v1, y] 26 (0, 0)) := by rw [Joins.block_setCell hz]; rfl
  exact ⟨by rw [Joins.block_setCell h1]; rfl, (o1.setT ht _).setT (ht.set _) _, (o2.setT ht _).setT (ht.set _) _⟩
theorem below_set2 {B b : Nat} {w w' : World} (h : Below B w w') (hb : B ≤ b) (v1 v2 : Value) : Below B w ((w'.setCell ⟨b, 0, none⟩ v1).setCell ⟨b, 1, none⟩ v2) := (h.setCell (p := ⟨b, 0, none⟩) hb _).setCell (p := ⟨b, 1, none⟩) hb _
theorem new_belowW {w w' : World} {cs : Array Value} {T : Nat} (hb : Below (w.alloc (.cells cs T)).heap.size (w.alloc (.cells cs T)) w') : w'.heap[w.heap.size]? = some (.cells cs T (0, 0)) := by rw [hb.block _ (by simp)]; exact heapW_new _ _
theorem new_belowX {w w' : World} {cs : Array Value} {T : Nat} (hb : Below (w.alloc (.cells cs T)).drew.heap.size (w.alloc (.cells cs T)).drew w') : w'.heap[w.heap.size]? = some (.cells cs T (0, 0)) := by rw [hb.block _ (by simp)]; exact heapW_new _ _
theorem Sp.wide {w : World} {b lo hi lo' hi' : Nat} {v1 v2 : Value} {ss : List S2} {ts : List T2} (h : Sp w b lo hi v1 v2 ss ts) (h1 : lo' ≤ lo) (h2 : hi ≤ hi') : Sp w b lo' hi' v1 v2 ss ts := ⟨h.blk, h.s.wide h1 h2, h.t.wide h1 h2⟩

set_option maxRecDepth 100000 in
set_option maxHeartbeats 8000000 in
theorem implPt_any (sa ta : Option Addr) (c1 c2 : Nat) (ss : List S2) (ts : List T2) (t : ByteArray) (a : Option Addr) (cap : Nat) (is : List I3) (w : World) (hT : Tab w) (h : SpOk w sa ss ta ts) (hsm : SpSmall ss ts) (ht : t.size ≤ 9223372036854775807) (hr : Row3 w a is) (hl : is.length ≤ 1048576) (hx : ∀ i, (ix is i).text.size ≤ 9223372036854775807) :
    Calls Tryz.prog 12 #[.agg #[.slice sa ss.length c1, .slice ta ts.length c2], .string t, .agg #[.slice a is.length cap]] w fun e w' => Below w.heap.size w w' ∧ PtOut w.heap.size w' e ss ts t is (progOk is) := by
  obtain ⟨ok, eok⟩ : ∃ ok, progOk is = ok := ⟨_, rfl⟩
  have HOK : Hid (progOk is = ok) := eok
  rw [eok]
  clear eok
  have hW0 : (((w.alloc (.cells #[.slice sa ss.length c1, .slice ta ts.length c2] 26)).alloc (.cells #[.slice a is.length cap] 31)).alloc (.cells #[.slice none 0 0, .slice none 0 0] 26)).heap[w.heap.size]? = some (.cells #[.slice sa ss.length c1, .slice ta ts.length c2] 26 (0, 0)) := by rw [Lib.alloc_old _ _ _ (by simp; omega), Lib.alloc_old _ _ _ (by simp)]; exact heapW_new _ _
  have hW1 : (((w.alloc (.cells #[.slice sa ss.length c1, .slice ta ts.length c2] 26)).alloc (.cells #[.slice a is.length cap] 31)).alloc (.cells #[.slice none 0 0, .slice none 0 0] 26)).heap[w.heap.size + 1]? = some (.cells #[.slice a is.length cap] 31 (0, 0)) := by
    rw [Lib.alloc_old _ _ _ (by simp)]
    have h := heapW_new (w.alloc (.cells #[.slice sa ss.length c1, .slice ta ts.length c2] 26)) (.cells #[.slice a is.length cap] 31)
    rw [show (w.alloc (.cells #[.slice sa ss.length c1, .slice ta ts.length c2] 26)).heap.size = w.heap.size + 1 from by simp] at h
    exact h
  have hW2 : (((w.alloc (.cells #[.slice sa ss.length c1, .slice ta ts.length c2] 26)).alloc (.cells #[.slice a is.length cap] 31)).alloc (.cells #[.slice none 0 0, .slice none 0 0] 26)).heap[w.heap.size + 1 + 1]? = some (.cells #[.slice none 0 0, .slice none 0 0] 26 (0, 0)) := by
    have h := heapW_new ((w.alloc (.cells #[.slice sa ss.length c1, .slice ta ts.length c2] 26)).alloc (.cells #[.slice a is.length cap] 31)) (.cells #[.slice none 0 0, .slice none 0 0] 26)
    rw [show ((w.alloc (.cells #[.slice sa ss.length c1, .slice ta ts.length c2] 26)).alloc (.cells #[.slice a is.length cap] 31)).heap.size = w.heap.size + 1 + 1 from by simp] at h
    exact h
  obtain ⟨W, eW⟩ : ∃ y, ((w.alloc (.cells #[.slice sa ss.length c1, .slice ta ts.length c2] 26)).alloc (.cells #[.slice a is.length cap] 31)).alloc (.cells #[.slice none 0 0, .slice none 0 0] 26) = y := ⟨_, rfl⟩
  have hB0 : Below w.heap.size w W := by rw [← eW]; exact (((Below.refl _ _).alloc (Nat.le_refl _) _).alloc (by simp) _).alloc (by simp; omega) _
  have hWs : W.heap.size = w.heap.size + 1 + 1 + 1 := by rw [← eW]; simp
  rw [eW] at hW0 hW1 hW2
  obtain ⟨p0, p1⟩ := blk_c hW0
  have p2 : W.cell? ⟨w.heap.size + 1, 0, none⟩ = some (.slice a is.length cap) := by rw [Lib.cell_of_heap hW1]; rfl
  have HW1 : Hid (W.heap[w.heap.size + 1]? = some (.cells #[.slice a is.length cap] 31 (0, 0))) := hW1
  have HW2 : Hid (W.heap[w.heap.size + 1 + 1]? = some (.cells #[.slice none 0 0, .slice none 0 0] 26 (0, 0))) := hW2
  have HT : Hid (Tab w) := hT
  have HS : Hid (SpOk w sa ss ta ts) := h
  have HR : Hid (Row3 w a is) := hr
  have HWS : Hid (W.heap.size = w.heap.size + 1 + 1 + 1) := hWs
  have hWl : w.heap.size + 1 + 1 < W.heap.size := by omega
  clear hW0 hW1 hW2 hT h hr hWs
  go_enter Tryz.func12, Tryz.ntmps12
  go_wp2_with fail
  clear eW
  have hbd : Below W.heap.size W W.drew := (Below.refl _ _).drew
  go_cut [8, 9] (fun p q wx => ∃ (P : Nat) (v1 v2 : Value), p = .pointer (some ⟨P, 0, none⟩) ∧ q = .int .i64 (roomC ss ts t ok) ∧ Hid (Sp wx P W.heap.size wx.heap.size v1 v2 (ptS ss ts t ok) (psT ss ts t ok)) ∧ W.heap.size ≤ P ∧ Below W.heap.size W wx)
  case first =>
    go_region_held3 (fun w' => w'.cell? ⟨w.heap.size, 0, none⟩ = some (.slice sa ss.length c1) ∧ w'.cell? ⟨w.heap.size, 1, none⟩ = some (.slice ta ts.length c2) ∧ w'.cell? ⟨w.heap.size + 1, 0, none⟩ = some (.slice a is.length cap))
      (first | exact ⟨p0, p1, p2⟩ | (refine ⟨?_, ?_, ?_⟩ <;> (rw [World.cell?_setCell_far _ _ _ _ (by simp; omega), World.cell?_setCell_far _ _ _ _ (by simp; omega)]; assumption)) | (go_split_ands; with_reducible (refine ⟨cellW ?_, cellW ?_, cellW ?_⟩ <;> assumption)) | (go_split_ands; with_reducible (refine ⟨cell_below hb5 ?_, cell_below hb5 ?_, cell_below hb5 ?_⟩ <;> assumption)) | (go_split_ands; with_reducible (refine ⟨cell_below hb4 ?_, cell_below hb4 ?_, cell_below hb4 ?_⟩ <;> assumption)) | exact ⟨cellW p0, cellW p1, cellW p2⟩)
      (first | (go_at_call 41; refine (implValid_any a cap is _ (HT.out.below (bt hB0 (by first | with_reducible exact hbd | exact hbd.alloc (by simp) _))) (HR.out.below (bt hB0 (by first | with_reducible exact hbd | exact hbd.alloc (by simp) _))) hl hx).mono ?_; rw [HOK.out]; rintro e w4 ⟨hb4, rfl⟩; have hb4w : Below W.heap.size W w4 := (by first | with_reducible exact bt hbd hb4 | exact bt (hbd.alloc (by simp) _) hb4); have hz4 := hb4.size; (try simp at hz4); first | have z4 : w4.heap[W.heap.size]? = _ := new_belowW hb4 | have z4 := new_belowX hb4 | skip) | (go_at_call 25; refine (roomFor_any sa ta c1 c2 ss ts t ok _ (HT.out.below (bt hB0 (by first | with_reducible exact hb4w | exact hb4w.alloc hb4w.size _))) (HS.out.below (bt hB0 (by first | with_reducible exact hb4w | exact hb4w.alloc hb4w.size _))) hsm ht).mono ?_; rintro e w5 ⟨hb5, hro⟩; obtain ⟨v1, v2, rfl, o1, o2⟩ := hro.one; have hb5w : Below w4.heap.size w4 w5 := (by first | with_reducible exact hb5 | exact bt ((Below.refl _ _).alloc (Nat.le_refl _) _) hb5); have hB5 : Below W.heap.size W w5 := bt hb4w hb5w; have s0 := cell_below hB5 p0; have s1 := cell_below hB5 p1; have s2 := cell_below hB5 p2; have hz5 := hb5.size; (try simp at hz5); obtain ⟨a1, q1, rfl, _⟩ := o1.sl; obtain ⟨a2, q2, rfl, _⟩ := o2.sl; have HO1 : Hid (OwnS w5 W.heap.size w5.heap.size _ (ptS ss ts t ok)) := (o1.wide (by first | omega | (simp; omega)) (Nat.le_refl _)); have HO2 : Hid (OwnT w5 W.heap.size w5.heap.size _ (psT ss ts t ok)) := (o2.wide (by first | omega | (simp; omega)) (Nat.le_refl _)); first | (have z5 := new_belowW hb5; obtain ⟨k0, k1⟩ := blk_c z5; have kf := (fun j => Lib.frozen_of_heap z5 j)) | (have z5 := blk_below z4 hb5; obtain ⟨k0, k1⟩ := blk_c z5; have kf := (fun j => Lib.frozen_of_heap z5 j)) | skip))
    all_goals
      go_wp2_with fail
      go_meet
      first
        | exact ⟨_, _, _, rfl, rfl, (Sp.old z5 HO1.out HO2.out).wide (Nat.le_refl _) (by simp), by omega, below_set2 hB5 (by omega) _ _⟩
        | exact ⟨_, _, _, rfl, rfl, (Sp.new HO1.out HO2.out).wide (Nat.le_refl _) (by simp), by omega, hB5.alloc hB5.size _⟩
  case rest =>
    obtain ⟨P, v1, v2, rfl, rfl, HSP, hPl, hbx⟩ := hcut
    clear p0 p1 p2 hbd
    have hBx := bt hB0 hbx
    have KR : Hid (wc.heap[w.heap.size + 1 + 1]? = _) := blk_below HW2.out hbx
    have KZ : Hid (wc.heap[w.heap.size + 1]? = _) := blk_below HW1.out hbx
    have hPc : P < wc.heap.size := blkW_lt HSP.out.blk
    have hR : w.heap.size ≤ w.heap.size + 1 + 1 := by omega
    by_cases hcz : roomC ss ts t ok = 0
    · obtain ⟨hck, hok, hll⟩ := roomC_zero hcz
      have HD : Hid (roomC ss ts t ok = 0) := hcz
      have HA : Hid (Asc (tnames (fltT t ts))) := ascT t hck.a2
      have hil : 1 ≤ is.length := by
        have hp := HOK.out
        rw [hok] at hp
        unfold progOk at hp
        simp only [Bool.and_eq_true, decide_eq_true_eq] at hp
        exact hp.1.1
      rw [hcz]
      have HSQ : Hid (Sp wc P W.heap.size wc.heap.size v1 v2 (fltS t ss) (fltT t ts)) := by
        have h := HSP.out
        unfold ptS psT at h
        rw [if_pos hcz, if_pos hcz] at h
        exact h
      obtain ⟨a1, q1, rfl, _⟩ := HSQ.out.s.sl
      obtain ⟨a2, q2, rfl, _⟩ := HSQ.out.t.sl
      have HF : Hid (∀ W' : World, OwnT W' W.heap.size wc.heap.size (.slice a2 (fltT t ts).length q2) (fltT t ts) → Calls Tryz.prog 42 #[.agg #[.slice a1 (fltS t ss).length q1, .slice a2 (fltT t ts).length q2], .string t] W' fun e w' => Below W'.heap.size W' w' ∧ ∃ (r : Nat) (b : Bool), e = .returned (.tuple #[.int .i64 r, .bool b]) ∧ At (tnames (fltT t ts)) t r b) := fun W' hW' => by
        obtain ⟨b1, p1, ev, hrow⟩ := hW'.sl
        cases ev
        exact findTarget_any a1 a2 _ _ q1 q2 (fltT t ts) t W' hrow (by omega) HA.out rfl
      have HL : Hid ((fltT t ts).length ≤ 200) := by show _ ≤ _; omega
      obtain ⟨z0, z1⟩ := HSQ.out.c
      clear HSP hcz hck hok
      go_wp2_with fail
      refine (HF.out wc HSQ.out.t).mono ?_
      rintro e w3 ⟨hb3, r, b, rfl, hat⟩
      have HAT : Hid (AtR (tnames (fltT t ts)) t r) := hat.atR
      have hrl : r ≤ (fltT t ts).length := by have := hat.le; rw [tnames_length] at this; exact this
      have hB3 := bt hBx hb3
      have HP3 : Hid (Sp w3 P W.heap.size wc.heap.size (.slice a1 (fltS t ss).length q1) (.slice a2 (fltT t ts).length q2) (fltS t ss) (fltT t ts)) := HSQ.out.below hb3
      have KR3 : Hid (w3.heap[w.heap.size + 1 + 1]? = _) := blk_below KR.out hb3
      have KZ3 : Hid (w3.heap[w.heap.size + 1]? = _) := blk_below KZ.out hb3
      have hP3 : P < w3.heap.size := blkW_lt HP3.out.blk
      have hsc : wc.heap.size ≤ w3.heap.size := hb3.size
      obtain ⟨l, hlm, hlr, hlc⟩ := HP3.out.t.toC
      have hln : l.length = (fltT t ts).length := by rw [← hlm]; simp
      have HLM : Hid (l.map (·.t) = fltT t ts) := hlm
      have HLR : Hid (RowO w3 W.heap.size wc.heap.size 64 2 (.slice a2 (fltT t ts).length q2) (fltT t ts).length (tcV l)) := hlr
      have HLC : Hid (Codes w3 W.heap.size wc.heap.size l) := hlc
      have HCP : Hid (∀ W' : World, Below w3.heap.size w3 W' → Calls Tryz.prog 44 #[.agg #[.slice a is.length cap]] W' fun e w' => Below W'.heap.size W' w' ∧ ∃ g cp, e = .returned (.agg #[.slice (some ⟨g, 0, none⟩) is.length cp]) ∧ w'.ownsRow W'.heap.size 84 3 (.slice (some ⟨g, 0, none⟩) is.length cp) is.length (insV is)) := fun W' hW' => copyProgram_any a cap is W' ((HR.out.below hB3).below hW') hil hl
      have dP := HP3.out.c.2
      have dZ : w3.cell? ⟨w.heap.size + 1, 0, none⟩ = some (.slice a is.length cap) := by rw [Lib.cell_of_heap KZ3.out]; rfl
      have hVP : (Value.slice a2 (fltT t ts).length q2).ownBlock ≠ some P := HasT.ne (T := 26) ⟨_, HP3.out.blk⟩ HLR.out.own (by decide)
      have hVZ : (Value.slice a2 (fltT t ts).length q2).ownBlock ≠ some (w.heap.size + 1) := HasT.ne (T := 31) ⟨_, KZ3.out⟩ HLR.out.own (by decide)
      have hVR : (Value.slice a2 (fltT t ts).length q2).ownBlock ≠ some (w.heap.size + 1 + 1) := HasT.ne (T := 26) ⟨_, KR3.out⟩ HLR.out.own (by decide)
      have HVP : Hid ((Value.slice a2 (fltT t ts).length q2).ownBlock ≠ some P) := hVP
      have HVZ : Hid ((Value.slice a2 (fltT t ts).length q2).ownBlock ≠ some (w.heap.size + 1)) := hVZ
      have HVR : Hid ((Value.slice a2 (fltT t ts).length q2).ownBlock ≠ some (w.heap.size + 1 + 1)) := hVR
      clear z0 z1 hb3 HSQ HF hat hlm hlr hlc hVP hVZ hVR KR KZ
      go_wp2_with fail
      refine Lt.begin 10 (fun w' => w'.cell? ⟨P, 1, none⟩ = some (.slice a2 (fltT t ts).length q2) ∧ w'.cell? ⟨w.heap.size + 1, 0, none⟩ = some (.slice a is.length cap)) (by kernel_rfl) ?_
      have hS0 : w3.drew.cell? ⟨P, 1, none⟩ = some (.slice a2 (fltT t ts).length q2) ∧ w3.drew.cell? ⟨w.heap.size + 1, 0, none⟩ = some (.slice a is.length cap) := by simp [*]
      refine Lt.take (i := 0) (oi := { dst := some 30, op := Op.fieldAddr 26 (Operand.tmp 8) 1, type := 0, pos := "l3_space.go:157", after := #[], guard := none }) (v := ?_) rfl (by kernel_rfl) (by kernel_rfl) (by kernel_rfl) (by kernel_rfl) (fun _ _ _ h => h) hS0 (Or.inl ⟨by rfl, ?_⟩) ?_
      rotate_left 1
      · intro w hSw
        try dsimp only at hSw
        go_simp
        first | done | with_reducible rfl
      simp only [Act.put, List.setIfInBounds_toArray, List.set_cons_zero, List.set_cons_succ]
      refine Lt.take (i := 1) (oi := { dst := some 31, op := Op.load 24 (Operand.tmp 30), type := 24, pos := "l3_space.go:157", after := #[{ on := 0, ground := Ground.data }], guard := none }) (v := ?_) rfl (by kernel_rfl) (by kernel_rfl) (by kernel_rfl) (by kernel_rfl) (fun _ _ _ h => h) hS0 (Or.inl ⟨by rfl, ?_⟩) ?_
      rotate_left 1
      · intro w hSw
        try dsimp only at hSw
        go_simp
        first | done | with_reducible rfl
      simp only [Act.put, List.setIfInBounds_toArray, List.set_cons_zero, List.set_cons_succ]
      refine Lt.take (i := 2) (oi := { dst := some 32, op := Op.move (Operand.tmp 10), type := 3, pos := "l3_space.go:157", after := #[], guard := none }) (v := ?_) rfl (by kernel_rfl) (by kernel_rfl) (by kernel_rfl) (by kernel_rfl) (fun _ _ _ h => h) hS0 (Or.inl ⟨by rfl, ?_⟩) ?_
      rotate_left 1
      · intro w hSw
        try dsimp only at hSw
        go_simp
        first | done | with_reducible rfl
      simp only [Act.put, List.setIfInBounds_toArray, List.set_cons_zero, List.set_cons_succ]
      refine Lt.take (i := 3) (oi := { dst := some 33, op := Op.move (Operand.tmp 1), type := 9, pos := "l3_space.go:157", after := #[], guard := none }) (v := ?_) rfl (by kernel_rfl) (by kernel_rfl) (by kernel_rfl) (by kernel_rfl) (fun _ _ _ h => h) hS0 (Or.inl ⟨by rfl, ?_⟩) ?_
      rotate_left 1
      · intro w hSw
        try dsimp only at hSw
        go_simp
        first | done | with_reducible rfl
      simp only [Act.put, List.setIfInBounds_toArray, List.set_cons_zero, List.set_cons_succ]
      refine Lt.take (i := 4) (oi := { dst := some 34, op := Op.load 31 (Operand.tmp 5), type := 31, pos := "l3_space.go:157", after := #[], guard := none }) (v := ?_) rfl (by kernel_rfl) (by kernel_rfl) (by kernel_rfl) (by kernel_rfl) (fun _ _ _ h => h) hS0 (Or.inl ⟨by rfl, ?_⟩) ?_
      rotate_left 1
      · intro w hSw
        try dsimp only at hSw
        go_simp
        first | done | with_reducible rfl
      simp only [Act.put, List.setIfInBounds_toArray, List.set_cons_zero, List.set_cons_succ]
      refine Lt.step (i := 5) (o := { dst := some 35, op := Op.call { callee := Callee.value (Operand.func 44), args := #[Operand.tmp 34], argTypes := #[31] }, type := 31, pos := "l3_space.go:157", after := #[{ on := 4, ground := Ground.data }], guard := none }) (by kernel_rfl) rfl (fun K hK => ?_)
      go_simp
      refine (HCP.out _ ((Below.refl _ _).drew)).mono ?_
      rintro e w6 ⟨hb6, gc, cpc, rfl, hoc⟩
      have hb7 : Below w3.heap.size w3 w6 := (Below.drew (Below.refl _ _)).trans (hb6.mono (by simp))
      have HOC : Hid (w6.ownsRow w3.heap.size 84 3 (.slice (some ⟨gc, 0, none⟩) is.length cpc) is.length (insV is)) := own_base hoc (by simp)
      refine hK.out _ _ (fun _ => ⟨cell_below hb7 dP, cell_below hb7 dZ⟩) (fun hS6 => ?_)
      replace hS6 := hS6 (by decide)
      clear hK K hS0 hb6 hoc
      refine Lt.take (i := 6) (oi := { dst := some 36, op := Op.build 64 #[(0, Operand.tmp 33), (1, Operand.tmp 35)], type := 64, pos := "l3_space.go:157", after := #[{ on := 3, ground := Ground.data }, { on := 5, ground := Ground.data }], guard := none }) (v := ?_) rfl (by kernel_rfl) (by kernel_rfl) (by kernel_rfl) (by kernel_rfl) (fun _ _ _ h => h) hS6 (Or.inl ⟨by rfl, ?_⟩) ?_
      rotate_left 1
      · intro w hSw
        try dsimp only at hSw
        go_simp
        first | done | with_reducible rfl
      simp only [Act.put, List.setIfInBounds_toArray, List.set_cons_zero, List.set_cons_succ]
      refine Lt.step (i := 7) (o := { dst := some 37, op := Op.buildSlice 24 1 #[(0, Operand.tmp 36)], type := 24, pos := "l3_space.go:157", after := #[{ on := 6, ground := Ground.data }], guard := none }) (by kernel_rfl) rfl (fun K hK => ?_)
      go_simp
      refine hK.out _ _ (fun _ => ⟨cellW hS6.1, cellW hS6.2⟩) (fun hS8 => ?_)
      replace hS8 := hS8 (by decide)
      clear hK K hS6
      obtain ⟨w8, e8⟩ : ∃ y, w6.alloc (.cells #[.string t, .slice (some ⟨gc, 0, none⟩) is.length cpc] 64) = y := ⟨_, rfl⟩
      have hb8 : Below w3.heap.size w3 w8 := by rw [← e8]; exact hb7.alloc hb7.size _
      have hn8 : w8.heap[w6.heap.size]? = some (.cells #[.string t, .slice (some ⟨gc, 0, none⟩) is.length cpc] 64 (0, 0)) := by rw [← e8]; exact heapW_new _ _
      have HOC8 : Hid (w8.ownsRow w3.heap.size 84 3 (.slice (some ⟨gc, 0, none⟩) is.length cpc) is.length (insV is)) := by show World.ownsRow _ _ _ _ _ _ _; rw [← e8]; exact HOC.out.alloc _
      rw [e8] at hS8 ⊢
      have hs63 : w3.heap.size ≤ w6.heap.size := hb7.size
      have hs8 : w6.heap.size < w8.heap.size := blkW_lt hn8
      clear e8 hb7 HOC
      have HLR8 : Hid (RowO w8 W.heap.size wc.heap.size 64 2 (.slice a2 (fltT t ts).length q2) (fltT t ts).length (tcV l)) := HLR.out.below hb8
      have HLC8 : Hid (Codes w8 W.heap.size wc.heap.size l) := HLC.out.below hb8
      have HSP8 : Hid (Sp w8 P W.heap.size wc.heap.size (.slice a1 (fltS t ss).length q1) (.slice a2 (fltT t ts).length q2) (fltS t ss) (fltT t ts)) := HP3.out.below hb8
      have KR8 : Hid (w8.heap[w.heap.size + 1 + 1]? = _) := blk_below KR3.out hb8
      have KZ8 : Hid (w8.heap[w.heap.size + 1]? = _) := blk_below KZ3.out hb8
      have hB8 := bt hB3 hb8
      have HI : Hid (Calls Tryz.prog 43 #[.slice a2 (fltT t ts).length q2, .int .i64 r, .slice (some ⟨w6.heap.size, 0, none⟩) 1 1] w8 fun e w' => ∃ g' cp, e = .returned (.slice (some ⟨g', 0, none⟩) ((fltT t ts).length + 1) cp) ∧ w'.ownsRow W.heap.size 64 2 (.slice (some ⟨g', 0, none⟩) ((fltT t ts).length + 1) cp) ((fltT t ts).length + 1) ((tcV l).take (r * 2) ++ [.string t, .slice (some ⟨gc, 0, none⟩) is.length cpc] ++ (tcV l).drop (r * 2)) ∧ Below W.heap.size w8 w' ∧ KeepO (Value.slice a2 (fltT t ts).length q2).ownBlock w8 w') := insertTarget_own W.heap.size (fltT t ts).length r w6.heap.size _ (tcV l) (.string t) (.slice (some ⟨gc, 0, none⟩) is.length cpc) w8 HLR8.out.own (by omega) hrl HL.out hn8 (fun e => by have := HLR8.out.top _ e; omega) HLC8.out.cells (by intro u hu; simp at hu; rcases hu with rfl | rfl <;> rfl)
      clear hn8 hb8 hB3 HP3 KR3 KZ3 HLR HLC HCP
      refine Lt.step (i := 8) (o := { dst := some 38, op := Op.call { callee := Callee.value (Operand.func 43), args := #[Operand.tmp 31, Operand.tmp 32, Operand.tmp 37], argTypes := #[24, 3, 24] }, type := 24, pos := "l3_space.go:157", after := #[{ on := 1, ground := Ground.data }, { on := 2, ground := Ground.data }, { on := 7, ground := Ground.data }, { on := 5, ground := Ground.chain }], guard := none }) (by kernel_rfl) rfl (fun K hK => ?_)
      go_simp
      refine HI.out.mono ?_
      rintro e w9 ⟨g', cp', rfl, ho9, hb9, hk9⟩
      have kP : w9.heap[P]? = some (.cells #[.slice a1 (fltS t ss).length q1, .slice a2 (fltT t ts).length q2] 26 (0, 0)) := by rw [hk9 P (blkW_lt HSP8.out.blk) (fun e => HVP.out e.symm)]; exact HSP8.out.blk
      have kR : w9.heap[w.heap.size + 1 + 1]? = some (.cells #[.slice none 0 0, .slice none 0 0] 26 (0, 0)) := by rw [hk9 _ (blkW_lt KR8.out) (fun e => HVR.out e.symm)]; exact KR8.out
      have kZ : w9.heap[w.heap.size + 1]? = some (.cells #[.slice a is.length cap] 31 (0, 0)) := by rw [hk9 _ (blkW_lt KZ8.out) (fun e => HVZ.out e.symm)]; exact KZ8.out
      have hs9 : w8.heap.size ≤ w9.heap.size := hb9.size
      have hB9 : Below w.heap.size w w9 := hB8.trans (hb9.mono (by omega))
      have HC9 : Hid (Codes w9 W.heap.size w9.heap.size (insK l ⟨⟨t, is⟩, .slice (some ⟨gc, 0, none⟩) is.length cpc⟩ r)) := by
        refine ((HLC8.out.keepO HLR8.out.own hk9 (by decide)).wide (Nat.le_refl _) (by omega)).ins ⟨⟨t, is⟩, .slice (some ⟨gc, 0, none⟩) is.length cpc⟩ r (ys := insV is) ?_ (insV_filled is) (fun a ha k e1 e2 => ?_)
        · refine ⟨own_base (own_same HOC8.out (fun b eb => hk9 b (HOC8.out.lt b eb).2 (fun e' => neT HOC8.out HLR8.out.own (by decide) b eb e'.symm))) (by omega), fun b eb => by have := (HOC8.out.lt b eb).2; omega⟩
        · obtain ⟨ys, k1, _⟩ := HLC8.out.code a ha
          have := k1.top k e1
          have := (HOC8.out.lt k e2).1
          omega
      have HR9 : Hid (w9.ownsRow W.heap.size 64 2 (.slice (some ⟨g', 0, none⟩) ((fltT t ts).length + 1) cp') ((fltT t ts).length + 1) (tcV (insK l ⟨⟨t, is⟩, .slice (some ⟨gc, 0, none⟩) is.length cpc⟩ r))) := by
        show World.ownsRow _ _ _ _ _ _ _
        rw [tcV_ins l _ r (by omega)]; exact ho9
      have HS9 : Hid (OwnS w9 W.heap.size wc.heap.size (.slice a1 (fltS t ss).length q1) (fltS t ss)) := HSP8.out.s.keepO HLR8.out.own hk9 (by decide)
      have HTP : Hid (HasT w9 P 26) := ⟨_, kP⟩
      have HTR : Hid (HasT w9 (w.heap.size + 1 + 1) 26) := ⟨_, kR⟩
      obtain ⟨x0, x1⟩ := blk_c kP
      obtain ⟨r0, r1⟩ := blk_c kR
      have xz : w9.cell? ⟨w.heap.size + 1, 0, none⟩ = some (.slice a is.length cap) := by rw [Lib.cell_of_heap kZ]; rfl
      have fz : ∀ j, w9.frozen? ⟨P, j, none⟩ = false := fun j => Lib.frozen_of_heap kP j
      have fr : ∀ j, w9.frozen? ⟨w.heap.size + 1 + 1, j, none⟩ = false := fun j => Lib.frozen_of_heap kR j
      have hPR : w.heap.size + 1 + 1 ≠ P := by omega
      refine hK.out _ _ (fun _ => ⟨x1, xz⟩) (fun hS9 => ?_)
      replace hS9 := hS9 (by decide)
      clear hK K hS8 hb9 hk9 ho9 kP kR kZ HI HSP8 KR8 KZ8 HLR8 HLC8 HOC8 hB8
      refine Lt.take (i := 9) (oi := { dst := some 39, op := Op.fieldAddr 26 (Operand.tmp 8) 1, type := 0, pos := "l3_space.go:157", after := #[{ on := 0, ground := Ground.phase }, { on := 1, ground := Ground.phase }, { on := 2, ground := Ground.phase }, { on := 3, ground := Ground.phase }, { on := 4, ground := Ground.phase }, { on := 5, ground := Ground.phase }, { on := 6, ground := Ground.phase }, { on := 7, ground := Ground.phase }, { on := 8, ground := Ground.phase }], guard := none }) (v := ?_) rfl (by kernel_rfl) (by kernel_rfl) (by kernel_rfl) (by kernel_rfl) (fun _ _ _ h => h) hS9 (Or.inl ⟨by rfl, ?_⟩) ?_
      rotate_left 1
      · intro w hSw
        try dsimp only at hSw
        go_simp
        first | done | with_reducible rfl
      simp only [Act.put, List.setIfInBounds_toArray, List.set_cons_zero, List.set_cons_succ]
      refine Lt.step (i := 10) (o := { dst := none, op := Op.store 24 (Operand.tmp 39) (Operand.tmp 38), type := 0, pos := "l3_space.go:157", after := #[{ on := 9, ground := Ground.data }, { on := 8, ground := Ground.data }, { on := 8, ground := Ground.chain }, { on := 0, ground := Ground.phase }, { on := 1, ground := Ground.phase }, { on := 2, ground := Ground.phase }, { on := 3, ground := Ground.phase }, { on := 4, ground := Ground.phase }, { on := 5, ground := Ground.phase }, { on := 6, ground := Ground.phase }, { on := 7, ground := Ground.phase }, { on := 8, ground := Ground.phase }], guard := none }) (by kernel_rfl) rfl (fun K hK => ?_)
      go_simp
      refine hK.out _ _ (fun h => absurd rfl h) (fun _ => ?_)
      clear hK K hS9
      refine Lt.done (by kernel_rfl) ?_ _
      go_wp2
      refine bodyPost_ret (v := .tuple #[.agg #[.slice a1 (fltS t ss).length q1, .slice (some ⟨g', 0, none⟩) ((fltT t ts).length + 1) cp'], .int .i64 0]) (by simp [results, Tryz.results12, go_sem, r0, r1]) rfl ⟨((hB9.setCell (p := ⟨P, 1, none⟩) (by simp; omega) _).setCell (p := ⟨w.heap.size + 1 + 1, 0, none⟩) hR _).setCell (p := ⟨w.heap.size + 1 + 1, 1, none⟩) hR _, _, _, by rw [HD.out], ?_, ?_⟩
      · rw [(pt_yes (is := is) HD.out HAT.out).1]
        exact (OwnS.setT (OwnS.setT (OwnS.setT HS9.out HTP.out _) (HTR.out.set _) _) ((HTR.out.set _).set _) _).wide (by omega) (by simp; omega)
      · rw [(pt_yes (is := is) HD.out HAT.out).2]
        have hco := (((HC9.out.setT (j := 1) HTP.out (.slice (some ⟨g', 0, none⟩) ((fltT t ts).length + 1) cp')).setT (j := 0) (HTR.out.set _) (.slice a1 (fltS t ss).length q1)).setT (j := 1) ((HTR.out.set _).set _) (.slice (some ⟨g', 0, none⟩) ((fltT t ts).length + 1) cp')).wide (lo' := w.heap.size) (hi' := w9.heap.size) (by omega) (Nat.le_refl _)
        have hrw := own_setT (j := 1) (own_setT (j := 0) (own_setT (j := 1) (own_base (B' := w.heap.size) HR9.out (by omega)) HTP.out (by decide) (.slice (some ⟨g', 0, none⟩) ((fltT t ts).length + 1) cp')) (HTR.out.set _) (by decide) (.slice a1 (fltS t ss).length q1)) ((HTR.out.set _).set _) (by decide) (.slice (some ⟨g', 0, none⟩) ((fltT t ts).length + 1) cp')
        have hT9 := hco.toT (v := .slice (some ⟨g', 0, none⟩) ((fltT t ts).length + 1) cp') ⟨by rw [insK_length l _ r (by omega), hln]; exact hrw, fun b eb => by have := (HR9.out.lt b eb).2; omega⟩
        rw [insK_map, HLM.out] at hT9
        refine hT9.wide (Nat.le_refl _) ?_
        simp

    · have hcb : (roomC ss ts t ok != 0) = true := by simpa using hcz
      have HNE : Hid (roomC ss ts t ok ≠ 0) := hcz
      obtain ⟨c, ec⟩ : ∃ c, roomC ss ts t ok = c := ⟨_, rfl⟩
      have HD : Hid (roomC ss ts t ok = c) := ec
      rw [ec] at hcb HNE ⊢
      obtain ⟨r0, r1⟩ := blk_c KR.out
      have fr : ∀ j, wc.frozen? ⟨w.heap.size + 1 + 1, j, none⟩ = false := fun j => Lib.frozen_of_heap KR.out j
      clear hcz ec HSP
      go_wp2_with fail
      exact bodyPost_ret (v := .tuple #[.agg #[.slice none 0 0, .slice none 0 0], .int .i64 c]) (by simp [results, Tryz.results12, go_sem, r0, r1]) rfl ⟨(hBx.setCell (p := ⟨w.heap.size + 1 + 1, 0, none⟩) hR _).setCell (p := ⟨w.heap.size + 1 + 1, 1, none⟩) hR _, PtOut.no HD.out HNE.out⟩

end Go.Proofs.YtjdjhenijihpfaaGreatDoor

namespace Go.Proofs.YtjdjhenijihpfaaGreatDoor
open Go.RowKit
set_option linter.unusedVariables false

def cx (l : List TC) (i : Nat) : TC := l.getD i ⟨⟨ByteArray.empty, []⟩, .slice none 0 0⟩
theorem cx_get {l : List TC} {k : Nat} (h : k < l.length) : cx l k = l[k] := by simp [cx, List.getD_eq_getElem?_getD, h]
/-- Where the loop of spec.PutTarget stands. -/
def MidK (L : List TC) (s : TC) (r k : Nat) (M : List TC) (d : Bool) : Prop := (k ≤ r ∧ M = L.take k ∧ d = false) ∨ (r < k ∧ M = L.take r ++ [s] ++ (L.take k).drop r ∧ d = true)
theorem take_oneK {L : List TC} {k : Nat} (h : k < L.length) : L.take (k + 1) = L.take k ++ [cx L k] := by rw [List.take_succ_eq_append_getElem h, cx_get h]
theorem MidK.len {L : List TC} {s : TC} {r k : Nat} {M : List TC} {d : Bool} (h : MidK L s r k M d) (hk : k ≤ L.length) : M.length ≤ k + 1 := by
  rcases h with ⟨h1, rfl, _⟩ | ⟨h1, rfl, _⟩
  · rw [List.length_take]; omega
  · simp; omega
theorem MidK.before {L : List TC} {s : TC} {r k : Nat} {M : List TC} (h : MidK L s r k M false) (hk : k < L.length) (hr : k < r) : MidK L s r (k + 1) (M ++ [cx L k]) false := by
  rcases h with ⟨h1, rfl, _⟩ | ⟨_, _, h⟩
  · exact Or.inl ⟨by omega, (take_oneK hk).symm, rfl⟩
  · cases h
theorem MidK.here {L : List TC} {s : TC} {r : Nat} {M : List TC} (h : MidK L s r r M false) (hk : r < L.length) : MidK L s r (r + 1) (M ++ [s] ++ [cx L r]) true := by
  rcases h with ⟨h1, rfl, _⟩ | ⟨_, _, h⟩
  · refine Or.inr ⟨by omega, ?_, rfl⟩
    rw [take_oneK hk, List.drop_append_of_le_length (by rw [List.length_take]; omega), List.drop_of_length_le (by rw [List.length_take]; omega), List.nil_append]
  · cases h
theorem MidK.past {L : List TC} {s : TC} {r k : Nat} {M : List TC} (h : MidK L s r k M true) (hk : k < L.length) : MidK L s r (k + 1) (M ++ [cx L k]) true := by
  rcases h with ⟨_, _, h⟩ | ⟨h1, rfl, _⟩
  · cases h
  · refine Or.inr ⟨by omega, ?_, rfl⟩
    rw [take_oneK hk, List.drop_append_of_le_length (by rw [List.length_take]; omega), List.append_assoc (L.take r ++ [s])]
theorem MidK.done {L : List TC} {s : TC} {r : Nat} {M : List TC} (h : MidK L s r L.length M true) : M = insK L s r := by
  rcases h with ⟨_, _, h⟩ | ⟨h1, rfl, _⟩
  · cases h
  · rw [List.take_of_length_le (Nat.le_refl _)]; rfl
theorem MidK.last {L : List TC} {s : TC} {r : Nat} {M : List TC} (h : MidK L s r L.length M false) (hr : r ≤ L.length) : M ++ [s] = insK L s r := by
  rcases h with ⟨h1, rfl, _⟩ | ⟨_, _, h⟩
  · obtain rfl : r = L.length := by omega
    unfold insK
    rw [List.drop_of_length_le (Nat.le_refl _), List.append_nil]
  · cases h

theorem tcV_snoc (M : List TC) (s : TC) : tcV M ++ [.string s.t.name, s.c] = tcV (M ++ [s]) := by rw [tcV_append, tcV_one]
/-- The row that grows. -/
structure LS (w6 w8 wr : World) (g cp : Nat) (M : List TC) : Prop where
  own : wr.ownsRow w6.heap.size 64 2 (.slice (some ⟨g, 0, none⟩) M.length cp) M.length (tcV M)
  pos : g = w6.heap.size ∨ w8.heap.size ≤ g
  keep : KeepO (some w6.heap.size) w8 wr
  size : w8.heap.size ≤ wr.heap.size
  below : Below w6.heap.size w6 wr
theorem LS.alloc {w6 w8 wr : World} {g cp : Nat} {M : List TC} (h : LS w6 w8 wr g cp M) (h6 : w6.heap.size ≤ w8.heap.size) (o : Obj) : LS w6 w8 (wr.alloc o) g cp M :=
  ⟨h.own.alloc o, h.pos, h.keep.below h.size ((Below.refl _ _).alloc (Nat.le_refl _) o), by have := h.size; simp; omega, h.below.alloc (by have := h.size; omega) o⟩
theorem LS.app {w6 w8 W w2 : World} {g cp g' cp' : Nat} {M : List TC} {a : TC} (h : LS w6 w8 W g cp M) (h6 : w6.heap.size ≤ w8.heap.size) (ho : w2.ownsRow w6.heap.size 64 2 (.slice (some ⟨g', 0, none⟩) (M.length + 1) cp') (M.length + 1) (tcV M ++ [.string a.t.name, a.c])) (hg : W.grownBy w2 (some g)) (hl : some g = some g' ∨ g' = W.heap.size) : LS w6 w8 w2 g' cp' (M ++ [a]) := by
  have hs := h.size
  have hp := h.pos
  have hgl := (h.own.lt g rfl).1
  refine ⟨?_, ?_, fun b hb hne => ?_, by have := hg.size; omega, h.below.grown hg (by omega) (fun m hm => by cases hm; exact hgl)⟩
  · rw [← tcV_snoc, show (M ++ [a]).length = M.length + 1 by simp]; exact ho
  · rcases hl with e | e
    · cases e; exact hp
    · right; omega
  · have hbn : b ≠ w6.heap.size := fun e => hne (by rw [e])
    rw [hg.block b (by omega) (fun e => by cases e; omega)]
    exact h.keep b hb hne
theorem LS.cell {w6 w8 wr : World} {g cp : Nat} {M : List TC} (h : LS w6 w8 wr g cp M) {b o : Nat} {v : Value} (hc : w6.cell? ⟨b, o, none⟩ = some v) : wr.cell? ⟨b, o, none⟩ = some v := cell_below h.below hc
theorem LS.blk {w6 w8 wr : World} {g cp b : Nat} {M : List TC} {o : Obj} (h : LS w6 w8 wr g cp M) (hb : w8.heap[b]? = some o) (hne : b ≠ w6.heap.size) : wr.heap[b]? = some o := by rw [h.keep b (blkW_lt hb) (fun e => hne (Option.some.inj e))]; exact hb

set_option maxRecDepth 100000 in
set_option maxHeartbeats 8000000 in
theorem specPt_any (sa ta : Option Addr) (c1 c2 : Nat) (ss : List S2) (ts : List T2) (t : ByteArray) (a : Option Addr) (cap : Nat) (is : List I3) (w : World) (h : SpOk w sa ss ta ts) (hsm : SpSmall ss ts) (ht : t.size ≤ 9223372036854775807) (hr : Row3 w a is) (hl : is.length ≤ 1048576) (hx : ∀ i, (ix is i).text.size ≤ 9223372036854775807) :
    Calls Tryz.prog 13 #[.agg #[.slice sa ss.length c1, .slice ta ts.length c2], .string t, .agg #[.slice a is.length cap]] w fun e w' => Below w.heap.size w w' ∧ PtOut w.heap.size w' e ss ts t is (progOk is) := by
  obtain ⟨ok, eok⟩ : ∃ ok, progOk is = ok := ⟨_, rfl⟩
  have HOK : Hid (progOk is = ok) := eok
  rw [eok]
  clear eok
  obtain ⟨i0, hi, hz0, hz1, hz2⟩ := info_parts Tryz.info118b
  have hW0 : (((w.alloc (.cells #[.slice sa ss.length c1, .slice ta ts.length c2] 26)).alloc (.cells #[.slice a is.length cap] 31)).alloc (.cells #[.slice none 0 0, .slice none 0 0] 26)).heap[w.heap.size]? = some (.cells #[.slice sa ss.length c1, .slice ta ts.length c2] 26 (0, 0)) := by rw [Lib.alloc_old _ _ _ (by simp; omega), Lib.alloc_old _ _ _ (by simp)]; exact heapW_new _ _
  have hW1 : (((w.alloc (.cells #[.slice sa ss.length c1, .slice ta ts.length c2] 26)).alloc (.cells #[.slice a is.length cap] 31)).alloc (.cells #[.slice none 0 0, .slice none 0 0] 26)).heap[w.heap.size + 1]? = some (.cells #[.slice a is.length cap] 31 (0, 0)) := by
    rw [Lib.alloc_old _ _ _ (by simp)]
    have h := heapW_new (w.alloc (.cells #[.slice sa ss.length c1, .slice ta ts.length c2] 26)) (.cells #[.slice a is.length cap] 31)
    rw [show (w.alloc (.cells #[.slice sa ss.length c1, .slice ta ts.length c2] 26)).heap.size = w.heap.size + 1 from by simp] at h
    exact h
  have hW2 : (((w.alloc (.cells #[.slice sa ss.length c1, .slice ta ts.length c2] 26)).alloc (.cells #[.slice a is.length cap] 31)).alloc (.cells #[.slice none 0 0, .slice none 0 0] 26)).heap[w.heap.size + 1 + 1]? = some (.cells #[.slice none 0 0, .slice none 0 0] 26 (0, 0)) := by
    have h := heapW_new ((w.alloc (.cells #[.slice sa ss.length c1, .slice ta ts.length c2] 26)).alloc (.cells #[.slice a is.length cap] 31)) (.cells #[.slice none 0 0, .slice none 0 0] 26)
    rw [show ((w.alloc (.cells #[.slice sa ss.length c1, .slice ta ts.length c2] 26)).alloc (.cells #[.slice a is.length cap] 31)).heap.size = w.heap.size + 1 + 1 from by simp] at h
    exact h
  obtain ⟨W, eW⟩ : ∃ y, ((w.alloc (.cells #[.slice sa ss.length c1, .slice ta ts.length c2] 26)).alloc (.cells #[.slice a is.length cap] 31)).alloc (.cells #[.slice none 0 0, .slice none 0 0] 26) = y := ⟨_, rfl⟩
  have hB0 : Below w.heap.size w W := by rw [← eW]; exact (((Below.refl _ _).alloc (Nat.le_refl _) _).alloc (by simp) _).alloc (by simp; omega) _
  have hWs : W.heap.size = w.heap.size + 1 + 1 + 1 := by rw [← eW]; simp
  rw [eW] at hW0 hW1 hW2
  obtain ⟨p0, p1⟩ := blk_c hW0
  have p2 : W.cell? ⟨w.heap.size + 1, 0, none⟩ = some (.slice a is.length cap) := by rw [Lib.cell_of_heap hW1]; rfl
  have HW1 : Hid (W.heap[w.heap.size + 1]? = some (.cells #[.slice a is.length cap] 31 (0, 0))) := hW1
  have HW2 : Hid (W.heap[w.heap.size + 1 + 1]? = some (.cells #[.slice none 0 0, .slice none 0 0] 26 (0, 0))) := hW2
  have HS : Hid (SpOk w sa ss ta ts) := h
  have HR : Hid (Row3 w a is) := hr
  have HWS : Hid (W.heap.size = w.heap.size + 1 + 1 + 1) := hWs
  have hWl : w.heap.size + 1 + 1 < W.heap.size := by omega
  clear hW0 hW1 hW2 h hr hWs
  have hR : w.heap.size ≤ w.heap.size + 1 + 1 := by omega
  go_enter Tryz.func13, Tryz.ntmps13
  go_wp2_with fail
  clear eW
  refine (specCheck_any sa ta c1 c2 ss ts _ (HS.out.below hB0) hsm).mono ?_
  rintro e w1 ⟨hb1, rfl⟩
  have hB1 := bt hB0 hb1
  replace p0 := cell_below hb1 p0
  replace p1 := cell_below hb1 p1
  replace p2 := cell_below hb1 p2
  have KR1 : Hid (w1.heap[w.heap.size + 1 + 1]? = _) := blk_below HW2.out hb1
  have KZ1 : Hid (w1.heap[w.heap.size + 1]? = _) := blk_below HW1.out hb1
  obtain ⟨r0, r1⟩ := blk_c KR1.out
  have fr : ∀ j, w1.frozen? ⟨w.heap.size + 1 + 1, j, none⟩ = false := fun j => Lib.frozen_of_heap KR1.out j
  clear hb1 HW1 HW2 hB0
  by_cases hc : chk ss ts = 0
  · have HC : Hid (ChkOk ss ts) := chk_ok hc
    rw [hc]
    by_cases hn : NameOk t
    · have hnb := nameB_true hn
      go_wp2_with (go_at_call 29; refine (l2NameOk_any t _ ht).mono ?_; rintro e w9 ⟨rfl, rfl⟩; rw [hnb])
      refine (specValid_any a cap is _ (HR.out.below hB1) hl hx).mono ?_
      rw [HOK.out]
      rintro e w3 ⟨hb3, rfl⟩
      have hB3 := bt hB1 hb3
      replace p0 := cell_below hb3 p0
      replace p1 := cell_below hb3 p1
      replace p2 := cell_below hb3 p2
      have KR3 : Hid (w3.heap[w.heap.size + 1 + 1]? = _) := blk_below KR1.out hb3
      have KZ3 : Hid (w3.heap[w.heap.size + 1]? = _) := blk_below KZ1.out hb3
      clear r0 r1 fr hb3 KR1 KZ1 hB1
      cases ok
      · have HD : Hid (roomC ss ts t false = 2) := roomC2 hc (fun k => by cases k.2)
        obtain ⟨r0, r1⟩ := blk_c KR3.out
        have fr : ∀ j, w3.frozen? ⟨w.heap.size + 1 + 1, j, none⟩ = false := fun j => Lib.frozen_of_heap KR3.out j
        clear hn hc
        go_wp2_with fail
        exact bodyPost_ret (v := .tuple #[.agg #[.slice none 0 0, .slice none 0 0], .int .i64 2]) (by simp [results, Tryz.results13, go_sem, r0, r1]) rfl ⟨(hB3.setCell (p := ⟨w.heap.size + 1 + 1, 0, none⟩) hR _).setCell (p := ⟨w.heap.size + 1 + 1, 1, none⟩) hR _, PtOut.no HD.out (by decide)⟩
      · go_wp2_with fail
        refine (l3Without_any sa ta c1 c2 ss ts t _ (HS.out.rs.below hB3) (HS.out.rt.below hB3) (by have := HC.out.len; omega) (by have := HC.out.len; omega) HC.out.codes).mono ?_
        rintro e w5 ⟨hb5, v1, v2, rfl, o1, o2⟩
        have hB5 := bt hB3 hb5
        have hz : w.heap.size + 1 + 1 < w3.heap.size := blkW_lt KR3.out
        have hz5 : w3.heap.size ≤ w5.heap.size := hb5.size
        obtain ⟨a1, q1, rfl, _⟩ := o1.sl
        obtain ⟨a2, q2, rfl, _⟩ := o2.sl
        obtain ⟨w6, e6⟩ : ∃ y, w5.alloc (.cells #[.slice a1 (fltS t ss).length q1, .slice a2 (fltT t ts).length q2] 26) = y := ⟨_, rfl⟩
        have hb6 : Below w5.heap.size w5 w6 := by rw [← e6]; exact (Below.refl _ _).alloc (Nat.le_refl _) _
        have hB6 := bt hB5 hb6
        have KR6 : Hid (w6.heap[w.heap.size + 1 + 1]? = _) := blk_below (blk_below KR3.out hb5) hb6
        have KZ6 : Hid (w6.heap[w.heap.size + 1]? = _) := blk_below (blk_below KZ3.out hb5) hb6
        have HP6 : Hid (w6.heap[w5.heap.size]? = some (.cells #[.slice a1 (fltS t ss).length q1, .slice a2 (fltT t ts).length q2] 26 (0, 0))) := by show _ = _; rw [← e6]; exact heapW_new _ _
        have hs6 : w5.heap.size < w6.heap.size := blkW_lt HP6.out
        obtain ⟨s0, s1⟩ := blk_c KR6.out
        have fs : ∀ j, w6.frozen? ⟨w.heap.size + 1 + 1, j, none⟩ = false := fun j => Lib.frozen_of_heap KR6.out j
        obtain ⟨x0, x1⟩ := blk_c HP6.out
        have y2 : w6.cell? ⟨w.heap.size + 1, 0, none⟩ = some (.slice a is.length cap) := by rw [Lib.cell_of_heap KZ6.out]; rfl
        have HO1 : Hid (OwnS w6 w3.heap.size w5.heap.size (.slice a1 (fltS t ss).length q1) (fltS t ss)) := o1.below hb6
        have HO2 : Hid (OwnT w6 w3.heap.size w5.heap.size (.slice a2 (fltT t ts).length q2) (fltT t ts)) := o2.below hb6
        have HDY : Hid (¬ 200 ≤ (fltS t ss).length + (fltT t ts).length → roomC ss ts t true = 0) := roomC0 hc ⟨hn, rfl⟩
        have HDN : Hid (200 ≤ (fltS t ss).length + (fltT t ts).length → roomC ss ts t true = 3) := roomC3 hc ⟨hn, rfl⟩
        have hl1 : (fltS t ss).length ≤ 200 := by have h1 := fltS_len t ss; have h2 := HC.out.len; omega
        have hl2 : (fltT t ts).length ≤ 200 := by have h1 := fltT_len t ts; have h2 := HC.out.len; omega
        have HAS : Hid (Asc (tnames (fltT t ts))) := ascT t HC.out.a2
        have hil : 1 ≤ is.length := by
          have hp := HOK.out
          unfold progOk at hp
          simp only [Bool.and_eq_true, decide_eq_true_eq] at hp
          exact hp.1.1
        clear o1 o2 hb5 hb6 p0 p1 p2 hc hn hB5 KR3 KZ3 hB3
        by_cases hf : 200 ≤ (fltS t ss).length + (fltT t ts).length
        · have HD : Hid (roomC ss ts t true = 3) := HDN.out hf
          have heq : decide ((200 : Int) ≤ ((fltS t ss).length : Int) + ((fltT t ts).length : Int)) = true := by simp; omega
          generalize (fltS t ss).length = n1 at *
          generalize (fltT t ts).length = n2 at *
          go_wp2_with fail
          exact bodyPost_ret (v := .tuple #[.agg #[.slice none 0 0, .slice none 0 0], .int .i64 3]) (by simp [results, Tryz.results13, go_sem, s0, s1]) rfl ⟨(hB6.setCell (p := ⟨w.heap.size + 1 + 1, 0, none⟩) hR _).setCell (p := ⟨w.heap.size + 1 + 1, 1, none⟩) hR _, PtOut.no HD.out (by decide)⟩
        · have HD : Hid (roomC ss ts t true = 0) := HDY.out hf
          have heq : decide ((200 : Int) ≤ ((fltS t ss).length : Int) + ((fltT t ts).length : Int)) = false := by simp; omega
          obtain ⟨r, hat⟩ := atR_exists HAS.out t
          have hrl : r ≤ (fltT t ts).length := by have := hat.le; rw [tnames_length] at this; exact this
          obtain ⟨l, hlm, hlr, hlc⟩ := HO2.out.toC
          have hln : l.length = (fltT t ts).length := by rw [← hlm]; simp
          have hnm : ∀ k, k < l.length → (tx (fltT t ts) k).name = (cx l k).t.name := fun k hk => by
            rw [tx_get (by omega), cx_get hk]
            simp [← hlm]
          have HCB : Hid (∀ k, k < r → Op.bytesLess (cx l k).t.name.toList t.toList = true) := fun k hk => by
            have h1 := hat.lo k hk
            rw [nx_tnames, hnm k (by omega)] at h1
            exact h1
          have HCA : Hid (∀ k, r ≤ k → k < l.length → Op.bytesLess (cx l k).t.name.toList t.toList = false ∧ ((cx l k).t.name.toList == t.toList) = false) := fun k hk1 hk2 => by
            have h1 := hat.hi k hk1 (by rw [tnames_length]; omega)
            rw [nx_tnames, hnm k hk2] at h1
            refine ⟨h1, ?_⟩
            rw [beq_eq_false_iff_ne]
            intro e
            rw [ByteArray.toList_eq, ByteArray.toList_eq] at e
            have h3 := fltT_ne t ts (i := k) (by omega)
            rw [hnm k hk2] at h3
            exact h3 (WideShapes.bytes_inj e)
          have HPY : Hid (ptS ss ts t true = fltS t ss ∧ ptT ss ts t is true = insT (fltT t ts) ⟨t, is⟩ r) := pt_yes HD.out hat
          have HLM : Hid (l.map (·.t) = fltT t ts) := hlm
          have HLN : Hid (l.length = (fltT t ts).length) := hln
          have HLC : Hid (Codes w6 w3.heap.size w5.heap.size l) := hlc
          have HLV : Hid (RowO w6 w3.heap.size w5.heap.size 64 2 (.slice a2 (fltT t ts).length q2) (fltT t ts).length (tcV l)) := hlr
          have HLP : Hid ((fltS t ss).length + (fltT t ts).length < 200) := by show _ < _; omega
          clear hat hlm hlr hlc hnm hf
          obtain ⟨n2, en2⟩ : ∃ n2, (fltT t ts).length = n2 := ⟨_, rfl⟩
          have HEN : Hid ((fltT t ts).length = n2) := en2
          rw [en2] at hln hrl hl2 heq HLV x1 HP6 HLN HLP HO2 e6
          clear en2 HDY HDN
          obtain ⟨n1, en1⟩ : ∃ n1, (fltS t ss).length = n1 := ⟨_, rfl⟩
          have HEN1 : Hid ((fltS t ss).length = n1) := en1
          rw [en1] at hl1 heq x0 HP6 HLP HO1 e6
          clear en1
          obtain ⟨w7, e7⟩ : ∃ y, w6.alloc (.cells #[] 64) = y := ⟨_, rfl⟩
          have hb7 : Below w6.heap.size w6 w7 := by rw [← e7]; exact (Below.refl _ _).alloc (Nat.le_refl _) _
          have HO7 : Hid (w7.ownsRow w6.heap.size 64 2 (.slice (some ⟨w6.heap.size, 0, none⟩) 0 0) 0 []) := by
            show World.ownsRow _ _ _ _ _ _ _
            rw [← e7]
            exact World.ownsRow_lit (base := w6.heap.size) (e := 64) (size := 2) w6 #[] 0 (Nat.le_refl _) (by unfold maxLen; omega) (by simp)
          have y7 := cell_below hb7 y2
          rw [HEN.out, HEN1.out]
          go_wp2_with fail
          clear e7 heq x0 x1 s0 s1 fs y2
          refine (l3Program_any a cap is w7 (HR.out.below (bt hB6 hb7)) hil hl).mono ?_
          rintro e wx ⟨hbx, gc, cpc, rfl, hoc⟩
          have hs7 : w6.heap.size < w7.heap.size := (HO7.out.lt _ rfl).2
          have hsx : w7.heap.size ≤ wx.heap.size := hbx.size
          obtain ⟨w8, e8⟩ : ∃ y, wx.alloc (.cells #[.string t, .slice (some ⟨gc, 0, none⟩) is.length cpc] 64) = y := ⟨_, rfl⟩
          have hbx8 : Below wx.heap.size wx w8 := by rw [← e8]; exact (Below.refl _ _).alloc (Nat.le_refl _) _
          have HQ8 : Hid (w8.heap[wx.heap.size]? = some (.cells #[.string t, .slice (some ⟨gc, 0, none⟩) is.length cpc] 64 (0, 0))) := by show _ = _; rw [← e8]; exact heapW_new _ _
          have hs8 : wx.heap.size < w8.heap.size := blkW_lt HQ8.out
          have hb78 : Below w7.heap.size w7 w8 := bt hbx hbx8
          have HOC : Hid (w8.ownsRow w7.heap.size 84 3 (.slice (some ⟨gc, 0, none⟩) is.length cpc) is.length (insV is)) := ownsRow_below hoc hbx8
          have HL0 : Hid (LS w6 w8 w8 w6.heap.size 0 []) := ⟨ownsRow_below HO7.out hb78, Or.inl rfl, fun _ _ _ => rfl, Nat.le_refl _, hb7.trans (hb78.mono (by omega))⟩
          have h68 : w6.heap.size ≤ w8.heap.size := by omega
          clear hoc hbx hbx8 hb78 hb7 HO7 y7
          go_wp2_with fail
          clear e8
          go_loopw [9, 10, 12] (fun lv dn i wr => ∃ (k : Nat) (M : List TC) (g cp : Nat) (d : Bool), k ≤ l.length ∧ lv = .slice (some ⟨g, 0, none⟩) M.length cp ∧ dn = .bool d ∧ i = .int .i64 k ∧ Hid (LS w6 w8 wr g cp M) ∧ Hid (MidK l ⟨⟨t, is⟩, .slice (some ⟨gc, 0, none⟩) is.length cpc⟩ r k M d)) (fun _ _ i _ => l.length - (intOf i).toNat)
          case atStart => exact ⟨0, [], _, 0, false, Nat.zero_le _, rfl, rfl, rfl, HL0.out, (Or.inl ⟨Nat.zero_le _, rfl, rfl⟩ : MidK l ⟨⟨t, is⟩, .slice (some ⟨gc, 0, none⟩) is.length cpc⟩ r 0 [] false)⟩
          case round =>
            obtain ⟨k, M, g, cp, d, hk, rfl, rfl, rfl, HL, HM⟩ := hrel
            clear HL0
            have hwr : w8.heap.size ≤ wr.heap.size := HL.out.size
            obtain ⟨z0, z1⟩ := blk_c (blk_below HP6.out HL.out.below)
            have hml := HM.out.len hk
            have HQr : Hid (wr.heap[wx.heap.size]? = _) := HL.out.blk HQ8.out (by omega)
            obtain ⟨o0, o1⟩ := blk_c HQr.out
            by_cases hlt : k < l.length
            · obtain ⟨gv, e2⟩ : ∃ gv, a2 = some ⟨gv, 0, none⟩ := by
                rcases own_cases HLV.out.own with ⟨h1, h2⟩ | ⟨g', c', h1⟩
                · omega
                · cases h1; exact ⟨g', rfl⟩
              subst e2
              have hgv : gv < w5.heap.size := HLV.out.top gv rfl
              obtain ⟨t1, t2⟩ := tcV_at l k hlt
              rw [← cx_get hlt] at t1 t2
              obtain ⟨va, vc, ev⟩ := HLC.out.slice (a := cx l k) (by rw [cx_get hlt]; exact List.getElem_mem hlt)
              have y1 : w6.cell? ⟨gv, k * 2, none⟩ = some (.string (cx l k).t.name) := by rw [HLV.out.own.cellAt _ (by omega)]; exact t1
              have y2 : w6.cell? ⟨gv, k * 2 + 1, none⟩ = some (.slice va (cx l k).t.code.length vc) := by rw [HLV.out.own.cellAt _ (by omega), t2, ev]
              have d1 := HL.out.cell y1
              have d2 := HL.out.cell y2
              have hkI : (k : Int) < (n2 : Int) := by omega
              have hk0 : (0 : Int) ≤ (k : Int) := by omega
              have HNB : Hid (∀ hr : k < r, d = false → MidK l ⟨⟨t, is⟩, .slice (some ⟨gc, 0, none⟩) is.length cpc⟩ r (k + 1) (M ++ [cx l k]) false) := fun hr hd => by subst hd; exact HM.out.before hlt hr
              have HNH : Hid (∀ hr : k = r, d = false → MidK l ⟨⟨t, is⟩, .slice (some ⟨gc, 0, none⟩) is.length cpc⟩ r (k + 1) (M ++ [⟨⟨t, is⟩, .slice (some ⟨gc, 0, none⟩) is.length cpc⟩] ++ [cx l k]) true) := fun hr hd => by subst hd; subst hr; exact HM.out.here hlt
              have HNP : Hid (d = true → MidK l ⟨⟨t, is⟩, .slice (some ⟨gc, 0, none⟩) is.length cpc⟩ r (k + 1) (M ++ [cx l k]) true) := fun hd => by subst hd; exact HM.out.past hlt
              have HRK : Hid (d = false → k ≤ r) := fun hd => by
                rcases HM.out with ⟨h1, _, _⟩ | ⟨_, _, h1⟩
                · exact h1
                · rw [hd] at h1; cases h1
              have HV1 : Hid (k < r → Op.bytesLess (cx l k).t.name.toList t.toList = true) := HCB.out k
              have HV2 : Hid (r ≤ k → Op.bytesLess (cx l k).t.name.toList t.toList = false ∧ ((cx l k).t.name.toList == t.toList) = false) := fun h => HCA.out k h hlt
              obtain ⟨s, es⟩ : ∃ s, cx l k = s := ⟨_, rfl⟩
              rw [es] at d1 d2 HNB HNH HNP HV1 HV2 ev y1 y2
              have HY : Hid (w6.cell? ⟨gv, k * 2, none⟩ = some (.string s.t.name) ∧ w6.cell? ⟨gv, k * 2 + 1, none⟩ = some (.slice va s.t.code.length vc) ∧ w6.cell? ⟨w5.heap.size, 1, none⟩ = some (.slice (some ⟨gv, 0, none⟩) n2 q2)) := ⟨y1, y2, (blk_c HP6.out).2⟩
              have EV : Hid (s.c = .slice va s.t.code.length vc) := ev
              clear es y1 y2 HM t1 t2 ev
              cases d
              · rcases Nat.lt_or_ge k r with hkr | hkr
                · have hv := HV1.out hkr
                  have HMN : Hid (MidK l ⟨⟨t, is⟩, .slice (some ⟨gc, 0, none⟩) is.length cpc⟩ r (k + 1) (M ++ [s]) false) := HNB.out hkr rfl
                  clear HV1 HV2 HNB HNH HNP
                  obtain ⟨wA, eA⟩ : ∃ y, wr.alloc (.cells #[.string s.t.name, .slice va s.t.code.length vc] 64) = y := ⟨_, rfl⟩
                  have HLA : Hid (LS w6 w8 wA g cp M) := by show LS _ _ _ _ _ _; rw [← eA]; exact HL.out.alloc h68 _
                  have HNA : Hid (wA.heap[wr.heap.size]? = some (.cells #[.string s.t.name, .slice va s.t.code.length vc] 64 (0, 0))) := by show _ = _; rw [← eA]; exact heapW_new _ _
                  have hsA : wr.heap.size < wA.heap.size := blkW_lt HNA.out
                  go_wp2_with (first | (at_builtin; refine wpList_append_lies _ rfl (.tmp 66) (.tmp 72) 24 rfl w6.heap.size 64 i0 (.agg #[.string ⟨#[]⟩, .slice none 0 0]) 2 40 Tryz.underlying24 hi hz0 hz1 hz2 rfl (by decide) _ _ _ rfl HLA.out.own ⟨wr.heap.size, 0, none⟩ 1 1 [.string s.t.name, .slice va s.t.code.length vc] rfl rfl (World.news_of_block (cs := #[.string s.t.name, .slice va s.t.code.length vc]) (t := 64) (fr := (0, 0)) HNA.out) (by intro u hu; simp at hu; rcases hu with rfl | rfl <;> rfl) (by omega) (by unfold maxLen; omega) (by omega) (by omega) _ rfl ?_; intro g' cp' w2 hown' hgrow hlie hlt'; rw [← EV.out] at hown'; have HL2 : Hid (LS w6 w8 w2 g' cp' (M ++ [s])) := HLA.out.app h68 hown' hgrow hlie; clear hown' hgrow hlie hlt'))
                  clear eA
                  exact ⟨⟨k + 1, M ++ [s], g', cp', false, by omega, by rw [List.length_append]; rfl, rfl, by go_num, HL2.out, HMN.out⟩, by simp [intOf]; omega⟩
                · have hkr' : k = r := by have := HRK.out rfl; omega
                  obtain ⟨hv, hv2⟩ := HV2.out hkr
                  have HMN : Hid (MidK l ⟨⟨t, is⟩, .slice (some ⟨gc, 0, none⟩) is.length cpc⟩ r (k + 1) (M ++ [⟨⟨t, is⟩, .slice (some ⟨gc, 0, none⟩) is.length cpc⟩] ++ [s]) true) := HNH.out hkr' rfl
                  clear HV1 HV2 HNB HNH HNP hkr'
                  obtain ⟨wC, eC⟩ : ∃ y, wr.alloc (.cells #[.string t, .slice (some ⟨gc, 0, none⟩) is.length cpc] 64) = y := ⟨_, rfl⟩
                  have HLA : Hid (LS w6 w8 wC g cp M) := by show LS _ _ _ _ _ _; rw [← eC]; exact HL.out.alloc h68 _
                  have HNA : Hid (wC.heap[wr.heap.size]? = some (.cells #[.string t, .slice (some ⟨gc, 0, none⟩) is.length cpc] 64 (0, 0))) := by show _ = _; rw [← eC]; exact heapW_new _ _
                  have hsA : wr.heap.size < wC.heap.size := blkW_lt HNA.out
                  go_wp2_with (first | (at_builtin; refine wpList_append_lies _ rfl (.tmp 62) (.tmp 64) 24 rfl w6.heap.size 64 i0 (.agg #[.string ⟨#[]⟩, .slice none 0 0]) 2 40 Tryz.underlying24 hi hz0 hz1 hz2 rfl (by decide) _ _ _ rfl HLA.out.own ⟨wr.heap.size, 0, none⟩ 1 1 [.string t, .slice (some ⟨gc, 0, none⟩) is.length cpc] rfl rfl (World.news_of_block (cs := #[.string t, .slice (some ⟨gc, 0, none⟩) is.length cpc]) (t := 64) (fr := (0, 0)) HNA.out) (by intro u hu; simp at hu; rcases hu with rfl | rfl <;> rfl) (by omega) (by unfold maxLen; omega) (by omega) (by omega) _ rfl ?_; intro g' cp' w2 hown' hgrow hlie hlt'; have HL2 : Hid (LS w6 w8 w2 g' cp' (M ++ [(⟨⟨t, is⟩, .slice (some ⟨gc, 0, none⟩) is.length cpc⟩ : TC)])) := HLA.out.app (a := ⟨⟨t, is⟩, .slice (some ⟨gc, 0, none⟩) is.length cpc⟩) h68 hown' hgrow hlie; have hs2 := HL2.out.size; have m0 := HL2.out.cell HY.out.2.2; have m1 := HL2.out.cell HY.out.1; have m2 := HL2.out.cell HY.out.2.1; clear eC; obtain ⟨wE, eE⟩ : ∃ y, w2.alloc (.cells #[.string s.t.name, .slice va s.t.code.length vc] 64) = y := ⟨_, rfl⟩; have HLE2 : Hid (LS w6 w8 wE g' cp' (M ++ [(⟨⟨t, is⟩, .slice (some ⟨gc, 0, none⟩) is.length cpc⟩ : TC)])) := (by show LS _ _ _ _ _ _; rw [← eE]; exact HL2.out.alloc h68 _); have HOE : Hid (wE.ownsRow w6.heap.size 64 2 (.slice (some ⟨g', 0, none⟩) (M.length + 1) cp') (M.length + 1) (tcV (M ++ [(⟨⟨t, is⟩, .slice (some ⟨gc, 0, none⟩) is.length cpc⟩ : TC)]))) := (by have hq := HLE2.out.own; rw [show (M ++ [(⟨⟨t, is⟩, .slice (some ⟨gc, 0, none⟩) is.length cpc⟩ : TC)]).length = M.length + 1 by simp] at hq; exact hq); have HNE : Hid (wE.heap[w2.heap.size]? = some (.cells #[.string s.t.name, .slice va s.t.code.length vc] 64 (0, 0))) := (by show _ = _; rw [← eE]; exact heapW_new _ _); have hsE : w2.heap.size < wE.heap.size := blkW_lt HNE.out; clear hown' hgrow hlie hlt') | (at_builtin; refine wpList_append_lies _ rfl (.tmp 66) (.tmp 72) 24 rfl w6.heap.size 64 i0 (.agg #[.string ⟨#[]⟩, .slice none 0 0]) 2 40 Tryz.underlying24 hi hz0 hz1 hz2 rfl (by decide) _ _ _ rfl HOE.out ⟨w2.heap.size, 0, none⟩ 1 1 [.string s.t.name, .slice va s.t.code.length vc] rfl rfl (World.news_of_block (cs := #[.string s.t.name, .slice va s.t.code.length vc]) (t := 64) (fr := (0, 0)) HNE.out) (by intro u hu; simp at hu; rcases hu with rfl | rfl <;> rfl) (by omega) (by unfold maxLen; omega) (by omega) (by omega) _ rfl ?_; intro g3 cp3 w3' hown3 hgrow3 hlie3 hlt3; clear eE; rw [← EV.out] at hown3; have HL3 : Hid (LS w6 w8 w3' g3 cp3 (M ++ [(⟨⟨t, is⟩, .slice (some ⟨gc, 0, none⟩) is.length cpc⟩ : TC)] ++ [s])) := HLE2.out.app h68 (by rw [show (M ++ [(⟨⟨t, is⟩, .slice (some ⟨gc, 0, none⟩) is.length cpc⟩ : TC)]).length = M.length + 1 by simp]; exact hown3) hgrow3 hlie3; clear hown3 hgrow3 hlie3 hlt3))
                  exact ⟨⟨k + 1, M ++ [(⟨⟨t, is⟩, .slice (some ⟨gc, 0, none⟩) is.length cpc⟩ : TC)] ++ [s], g3, cp3, true, by omega, by rw [List.length_append, List.length_append]; rfl, rfl, by go_num, HL3.out, HMN.out⟩, by simp [intOf]; omega⟩
              · have HMN : Hid (MidK l ⟨⟨t, is⟩, .slice (some ⟨gc, 0, none⟩) is.length cpc⟩ r (k + 1) (M ++ [s]) true) := HNP.out rfl
                clear HV1 HV2 HNB HNH HNP
                obtain ⟨wA, eA⟩ : ∃ y, wr.alloc (.cells #[.string s.t.name, .slice va s.t.code.length vc] 64) = y := ⟨_, rfl⟩
                have HLA : Hid (LS w6 w8 wA g cp M) := by show LS _ _ _ _ _ _; rw [← eA]; exact HL.out.alloc h68 _
                have HNA : Hid (wA.heap[wr.heap.size]? = some (.cells #[.string s.t.name, .slice va s.t.code.length vc] 64 (0, 0))) := by show _ = _; rw [← eA]; exact heapW_new _ _
                have hsA : wr.heap.size < wA.heap.size := blkW_lt HNA.out
                go_wp2_with (first | (at_builtin; refine wpList_append_lies _ rfl (.tmp 66) (.tmp 72) 24 rfl w6.heap.size 64 i0 (.agg #[.string ⟨#[]⟩, .slice none 0 0]) 2 40 Tryz.underlying24 hi hz0 hz1 hz2 rfl (by decide) _ _ _ rfl HLA.out.own ⟨wr.heap.size, 0, none⟩ 1 1 [.string s.t.name, .slice va s.t.code.length vc] rfl rfl (World.news_of_block (cs := #[.string s.t.name, .slice va s.t.code.length vc]) (t := 64) (fr := (0, 0)) HNA.out) (by intro u hu; simp at hu; rcases hu with rfl | rfl <;> rfl) (by omega) (by unfold maxLen; omega) (by omega) (by omega) _ rfl ?_; intro g' cp' w2 hown' hgrow hlie hlt'; rw [← EV.out] at hown'; have HL2 : Hid (LS w6 w8 w2 g' cp' (M ++ [s])) := HLA.out.app h68 hown' hgrow hlie; clear hown' hgrow hlie hlt'))
                clear eA
                exact ⟨⟨k + 1, M ++ [s], g', cp', true, by omega, by rw [List.length_append]; rfl, rfl, by go_num, HL2.out, HMN.out⟩, by simp [intOf]; omega⟩
            · have ek : k = l.length := by omega
              subst ek
              have HRI : Hid (d = true → M = insK l ⟨⟨t, is⟩, .slice (some ⟨gc, 0, none⟩) is.length cpc⟩ r) := fun hd => by subst hd; exact HM.out.done
              have HRL : Hid (d = false → M ++ [⟨⟨t, is⟩, .slice (some ⟨gc, 0, none⟩) is.length cpc⟩] = insK l ⟨⟨t, is⟩, .slice (some ⟨gc, 0, none⟩) is.length cpc⟩ r) := fun hd => by subst hd; exact HM.out.last (by omega)
              have hkI : ¬ ((l.length : Int) < (n2 : Int)) := by omega
              clear HM
              have HFIN : Hid (∀ (W2 : World) (g2 cp2 : Nat), LS w6 w8 W2 g2 cp2 (insK l ⟨⟨t, is⟩, .slice (some ⟨gc, 0, none⟩) is.length cpc⟩ r) → Codes W2 w3.heap.size W2.heap.size (insK l ⟨⟨t, is⟩, .slice (some ⟨gc, 0, none⟩) is.length cpc⟩ r)) := fun W2 g2 cp2 hL2 => by
                have hs2 := hL2.size
                refine ((HLC.out.below hL2.below).wide (Nat.le_refl _) (by omega)).ins ⟨⟨t, is⟩, .slice (some ⟨gc, 0, none⟩) is.length cpc⟩ r (ys := insV is) ?_ (insV_filled is) (fun b hb k e1 e3 => ?_)
                · refine ⟨own_base (own_same HOC.out (fun b eb => hL2.keep b (HOC.out.lt b eb).2 (fun e' => by have := (HOC.out.lt b eb).1; cases e'; omega))) (by omega), fun b eb => by have := (HOC.out.lt b eb).2; omega⟩
                · obtain ⟨ys, k1, _⟩ := HLC.out.code b hb
                  have := k1.top k e1
                  have := (HOC.out.lt k e3).1
                  omega
              cases d
              · have HRE : Hid (M ++ [⟨⟨t, is⟩, .slice (some ⟨gc, 0, none⟩) is.length cpc⟩] = insK l ⟨⟨t, is⟩, .slice (some ⟨gc, 0, none⟩) is.length cpc⟩ r) := HRL.out rfl
                clear HRI HRL
                obtain ⟨wC, eC⟩ : ∃ y, wr.alloc (.cells #[.string t, .slice (some ⟨gc, 0, none⟩) is.length cpc] 64) = y := ⟨_, rfl⟩
                have HLA : Hid (LS w6 w8 wC g cp M) := by show LS _ _ _ _ _ _; rw [← eC]; exact HL.out.alloc h68 _
                have HNA : Hid (wC.heap[wr.heap.size]? = some (.cells #[.string t, .slice (some ⟨gc, 0, none⟩) is.length cpc] 64 (0, 0))) := by show _ = _; rw [← eC]; exact heapW_new _ _
                have hsA : wr.heap.size < wC.heap.size := blkW_lt HNA.out
                go_wp2_with (first | (at_builtin; refine wpList_append_lies _ rfl (.tmp 76) (.tmp 78) 24 rfl w6.heap.size 64 i0 (.agg #[.string ⟨#[]⟩, .slice none 0 0]) 2 40 Tryz.underlying24 hi hz0 hz1 hz2 rfl (by decide) _ _ _ rfl HLA.out.own ⟨wr.heap.size, 0, none⟩ 1 1 [.string t, .slice (some ⟨gc, 0, none⟩) is.length cpc] rfl rfl (World.news_of_block (cs := #[.string t, .slice (some ⟨gc, 0, none⟩) is.length cpc]) (t := 64) (fr := (0, 0)) HNA.out) (by intro u hu; simp at hu; rcases hu with rfl | rfl <;> rfl) (by omega) (by unfold maxLen; omega) (by omega) (by omega) _ rfl ?_; intro g' cp' w2 hown' hgrow hlie hlt'; have HL2a : Hid (LS w6 w8 w2 g' cp' (M ++ [(⟨⟨t, is⟩, .slice (some ⟨gc, 0, none⟩) is.length cpc⟩ : TC)])) := HLA.out.app (a := ⟨⟨t, is⟩, .slice (some ⟨gc, 0, none⟩) is.length cpc⟩) h68 hown' hgrow hlie; have HL2 : Hid (LS w6 w8 w2 g' cp' (insK l ⟨⟨t, is⟩, .slice (some ⟨gc, 0, none⟩) is.length cpc⟩ r)) := (by show LS _ _ _ _ _ _; rw [← HRE.out]; exact HL2a.out); have HLE : Hid (M.length + 1 = (insK l ⟨⟨t, is⟩, .slice (some ⟨gc, 0, none⟩) is.length cpc⟩ r).length) := (by show _ = _; rw [← HRE.out]; simp); clear hown' hgrow hlie hlt' eC HL2a; have kr := blk_below KR6.out HL2.out.below; have kp := blk_below HP6.out HL2.out.below; have u0 := (blk_c kr).1; have u1 := (blk_c kr).2; have k0 := (blk_c kp).1; have k1 := (blk_c kp).2; have uf : ∀ j, w2.frozen? ⟨w.heap.size + 1 + 1, j, none⟩ = false := (fun j => Lib.frozen_of_heap kr j); have vf : ∀ j, w2.frozen? ⟨w5.heap.size, j, none⟩ = false := (fun j => Lib.frozen_of_heap kp j); have hBr : Below w.heap.size w w2 := hB6.trans (HL2.out.below.mono (by omega)); have HTP : Hid (HasT w2 w5.heap.size 26) := ⟨_, kp⟩; have HTR : Hid (HasT w2 (w.heap.size + 1 + 1) 26) := ⟨_, kr⟩; have HO1r : Hid (OwnS w2 w3.heap.size w5.heap.size (.slice a1 n1 q1) (fltS t ss)) := HO1.out.below HL2.out.below; have HCO : Hid (Codes w2 w3.heap.size w2.heap.size (insK l ⟨⟨t, is⟩, .slice (some ⟨gc, 0, none⟩) is.length cpc⟩ r)) := HFIN.out w2 _ _ HL2.out; have hs2 := HL2.out.size; clear kr kp))
                refine bodyPost_ret (v := .tuple #[.agg #[.slice a1 n1 q1, .slice (some ⟨g', 0, none⟩) (M.length + 1) cp'], .int .i64 0]) (by simp [results, Tryz.results13, go_sem, u0, u1]) rfl ⟨((hBr.setCell (p := ⟨w5.heap.size, 1, none⟩) (by simp; omega) _).setCell (p := ⟨w.heap.size + 1 + 1, 0, none⟩) hR _).setCell (p := ⟨w.heap.size + 1 + 1, 1, none⟩) hR _, _, _, by rw [HD.out], ?_, ?_⟩
                · rw [HPY.out.1]
                  refine (OwnS.setT (OwnS.setT (OwnS.setT HO1r.out HTP.out _) (HTR.out.set _) _) ((HTR.out.set _).set _) _).wide (by omega) ?_
                  simp
                  omega
                · rw [HPY.out.2]
                  have hco := (((HCO.out.setT (j := 1) HTP.out (.slice (some ⟨g', 0, none⟩) (M.length + 1) cp')).setT (j := 0) (HTR.out.set _) (.slice a1 n1 q1)).setT (j := 1) ((HTR.out.set _).set _) (.slice (some ⟨g', 0, none⟩) (M.length + 1) cp')).wide (lo' := w.heap.size) (hi' := w2.heap.size) (by omega) (Nat.le_refl _)
                  have hrw := own_setT (j := 1) (own_setT (j := 0) (own_setT (j := 1) (own_base (B' := w.heap.size) HL2.out.own (by omega)) HTP.out (by decide) (.slice (some ⟨g', 0, none⟩) (M.length + 1) cp')) (HTR.out.set _) (by decide) (.slice a1 n1 q1)) ((HTR.out.set _).set _) (by decide) (.slice (some ⟨g', 0, none⟩) (M.length + 1) cp')
                  have hT9 := hco.toT (v := .slice (some ⟨g', 0, none⟩) (insK l ⟨⟨t, is⟩, .slice (some ⟨gc, 0, none⟩) is.length cpc⟩ r).length cp') ⟨hrw, fun b eb => by have := (HL2.out.own.lt b eb).2; omega⟩
                  rw [insK_map, HLM.out, ← HLE.out] at hT9
                  refine hT9.wide (Nat.le_refl _) ?_
                  simp
              · have HRE : Hid (M = insK l ⟨⟨t, is⟩, .slice (some ⟨gc, 0, none⟩) is.length cpc⟩ r) := HRI.out rfl
                have HL2 : Hid (LS w6 w8 wr g cp (insK l ⟨⟨t, is⟩, .slice (some ⟨gc, 0, none⟩) is.length cpc⟩ r)) := by show LS _ _ _ _ _ _; rw [← HRE.out]; exact HL.out
                have HLE : Hid (M.length = (insK l ⟨⟨t, is⟩, .slice (some ⟨gc, 0, none⟩) is.length cpc⟩ r).length) := by show _ = _; rw [← HRE.out]
                clear HRI HRL z0 z1
                have kr := blk_below KR6.out HL2.out.below
                have kp := blk_below HP6.out HL2.out.below
                have u0 := (blk_c kr).1
                have u1 := (blk_c kr).2
                have k0 := (blk_c kp).1
                have k1 := (blk_c kp).2
                have uf : ∀ j, wr.frozen? ⟨w.heap.size + 1 + 1, j, none⟩ = false := (fun j => Lib.frozen_of_heap kr j)
                have vf : ∀ j, wr.frozen? ⟨w5.heap.size, j, none⟩ = false := (fun j => Lib.frozen_of_heap kp j)
                have hBr : Below w.heap.size w wr := hB6.trans (HL2.out.below.mono (by omega))
                have HTP : Hid (HasT wr w5.heap.size 26) := ⟨_, kp⟩
                have HTR : Hid (HasT wr (w.heap.size + 1 + 1) 26) := ⟨_, kr⟩
                have HO1r : Hid (OwnS wr w3.heap.size w5.heap.size (.slice a1 n1 q1) (fltS t ss)) := HO1.out.below HL2.out.below
                have HCO : Hid (Codes wr w3.heap.size wr.heap.size (insK l ⟨⟨t, is⟩, .slice (some ⟨gc, 0, none⟩) is.length cpc⟩ r)) := HFIN.out wr _ _ HL2.out
                have hs2 := HL2.out.size
                clear kr kp
                go_wp2_with fail
                refine bodyPost_ret (v := .tuple #[.agg #[.slice a1 n1 q1, .slice (some ⟨g, 0, none⟩) M.length cp], .int .i64 0]) (by simp [results, Tryz.results13, go_sem, u0, u1]) rfl ⟨((hBr.setCell (p := ⟨w5.heap.size, 1, none⟩) (by simp; omega) _).setCell (p := ⟨w.heap.size + 1 + 1, 0, none⟩) hR _).setCell (p := ⟨w.heap.size + 1 + 1, 1, none⟩) hR _, _, _, by rw [HD.out], ?_, ?_⟩
                · rw [HPY.out.1]
                  refine (OwnS.setT (OwnS.setT (OwnS.setT HO1r.out HTP.out _) (HTR.out.set _) _) ((HTR.out.set _).set _) _).wide (by omega) ?_
                  simp
                  omega
                · rw [HPY.out.2]
                  have hco := (((HCO.out.setT (j := 1) HTP.out (.slice (some ⟨g, 0, none⟩) M.length cp)).setT (j := 0) (HTR.out.set _) (.slice a1 n1 q1)).setT (j := 1) ((HTR.out.set _).set _) (.slice (some ⟨g, 0, none⟩) M.length cp)).wide (lo' := w.heap.size) (hi' := wr.heap.size) (by omega) (Nat.le_refl _)
                  have hrw := own_setT (j := 1) (own_setT (j := 0) (own_setT (j := 1) (own_base (B' := w.heap.size) HL2.out.own (by omega)) HTP.out (by decide) (.slice (some ⟨g, 0, none⟩) M.length cp)) (HTR.out.set _) (by decide) (.slice a1 n1 q1)) ((HTR.out.set _).set _) (by decide) (.slice (some ⟨g, 0, none⟩) M.length cp)
                  have hT9 := hco.toT (v := .slice (some ⟨g, 0, none⟩) (insK l ⟨⟨t, is⟩, .slice (some ⟨gc, 0, none⟩) is.length cpc⟩ r).length cp) ⟨hrw, fun b eb => by have := (HL2.out.own.lt b eb).2; omega⟩
                  rw [insK_map, HLM.out, ← HLE.out] at hT9
                  refine hT9.wide (Nat.le_refl _) ?_
                  simp
    · have hnb := nameB_false hn
      have HD : Hid (roomC ss ts t ok = 2) := roomC2 hc (fun k => hn k.1)
      clear hn hc
      go_wp2_with (go_at_call 29; refine (l2NameOk_any t _ ht).mono ?_; rintro e w9 ⟨rfl, rfl⟩; rw [hnb])
      exact bodyPost_ret (v := .tuple #[.agg #[.slice none 0 0, .slice none 0 0], .int .i64 2]) (by simp [results, Tryz.results13, go_sem, r0, r1]) rfl ⟨(hB1.setCell (p := ⟨w.heap.size + 1 + 1, 0, none⟩) hR _).setCell (p := ⟨w.heap.size + 1 + 1, 1, none⟩) hR _, PtOut.no HD.out (by decide)⟩
  · have hcb : (chk ss ts != 0) = true := by simpa using hc
    have HD : Hid (roomC ss ts t ok = 1) := roomC1 hc
    clear hc
    generalize chk ss ts = q at *
    go_wp2_with fail
    exact bodyPost_ret (v := .tuple #[.agg #[.slice none 0 0, .slice none 0 0], .int .i64 1]) (by simp [results, Tryz.results13, go_sem, r0, r1]) rfl ⟨(hB1.setCell (p := ⟨w.heap.size + 1 + 1, 0, none⟩) hR _).setCell (p := ⟨w.heap.size + 1 + 1, 1, none⟩) hR _, PtOut.no HD.out (by decide)⟩

end Go.Proofs.YtjdjhenijihpfaaGreatDoor
