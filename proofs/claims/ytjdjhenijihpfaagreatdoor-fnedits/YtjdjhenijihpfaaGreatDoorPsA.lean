import Derived.Test.YtjdjhenijihpfaaGreatDoorDrL
import Derived.Test.YtjdjhenijihpfaaGreatDoorInS
namespace Go.Proofs.YtjdjhenijihpfaaGreatDoor
open Go.RowKit
set_option linter.unusedVariables false

theorem less_total : ∀ (a b : List UInt8), Op.bytesLess a b = false → a ≠ b → Op.bytesLess b a = true
  | [], [] => by simp
  | [], _ :: _ => by simp [Op.bytesLess]
  | _ :: _, [] => by simp [Op.bytesLess]
  | a :: ar, b :: bs => by
    have ih := less_total ar bs
    by_cases h1 : a < b
    · simp [Op.bytesLess, h1]
    · by_cases h2 : b < a
      · intro _ _
        simp [Op.bytesLess, h2]
      · have he : a = b := UInt8.le_antisymm (UInt8.not_lt.mp h2) (UInt8.not_lt.mp h1)
        subst he
        intro k1 k2
        simp only [Op.bytesLess, h1] at k1 ⊢
        simp at k1 k2 ⊢
        first
          | exact ih k1 k2
          | exact Or.inr (ih k1 k2)
theorem lessB_total {a b : ByteArray} (h : lessB a b = false) (hne : a ≠ b) : lessB b a = true := by
  unfold lessB at *
  refine less_total _ _ h (fun e => hne ?_)
  rw [ByteArray.toList_eq, ByteArray.toList_eq] at e
  exact WideShapes.bytes_inj e
theorem lessB_asymm {a b : ByteArray} (h : lessB a b = true) : lessB b a = false := by
  rcases hb : lessB b a with _ | _
  · rfl
  · have := lessB_trans h hb
    rw [lessB_irrefl] at this; cases this

/-- The place of a text in a row. -/
structure AtR (l : List ByteArray) (t : ByteArray) (r : Nat) : Prop where
  le : r ≤ l.length
  lo : ∀ j, j < r → lessB (nx l j) t = true
  hi : ∀ j, r ≤ j → j < l.length → lessB (nx l j) t = false
theorem AtR.uniq {l : List ByteArray} {t : ByteArray} {r s : Nat} (h : AtR l t r) (k : AtR l t s) : r = s := by
  rcases Nat.lt_trichotomy r s with e | e | e
  · have h1 := h.hi r (Nat.le_refl _) (by have := k.le; omega)
    rw [k.lo r e] at h1; cases h1
  · exact e
  · have h1 := k.hi s (Nat.le_refl _) (by have := h.le; omega)
    rw [h.lo s e] at h1; cases h1
theorem atR_exists {l : List ByteArray} (ha : Asc l) (t : ByteArray) : ∃ r, AtR l t r := by
  have : ∀ k, k ≤ l.length → ∃ r, r ≤ k ∧ (∀ j, j < r → lessB (nx l j) t = true) ∧ (∀ j, r ≤ j → j < k → lessB (nx l j) t = false) := by
    intro k
    induction k with
    | zero => intro _; exact ⟨0, Nat.le_refl _, fun j hj => by omega, fun j _ hj => by omega⟩
    | succ k ih =>
      intro hk
      obtain ⟨r, h1, h2, h3⟩ := ih (by omega)
      by_cases hr : r = k
      · subst hr
        rcases hv : lessB (nx l r) t with _ | _
        · exact ⟨r, by omega, h2, fun j g1 g2 => by obtain rfl : j = r := by omega
                                                    exact hv⟩
        · refine ⟨r + 1, by omega, fun j hj => ?_, fun j g1 g2 => by omega⟩
          rcases Nat.lt_or_ge j r with h | h
          · exact h2 j h
          · obtain rfl : j = r := by omega
            exact hv
      · refine ⟨r, by omega, h2, fun j g1 g2 => ?_⟩
        exact hi_step ha (h3 r (Nat.le_refl _) (by omega)) j g1 (by omega)
  obtain ⟨r, h1, h2, h3⟩ := this l.length (Nat.le_refl _)
  exact ⟨r, h1, h2, h3⟩
open Classical in
noncomputable def place (l : List ByteArray) (t : ByteArray) : Nat := if h : ∃ r, AtR l t r then Classical.choose h else 0
theorem place_eq {l : List ByteArray} {t : ByteArray} {r : Nat} (h : AtR l t r) : place l t = r := by
  unfold place
  rw [dif_pos ⟨r, h⟩]
  exact (Classical.choose_spec (⟨r, h⟩ : ∃ r, AtR l t r)).uniq h
theorem At.atR {l : List ByteArray} {t : ByteArray} {r : Nat} {b : Bool} (h : At l t r b) : AtR l t r := ⟨h.le, h.lo, h.hi⟩

theorem asc_pairwise {l : List ByteArray} (h : Asc l) : l.Pairwise (fun a b => lessB a b = true) := by
  rw [List.pairwise_iff_getElem]
  intro i j hi hj hij
  have := h.pair hij hj
  simpa [nx, List.getD_eq_getElem?_getD, List.getElem?_eq_getElem hi, List.getElem?_eq_getElem hj] using this
theorem pairwise_asc {l : List ByteArray} (h : l.Pairwise (fun a b => lessB a b = true)) : Asc l := by
  rw [List.pairwise_iff_getElem] at h
  intro i h1 h2
  have := h (i - 1) i (by omega) h2 (by omega)
  simpa [nx, List.getD_eq_getElem?_getD, List.getElem?_eq_getElem h2, List.getElem?_eq_getElem (show i - 1 < l.length by omega)] using this
theorem ascS {ss : List S2} (t : ByteArray) (h : Asc (snames ss)) : Asc (snames (fltS t ss)) := by
  refine pairwise_asc ((asc_pairwise h).sublist ?_)
  exact (List.filter_sublist).map _
theorem ascT {ts : List T2} (t : ByteArray) (h : Asc (tnames ts)) : Asc (tnames (fltT t ts)) := by
  refine pairwise_asc ((asc_pairwise h).sublist ?_)
  exact (List.filter_sublist).map _
theorem fltS_ne (t : ByteArray) (ss : List S2) {i : Nat} (hi : i < (fltS t ss).length) : (sx (fltS t ss) i).name ≠ t := by
  rw [sx_get hi]
  have := (List.mem_filter.mp (List.getElem_mem hi)).2
  simpa using this
theorem fltT_ne (t : ByteArray) (ss : List T2) {i : Nat} (hi : i < (fltT t ss).length) : (tx (fltT t ss) i).name ≠ t := by
  rw [tx_get hi]
  have := (List.mem_filter.mp (List.getElem_mem hi)).2
  simpa using this

/-! ### rows of sources as lists of cells -/
def srcV (l : List S2) : List Value := l.flatMap fun s => [.string s.name, .string s.text]
theorem srcV_length (l : List S2) : (srcV l).length = l.length * 2 := by
  induction l with
  | nil => rfl
  | cons s l ih => simp [srcV] at ih ⊢; omega
theorem srcV_append (l m : List S2) : srcV (l ++ m) = srcV l ++ srcV m := by simp [srcV]
theorem srcV_one (s : S2) : srcV [s] = [.string s.name, .string s.text] := rfl
theorem srcV_take (l : List S2) (r : Nat) (h : r ≤ l.length) : srcV (l.take r) = (srcV l).take (r * 2) := by
  have e := srcV_append (l.take r) (l.drop r)
  rw [List.take_append_drop] at e
  rw [e, List.take_append_of_le_length (by rw [srcV_length, List.length_take]; omega)]
  exact (List.take_of_length_le (by rw [srcV_length, List.length_take]; omega)).symm
theorem srcV_drop (l : List S2) (r : Nat) (h : r ≤ l.length) : srcV (l.drop r) = (srcV l).drop (r * 2) := by
  have e := srcV_append (l.take r) (l.drop r)
  rw [List.take_append_drop] at e
  have hd : (srcV (l.take r)).drop (r * 2) = [] := List.drop_of_length_le (by rw [srcV_length, List.length_take]; omega)
  rw [e, List.drop_append_of_le_length (by rw [srcV_length, List.length_take]; omega), hd, List.nil_append]
theorem srcV_filled (l : List S2) : FilledS l l.length (srcV l) := by
  intro i hi
  have e : l = l.take i ++ (l[i] :: l.drop (i + 1)) := by rw [← List.drop_eq_getElem_cons hi, List.take_append_drop]
  have hl : (srcV (l.take i)).length = i * 2 := by rw [srcV_length, List.length_take]; omega
  have hs : srcV l = srcV (l.take i) ++ (.string l[i].name :: .string l[i].text :: srcV (l.drop (i + 1))) := by
    conv => lhs; rw [e]
    rw [srcV_append]; rfl
  rw [hs, List.getElem?_append_right (by omega), List.getElem?_append_right (by omega), hl, Nat.sub_self, show i * 2 + 1 - i * 2 = 1 by omega, sx_get hi]
  exact ⟨rfl, rfl⟩
theorem filled_srcV {l : List S2} {xs : List Value} (h : FilledS l l.length xs) (hl : xs.length = l.length * 2) : xs = srcV l := by
  apply List.ext_getElem?
  intro j
  have hf := srcV_filled l
  rcases Nat.lt_or_ge j (l.length * 2) with hj | hj
  · obtain ⟨a1, a2⟩ := h (j / 2) (by omega)
    obtain ⟨b1, b2⟩ := hf (j / 2) (by omega)
    rcases Nat.mod_two_eq_zero_or_one j with hm | hm
    · rw [show j = j / 2 * 2 by omega, a1, b1]
    · rw [show j = j / 2 * 2 + 1 by omega, a2, b2]
  · rw [List.getElem?_eq_none (by omega), List.getElem?_eq_none (by rw [srcV_length]; omega)]
theorem OwnS.v {w : World} {lo hi : Nat} {v : Value} {ss : List S2} (h : OwnS w lo hi v ss) : RowO w lo hi 60 2 v ss.length (srcV ss) := by
  obtain ⟨xs, h1, h2⟩ := h
  rw [← filled_srcV h2 h1.own.1]; exact h1
theorem OwnS.ofV {w : World} {lo hi : Nat} {v : Value} {ss : List S2} (h : RowO w lo hi 60 2 v ss.length (srcV ss)) : OwnS w lo hi v ss := ⟨_, h, srcV_filled ss⟩
theorem srcV_cells (l : List S2) : ∀ v ∈ srcV l, v.oneCell' = true := filledS_one (srcV_filled l) (srcV_length l)
def insS (l : List S2) (s : S2) (r : Nat) : List S2 := l.take r ++ [s] ++ l.drop r
theorem insS_length (l : List S2) (s : S2) (r : Nat) (h : r ≤ l.length) : (insS l s r).length = l.length + 1 := by simp [insS]; omega
theorem srcV_ins (l : List S2) (s : S2) (r : Nat) (h : r ≤ l.length) : srcV (insS l s r) = (srcV l).take (r * 2) ++ [.string s.name, .string s.text] ++ (srcV l).drop (r * 2) := by
  unfold insS
  rw [srcV_append, srcV_append, srcV_take l r h, srcV_drop l r h, srcV_one]

/-! ### the room -/
open Classical in
noncomputable def roomC (ss : List S2) (ts : List T2) (t : ByteArray) (ok : Bool) : Int := if chk ss ts ≠ 0 then 1 else if ¬ (NameOk t ∧ ok = true) then 2 else if 200 ≤ (fltS t ss).length + (fltT t ts).length then 3 else 0
theorem roomC1 {ss : List S2} {ts : List T2} {t : ByteArray} {ok : Bool} (h : chk ss ts ≠ 0) : roomC ss ts t ok = 1 := by unfold roomC; rw [if_pos h]
theorem roomC2 {ss : List S2} {ts : List T2} {t : ByteArray} {ok : Bool} (h : chk ss ts = 0) (h2 : ¬ (NameOk t ∧ ok = true)) : roomC ss ts t ok = 2 := by unfold roomC; rw [if_neg (fun k => k h), if_pos h2]
theorem roomC3 {ss : List S2} {ts : List T2} {t : ByteArray} {ok : Bool} (h : chk ss ts = 0) (h2 : NameOk t ∧ ok = true) (h3 : 200 ≤ (fltS t ss).length + (fltT t ts).length) : roomC ss ts t ok = 3 := by unfold roomC; rw [if_neg (fun k => k h), if_neg (fun k => k h2), if_pos h3]
theorem roomC0 {ss : List S2} {ts : List T2} {t : ByteArray} {ok : Bool} (h : chk ss ts = 0) (h2 : NameOk t ∧ ok = true) (h3 : ¬ 200 ≤ (fltS t ss).length + (fltT t ts).length) : roomC ss ts t ok = 0 := by unfold roomC; rw [if_neg (fun k => k h), if_neg (fun k => k h2), if_neg h3]
theorem roomC_zero {ss : List S2} {ts : List T2} {t : ByteArray} {ok : Bool} (h : roomC ss ts t ok = 0) : ChkOk ss ts ∧ ok = true ∧ (fltS t ss).length + (fltT t ts).length < 200 := by
  by_cases g : chk ss ts = 0
  · by_cases g2 : NameOk t ∧ ok = true
    · by_cases g3 : 200 ≤ (fltS t ss).length + (fltT t ts).length
      · rw [roomC3 g g2 g3] at h; exact absurd h (by decide)
      · exact ⟨chk_ok g, g2.2, by omega⟩
    · rw [roomC2 g g2] at h; exact absurd h (by decide)
  · rw [roomC1 g] at h; exact absurd h (by decide)
theorem OwnT.keepO {w w' : World} {lo hi e sz n B : Nat} {v u : Value} {ts : List T2} {zs : List Value} (h : OwnT w lo hi v ts) (ho : w.ownsRow B e sz u n zs) (hk : KeepO u.ownBlock w w') (h1 : 64 ≠ e) (h2 : 84 ≠ e) : OwnT w' lo hi v ts := by
  obtain ⟨xs, cv, h⟩ := h
  exact ⟨xs, cv, h.row.same fun b eb => hk b (h.row.own.lt b eb).2 (fun e' => neT h.row.own ho h1 b eb e'.symm), h.fil, fun i hi => by
    obtain ⟨ys, k1, k2⟩ := h.code i hi
    exact ⟨ys, k1.same fun b eb => hk b (k1.own.lt b eb).2 (fun e' => neT k1.own ho h2 b eb e'.symm), k2⟩, h.apart⟩
theorem OwnS.keepO {w w' : World} {lo hi e sz n B : Nat} {v u : Value} {ss : List S2} {zs : List Value} (h : OwnS w lo hi v ss) (ho : w.ownsRow B e sz u n zs) (hk : KeepO u.ownBlock w w') (h1 : 60 ≠ e) : OwnS w' lo hi v ss := by
  obtain ⟨xs, k1, k2⟩ := h
  exact ⟨xs, k1.same fun b eb => hk b (k1.own.lt b eb).2 (fun e' => neT k1.own ho h1 b eb e'.symm), k2⟩

/-! ### PutSource -/
open Classical in
noncomputable def psS (ss : List S2) (ts : List T2) (t x : ByteArray) (ok : Bool) : List S2 := if roomC ss ts t ok = 0 then insS (fltS t ss) ⟨t, x⟩ (place (snames (fltS t ss)) t) else []
open Classical in
noncomputable def psT (ss : List S2) (ts : List T2) (t : ByteArray) (ok : Bool) : List T2 := if roomC ss ts t ok = 0 then fltT t ts else []
theorem ps_no {ss : List S2} {ts : List T2} {t x : ByteArray} {ok : Bool} (h : roomC ss ts t ok ≠ 0) : psS ss ts t x ok = [] ∧ psT ss ts t ok = [] := by unfold psS psT; rw [if_neg h, if_neg h]; exact ⟨rfl, rfl⟩
theorem ps_yes {ss : List S2} {ts : List T2} {t x : ByteArray} {ok : Bool} (h : roomC ss ts t ok = 0) {r : Nat} (hr : AtR (snames (fltS t ss)) t r) : psS ss ts t x ok = insS (fltS t ss) ⟨t, x⟩ r ∧ psT ss ts t ok = fltT t ts := by unfold psS psT; rw [if_pos h, if_pos h, place_eq hr]; exact ⟨rfl, rfl⟩
theorem ps_small (ss : List S2) (ts : List T2) (t x : ByteArray) (ok : Bool) : SpSmall (psS ss ts t x ok) (psT ss ts t ok) := by
  by_cases g : roomC ss ts t ok = 0
  · obtain ⟨h, _, h3⟩ := roomC_zero g
    obtain ⟨r, hr⟩ := atR_exists (ascS t h.a1) t
    rw [(ps_yes (x := x) g hr).1, (ps_yes (x := x) g hr).2]
    have hl := insS_length (fltS t ss) ⟨t, x⟩ r (by have := hr.le; rw [snames_length] at this; exact this)
    exact ⟨by omega, by omega, fltT_mem (P := fun s => s.code.length ≤ 1048576) (fun i hi => (h.codes i hi).2)⟩
  · rw [(ps_no (x := x) g).1, (ps_no (x := x) g).2]
    exact ⟨by simp, by simp, fun i hi => by simp at hi⟩
/-- What PutSource hands out. -/
def PsOut (lo : Nat) (w : World) (e : Ending) (ss : List S2) (ts : List T2) (t x : ByteArray) (ok : Bool) : Prop := ∃ v1 v2, e = .returned (.tuple #[.agg #[v1, v2], .int .i64 (roomC ss ts t ok)]) ∧ OwnS w lo w.heap.size v1 (psS ss ts t x ok) ∧ OwnT w lo w.heap.size v2 (psT ss ts t ok)
theorem PsOut.no {lo : Nat} {w : World} {c : Int} {ss : List S2} {ts : List T2} {t x : ByteArray} {ok : Bool} (h : roomC ss ts t ok = c) (h0 : c ≠ 0) : PsOut lo w (.returned (.tuple #[.agg #[.slice none 0 0, .slice none 0 0], .int .i64 c])) ss ts t x ok := by
  have h1 : roomC ss ts t ok ≠ 0 := by rw [h]; exact h0
  refine ⟨_, _, by rw [h], ?_, ?_⟩
  · rw [(ps_no (x := x) h1).1]; exact OwnS.nil _ _ _
  · rw [(ps_no (x := x) h1).2]; exact OwnT.nil _ _ _
/-- What roomFor hands out. -/
def RoomOut (lo : Nat) (w : World) (e : Ending) (ss : List S2) (ts : List T2) (t : ByteArray) (ok : Bool) : Prop := (roomC ss ts t ok ≠ 0 ∧ e = .returned (.tuple #[.agg #[.slice none 0 0, .slice none 0 0], .int .i64 (roomC ss ts t ok)])) ∨ (roomC ss ts t ok = 0 ∧ ∃ v1 v2, e = .returned (.tuple #[.agg #[v1, v2], .int .i64 0]) ∧ OwnS w lo w.heap.size v1 (fltS t ss) ∧ OwnT w lo w.heap.size v2 (fltT t ts))

end Go.Proofs.YtjdjhenijihpfaaGreatDoor
