import Derived.Test.YtjdjhenijihpfaaGreatDoorEdA
import Derived.Laws.AppendOwnNone
namespace Go.Proofs.YtjdjhenijihpfaaGreatDoor
open Go.RowKit Go.Deep
set_option linter.unusedVariables false

theorem own_some {w : World} {B e sz n : Nat} {v : Value} {xs : List Value} (h : w.ownsRow B e sz v n xs) (hne : v ≠ .slice none 0 0) : ∃ g cp, v = .slice (some ⟨g, 0, none⟩) n cp := by
  rcases h.2 with ⟨q, _⟩ | ⟨g, cap, cur, q, _⟩
  · exact absurd q hne
  · exact ⟨g, cap, q⟩
theorem filled3_insC {is : List I3} {ys : List Value} (h : Filled3 is is.length ys) (hl : ys.length = is.length * 3) : ys = insC is := by
  refine List.ext_getElem? fun j => ?_
  rcases Nat.lt_or_ge j (is.length * 3) with q | q
  · have h1 := h (j / 3) (by omega)
    have h2 := insC_get is (j / 3) (j % 3) (by omega) (by omega)
    rw [show j / 3 * 3 + j % 3 = j by omega] at h2
    rw [h2]
    rcases (show j % 3 = 0 ∨ j % 3 = 1 ∨ j % 3 = 2 by omega) with r | r | r
    · rw [r]; rw [show j / 3 * 3 = j by omega] at h1; exact h1.1
    · rw [r]; rw [show j / 3 * 3 + 1 = j by omega] at h1; exact h1.2.1
    · rw [r]; rw [show j / 3 * 3 + 2 = j by omega] at h1; exact h1.2.2
  · rw [List.getElem?_eq_none (by omega), List.getElem?_eq_none (by rw [insC_length]; omega)]
theorem insV_eq (is : List I3) : insV is = insC is := filled3_insC (insV_filled is) (insV_length is)

set_option maxHeartbeats 1000000 in
theorem l3Program_some (b off : Nat) (cap : Nat) (is : List I3) (w : World) (hc : Row3 w (some ⟨b, off, none⟩) is) (hl : is.length ≤ 1048576) :
    Calls Tryz.prog 46 #[.agg #[.slice (some ⟨b, off, none⟩) is.length cap]] w fun e w' => Below w.heap.size w w' ∧ ∃ g cp, e = .returned (.agg #[.slice (some ⟨g, 0, none⟩) is.length cp]) ∧ w'.ownsRow w.heap.size 84 3 (.slice (some ⟨g, 0, none⟩) is.length cp) is.length (insV is) := by
  obtain ⟨i0, hi, hz0, hz1, hz2⟩ := info_parts Tryz.info165b
  have hb0 : Below w.heap.size w ((w.alloc (.cells #[.slice (some ⟨b, off, none⟩) is.length cap] 31)).alloc (.cells #[.slice none 0 0] 31)) := ((Below.refl _ _).alloc (Nat.le_refl _) _).alloc (by simp) _
  have hb1 : Below w.heap.size w (((w.alloc (.cells #[.slice (some ⟨b, off, none⟩) is.length cap] 31)).alloc (.cells #[.slice none 0 0] 31)).alloc (.cells #[] 84)) := hb0.alloc (by simp; omega) _
  have hown0 : (((w.alloc (.cells #[.slice (some ⟨b, off, none⟩) is.length cap] 31)).alloc (.cells #[.slice none 0 0] 31)).alloc (.cells #[] 84)).ownsRow (w.heap.size + 1 + 1) 84 3 (.slice (some ⟨w.heap.size + 1 + 1, 0, none⟩) 0 0) 0 [] := by
    have h := World.ownsRow_lit (base := w.heap.size + 1 + 1) (e := 84) (size := 3) ((w.alloc (.cells #[.slice (some ⟨b, off, none⟩) is.length cap] 31)).alloc (.cells #[.slice none 0 0] 31)) #[] 0 (by simp) (by unfold maxLen; omega) (by simp)
    rw [show ((w.alloc (.cells #[.slice (some ⟨b, off, none⟩) is.length cap] 31)).alloc (.cells #[.slice none 0 0] 31)).heap.size = w.heap.size + 1 + 1 from by simp] at h
    exact h
  have hn := insV_news (hc.below hb1)
  have HL : Hid ((insV is).length = is.length * 3) := insV_length is
  have HO : Hid (∀ u ∈ insV is, u.oneCell' = true) := insV_one is
  generalize insV is = xs at *
  clear hc hb0
  go_enter Tryz.func46, Tryz.ntmps46
  go_wp2_with (at_builtin; refine wpList_append_own _ rfl (.tmp 3) (.tmp 5) 29 rfl (w.heap.size + 1 + 1) 84 i0 (.agg #[.int .i64 0, .string ⟨#[]⟩, .int .i64 0]) 3 32 Tryz.underlying29 hi hz0 hz1 hz2 rfl (by decide) _ 0 [] rfl hown0 ⟨b, off, none⟩ is.length cap xs rfl HL.out hn HO.out (by unfold maxLen; omega) (by omega) (by simp) ?_; intro v' w2 hown' hgrow hnil; have hn1 : ∃ g cp, v' = .slice (some ⟨g, 0, none⟩) (0 + is.length) cp := own_some hown' (fun e => by cases (hnil.1 e).1); clear hnil; have hbB : Below (w.heap.size + 1 + 1) (((w.alloc (.cells #[.slice (some ⟨b, off, none⟩) is.length cap] 31)).alloc (.cells #[.slice none 0 0] 31)).alloc (.cells #[] 84)) w2 := (Below.refl _ _).grown hgrow (by simp) (fun k hk => (hown0.lt k hk).1); have c1 : w2.cell? ⟨w.heap.size + 1, 0, none⟩ = some (.slice none 0 0) := (by rw [hbB.cell (p := ⟨w.heap.size + 1, 0, none⟩) (by simp)]; simp [go_sem]); have f1 : w2.frozen? ⟨w.heap.size + 1, 0, none⟩ = false := (by rw [hbB.frozen (p := ⟨w.heap.size + 1, 0, none⟩) (by simp)]; simp [go_sem]); have hB : Below w.heap.size w w2 := hb1.trans (hbB.mono (by omega)); rw [Nat.zero_add, List.nil_append] at hown'; rw [Nat.zero_add] at hn1; obtain ⟨g, cp, rfl⟩ := hn1; have hg := (hown'.lt g rfl).1; have HOW : Hid (w2.ownsRow w.heap.size 84 3 (.slice (some ⟨g, 0, none⟩) is.length cp) is.length xs) := own_base hown' (by omega); clear hgrow hown0 hn hbB hown' hb1)
  exact bodyPost_ret (v := .agg #[.slice (some ⟨g, 0, none⟩) is.length cp]) (by simp [results, Tryz.results46, go_sem, c1]) rfl ⟨hB.setCell (p := ⟨w.heap.size + 1, 0, none⟩) (by simp) _, g, cp, rfl, own_set HOW.out (by omega) _⟩

set_option maxHeartbeats 1000000 in
theorem l3Program_none (w : World) :
    Calls Tryz.prog 46 #[.agg #[.slice none 0 0]] w fun e w' => Below w.heap.size w w' ∧ ∃ g cp, e = .returned (.agg #[.slice (some ⟨g, 0, none⟩) 0 cp]) ∧ w'.ownsRow w.heap.size 84 3 (.slice (some ⟨g, 0, none⟩) 0 cp) 0 [] := by
  obtain ⟨i0, hi, hz0, hz1, hz2⟩ := info_parts Tryz.info165b
  have hb0 : Below w.heap.size w ((w.alloc (.cells #[.slice none 0 0] 31)).alloc (.cells #[.slice none 0 0] 31)) := ((Below.refl _ _).alloc (Nat.le_refl _) _).alloc (by simp) _
  have hb1 : Below w.heap.size w (((w.alloc (.cells #[.slice none 0 0] 31)).alloc (.cells #[.slice none 0 0] 31)).alloc (.cells #[] 84)) := hb0.alloc (by simp; omega) _
  have hown0 : (((w.alloc (.cells #[.slice none 0 0] 31)).alloc (.cells #[.slice none 0 0] 31)).alloc (.cells #[] 84)).ownsRow (w.heap.size + 1 + 1) 84 3 (.slice (some ⟨w.heap.size + 1 + 1, 0, none⟩) 0 0) 0 [] := by
    have h := World.ownsRow_lit (base := w.heap.size + 1 + 1) (e := 84) (size := 3) ((w.alloc (.cells #[.slice none 0 0] 31)).alloc (.cells #[.slice none 0 0] 31)) #[] 0 (by simp) (by unfold maxLen; omega) (by simp)
    rw [show ((w.alloc (.cells #[.slice none 0 0] 31)).alloc (.cells #[.slice none 0 0] 31)).heap.size = w.heap.size + 1 + 1 from by simp] at h
    exact h
  clear hb0
  go_enter Tryz.func46, Tryz.ntmps46
  go_wp2_with (at_builtin; refine wpList_append_own_none rfl (.tmp 3) (.tmp 5) 29 rfl (w.heap.size + 1 + 1) 84 i0 3 Tryz.underlying29 hi _ 0 [] rfl hown0 rfl ?_)
  have h2 := World.ownsRow_lit (base := w.heap.size + 1 + 1) (e := 84) (size := 3) ((w.alloc (.cells #[.slice none 0 0] 31)).alloc (.cells #[.slice (some ⟨w.heap.size + 1 + 1, 0, none⟩) 0 0] 31)) #[] 0 (by simp) (by unfold maxLen; omega) (by simp)
  rw [show ((w.alloc (.cells #[.slice none 0 0] 31)).alloc (.cells #[.slice (some ⟨w.heap.size + 1 + 1, 0, none⟩) 0 0] 31)).heap.size = w.heap.size + 1 + 1 from by simp] at h2
  exact bodyPost_ret (v := .agg #[.slice (some ⟨w.heap.size + 1 + 1, 0, none⟩) 0 0]) (by simp [results, Tryz.results46, go_sem]) rfl ⟨(((Below.refl _ _).alloc (Nat.le_refl _) _).alloc (by simp) _).alloc (by simp; omega) _, _, _, rfl, own_base h2 (by omega)⟩
/-- l3Program of a code of our own. -/
theorem l3Program_all {w : World} {B : Nat} {c : Value} {is : List I3} (h : w.ownsRow B 84 3 c is.length (insC is)) (hl : is.length ≤ 1048576) : ∃ a cap, c = .slice a is.length cap ∧ ∀ W : World, Below w.heap.size w W → CopyP a cap is W := by
  obtain ⟨a, cap, rfl, r3⟩ := row3_ownD rfl h
  refine ⟨a, cap, rfl, fun W hW => ?_⟩
  rcases h.2 with ⟨q, q'⟩ | ⟨g, cap', cur, q, _⟩
  · obtain rfl : is = [] := List.eq_nil_of_length_eq_zero q'
    cases q
    unfold CopyP
    refine (l3Program_none W).mono ?_
    rintro e w' ⟨h1, g, cp, rfl, h2⟩
    exact ⟨h1, g, cp, rfl, h2⟩
  · cases q
    exact l3Program_some g 0 _ is W (r3.below hW) hl
theorem Dw.rowC {w : World} {lo : Nat} {v1 v2 : Value} {l1 : List S2} {l2 : List TC} (h : Dw w lo v1 v2 l1 l2) (hb : BdS l1 l2) : ∃ sa c1 ta c2, v1 = .slice sa l1.length c1 ∧ v2 = .slice ta (l2.map (·.t)).length c2 ∧ RowS w sa l1 ∧ RowC w ta (l2.map (·.t)) := by
  obtain ⟨sa, c1, ta, c2, e1, e2, r1, _⟩ := h.rows
  refine ⟨sa, c1, ta, c2, e1, by rw [List.length_map]; exact e2, r1, fun i hi => ?_⟩
  rw [List.length_map] at hi
  obtain ⟨g, cap, e, _, q1, q2, _⟩ := h.tc i hi
  rw [e2] at e
  cases e
  obtain ⟨a', cap', e3, r3⟩ := l3Program_all (h.c _ (cx_mem hi)) (by have := (hb.t _ (cx_mem hi)).2.1; omega)
  rw [tx_map l2 i hi]
  exact ⟨g, 0, rfl, by rw [Nat.zero_add]; exact q1, a', cap', by rw [Nat.zero_add, q2, e3], r3⟩
/-- Owned rows are a drawn space's. -/
theorem Dw.of_own {w : World} {lo hi : Nat} {v1 v2 : Value} {ss : List S2} {ts : List T2} (h1 : OwnS w lo hi v1 ss) (h2 : OwnT w lo hi v2 ts) : ∃ l2 : List TC, l2.map (·.t) = ts ∧ Dw w lo v1 v2 ss l2 := by
  obtain ⟨l, e, h3, h4⟩ := h2.toC
  have hl : ts.length = l.length := by rw [← e, List.length_map]
  refine ⟨l, e, ⟨h1.v.own, by have := h3.own; rw [hl] at this; exact this, fun a ha => ?_⟩⟩
  obtain ⟨ys, h5, h6⟩ := h4.code a ha
  rw [← filled3_insC h6 h5.own.1]
  exact h5.own
theorem fltS_sub (t : ByteArray) (ss : List S2) : ∀ x ∈ fltS t ss, x ∈ ss := fun x hx => (List.mem_filter.1 hx).1
theorem fltT_sub (t : ByteArray) (ss : List T2) : ∀ x ∈ fltT t ss, x ∈ ss := fun x hx => (List.mem_filter.1 hx).1
/-- l3Without of a drawn space. -/
theorem l3Without_dw {w : World} {lo : Nat} {v1 v2 : Value} {l1 : List S2} {l2 : List TC} (t : ByteArray) (h : Dw w lo v1 v2 l1 l2) (hb : BdS l1 l2) :
    Calls Tryz.prog 30 #[.agg #[v1, v2], .string t] w fun e w' => Below w.heap.size w w' ∧ ∃ u1 u2 m1 m2, e = .returned (.agg #[u1, u2]) ∧ Dw w' w.heap.size u1 u2 m1 m2 ∧ BdS m1 m2 ∧ m1.length ≤ l1.length ∧ m2.length ≤ l2.length ∧ ∀ x ∈ m2, ∃ y ∈ l2, y.t = x.t := by
  obtain ⟨sa, c1, ta, c2, e1, e2, r1, r2⟩ := h.rowC hb
  have n1 := hb.n1
  have n2 : (l2.map (·.t)).length ≤ 202 := by rw [List.length_map]; exact hb.n2
  obtain ⟨ts, ets⟩ : ∃ ts, l2.map (·.t) = ts := ⟨_, rfl⟩
  rw [ets] at e2 r2 n2
  rw [e1, e2]
  refine (l3Without_gen sa ta c1 c2 l1 ts t w r1 r2 (by omega) (by omega)).mono ?_
  rintro e w' ⟨hbl, u1, u2, rfl, o1, o2⟩
  obtain ⟨m2, em, hd⟩ := Dw.of_own o1 o2
  have hsub : ∀ x ∈ m2, ∃ y ∈ l2, y.t = x.t := fun x hx => by
    have h1 : x.t ∈ m2.map (·.t) := List.mem_map.2 ⟨x, hx, rfl⟩
    rw [em] at h1
    have h2 := fltT_sub _ _ _ h1
    rw [← ets] at h2
    obtain ⟨y, hy, e⟩ := List.mem_map.1 h2
    exact ⟨y, hy, e⟩
  have h4 := fltS_len t l1
  have h5 := fltT_len t ts
  have h6 : ts.length = l2.length := by rw [← ets, List.length_map]
  rw [← em, List.length_map] at h5
  refine ⟨hbl, u1, u2, _, m2, rfl, hd, ⟨by omega, by omega, fun x hx => hb.s x (fltS_sub _ _ x hx), fun x hx => ?_⟩, h4, by omega, hsub⟩
  obtain ⟨y, hy, e⟩ := hsub x hx
  rw [← e]
  exact hb.t y hy
end Go.Proofs.YtjdjhenijihpfaaGreatDoor
