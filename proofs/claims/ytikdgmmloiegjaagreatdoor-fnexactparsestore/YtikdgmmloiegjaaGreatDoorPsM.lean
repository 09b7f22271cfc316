import Derived.Test.YtikdgmmloiegjaaGreatDoorPsJ
namespace Go.Proofs.YtikdgmmloiegjaaGreatDoor
open Go.RowKit
set_option linter.unusedVariables false

theorem flat3_get {α : Type} (f : α → List Value) (hf : ∀ x, (f x).length = 3) (d : α) : ∀ (l : List α) (i j : Nat), i < l.length → j < 3 → (l.flatMap f)[i * 3 + j]? = (f (l.getD i d))[j]?
  | [], i, j, h, _ => by simp at h
  | x :: l, 0, j, _, hj => by
    rw [List.flatMap_cons, Nat.zero_mul, Nat.zero_add, List.getElem?_append_left (by rw [hf]; exact hj)]
    rfl
  | x :: l, i + 1, j, h, hj => by
    rw [List.flatMap_cons, List.getElem?_append_right (by rw [hf]; omega), hf, show (i + 1) * 3 + j - 3 = i * 3 + j from by omega, flat3_get f hf d l i j (by simpa using h) hj]
    rfl
theorem sl_of {w : World} {B e sz n : Nat} {v : Value} {xs : List Value} (h : w.ownsRow B e sz v n xs) : (n = 0 ∧ v = .slice none 0 0) ∨ ∃ g cap, v = .slice (some ⟨g, 0, none⟩) n cap ∧ w.ownsRow B e sz (.slice (some ⟨g, 0, none⟩) n cap) n xs := by
  rcases h.2 with ⟨h1, h2⟩ | ⟨g, cap, cur, hv, _⟩
  · exact Or.inl ⟨h2, h1⟩
  · exact Or.inr ⟨g, cap, hv, hv ▸ h⟩
theorem row3P {w : World} {B : Nat} {v : Value} {is : List I3} (h : w.ownsRow B 56 3 v is.length (insC is)) : ∃ a cap, v = .slice a is.length cap ∧ Row3 w a is := by
  rcases sl_of h with ⟨h0, rfl⟩ | ⟨g, cap, rfl, h'⟩
  · exact ⟨none, 0, by rw [h0], fun i hi => by omega⟩
  · refine ⟨_, cap, rfl, fun i hi => ?_⟩
    have e : ∀ j, j < 3 → w.cell? ⟨g, i * 3 + j, none⟩ = (insC1 (ix is i))[j]? := fun j hj => by
      rw [h'.cellAt _ (by omega), insC_get is i j hi hj]
    refine ⟨g, 0, rfl, ?_, ?_, ?_⟩
    · rw [Nat.zero_add]; exact e 0 (by omega)
    · rw [Nat.zero_add]; exact e 1 (by omega)
    · rw [Nat.zero_add]; exact e 2 (by omega)
theorem rowGP {w : World} {B : Nat} {v : Value} {is : List G3} (h : w.ownsRow B 60 3 v is.length (gloC is)) : ∃ a cap, v = .slice a is.length cap ∧ RowG w a is := by
  rcases sl_of h with ⟨h0, rfl⟩ | ⟨g, cap, rfl, h'⟩
  · exact ⟨none, 0, by rw [h0], fun i hi => by omega⟩
  · refine ⟨_, cap, rfl, fun i hi => ?_⟩
    have e : ∀ j, j < 3 → w.cell? ⟨g, i * 3 + j, none⟩ = (gloC1 (gx is i))[j]? := fun j hj => by
      rw [h'.cellAt _ (by omega)]; exact flat3_get gloC1 (fun _ => rfl) g00 is i j hi hj
    refine ⟨g, 0, rfl, ?_, ?_, ?_⟩
    · rw [Nat.zero_add]; exact e 0 (by omega)
    · rw [Nat.zero_add]; exact e 1 (by omega)
    · rw [Nat.zero_add]; exact e 2 (by omega)
theorem strsP {w : World} {B : Nat} {v : Value} {ts : List ByteArray} (h : w.ownsRow B 9 1 v ts.length (ts.map Value.string)) : ∃ a cap, v = .slice a ts.length cap ∧ Strs w a ts := by
  rcases sl_of h with ⟨h0, rfl⟩ | ⟨g, cap, rfl, h'⟩
  · exact ⟨none, 0, by rw [h0], fun i hi => by omega⟩
  · refine ⟨_, cap, rfl, fun i hi => ⟨g, 0, rfl, ?_⟩⟩
    rw [Nat.zero_add, h'.cellAt _ (by omega), List.getElem?_map, List.getElem?_eq_getElem hi, List.getD_eq_getElem?_getD, List.getElem?_eq_getElem hi]
    rfl
theorem qx_mem {rs : List T3} (i : Nat) : qx rs i ∈ rs ∨ qx rs i = q00 := by
  unfold qx
  rw [List.getD_eq_getElem?_getD]
  rcases Nat.lt_or_ge i rs.length with h | h
  · left; rw [List.getElem?_eq_getElem h]; exact List.getElem_mem h
  · right; rw [List.getElem?_eq_none h]; rfl
theorem ix_mem {is : List I3} (i : Nat) : ix is i ∈ is ∨ (ix is i).text.size = 0 := by
  unfold ix
  rw [List.getD_eq_getElem?_getD]
  rcases Nat.lt_or_ge i is.length with h | h
  · left; rw [List.getElem?_eq_getElem h]; exact List.getElem_mem h
  · right; rw [List.getElem?_eq_none h]; rfl
theorem gx_mem {is : List G3} (i : Nat) : gx is i ∈ is ∨ gx is i = g00 := by
  unfold gx
  rw [List.getD_eq_getElem?_getD]
  rcases Nat.lt_or_ge i is.length with h | h
  · left; rw [List.getElem?_eq_getElem h]; exact List.getElem_mem h
  · right; rw [List.getElem?_eq_none h]; rfl
theorem smQ {s : Sta} (h : Small 200000 s) (i : Nat) : SmR 200000 (qx s.rs i) := by
  rcases qx_mem (rs := s.rs) i with q | q
  · exact h.rr _ q
  · rw [q]; exact ⟨by simp [q00], by simp [q00], by simp [q00], fun j hj => by simp [q00] at hj, fun j hj => by simp [q00] at hj⟩
theorem ml {n : Nat} (h : n ≤ 200000) : n ≤ maxLen := by unfold maxLen; omega
theorem stInP : StInP := by
  intro F s tv qv pv es w h hS
  obtain ⟨ta, tc, rfl, hst⟩ := strsP h.txt
  have hel : es.length = s.rs.length := by rw [← h.er, List.length_map]
  have hrow : ∃ a cap, qv = .slice a s.rs.length cap ∧ RowQ w a s.rs := by
    rcases sl_of h.row with ⟨h0, rfl⟩ | ⟨g, cap, rfl, h'⟩
    · exact ⟨none, 0, by rw [← hel, h0], fun i hi => by omega⟩
    · refine ⟨_, cap, by rw [hel], fun i hi => ?_⟩
      have hi' : i < es.length := by omega
      have e : ∀ j, j < 3 → w.cell? ⟨g, i * 3 + j, none⟩ = (entC es[i])[j]? := fun j hj => by
        rw [h'.cellAt _ (by omega), flat3_get entC (fun _ => rfl) es[i] es i j hi' hj, List.getD_eq_getElem?_getD, List.getElem?_eq_getElem hi']; rfl
      have hq : qx s.rs i = es[i].2.2 := by
        unfold qx
        rw [← h.er, List.getD_eq_getElem?_getD, List.getElem?_map, List.getElem?_eq_getElem hi']; rfl
      have hm : es[i] ∈ es ++ [] := by simp
      obtain ⟨ca, cc, hc, hrc⟩ := row3P (h.cod _ hm)
      obtain ⟨la, lc, hl, hrl⟩ := rowGP (h.loo _ hm)
      have e0 := e 0 (by omega)
      have e1 := e 1 (by omega)
      have e2 := e 2 (by omega)
      refine ⟨g, 0, rfl, ca, cc, la, lc, ?_, ?_, ?_, ?_, ?_⟩
      · rw [Nat.zero_add, hq, ← hc]; exact e0
      · rw [Nat.zero_add, hq, ← hl]; exact e1
      · rw [Nat.zero_add, hq]; exact e2
      · rw [hq]; exact hrc
      · rw [hq]; exact hrl
  obtain ⟨ra, rc, rfl, hrq⟩ := hrow
  refine ⟨ta, tc, ra, rc, rfl, rfl, hst, by have := hS.ts; omega, fun i => ?_, hrq, ⟨ml hS.rs, fun i => ml (smQ hS i).1, fun i => ml (smQ hS i).2.1, fun i j => ?_, fun i j => ?_, fun i j => ?_, fun i => ml (smQ hS i).2.2.1⟩, by have := hS.rs; omega, fun i _ => ⟨by have := (smQ hS i).1; omega, by have := (smQ hS i).2.1; omega⟩⟩
  · unfold nx
    rw [List.getD_eq_getElem?_getD]
    rcases Nat.lt_or_ge i s.ts.length with q | q
    · rw [List.getElem?_eq_getElem q]; exact ml (hS.xs _ (List.getElem_mem q))
    · rw [List.getElem?_eq_none q]; exact Nat.zero_le _
  · rcases ix_mem (is := (qx s.rs i).code) j with q | q
    · exact ml ((smQ hS i).2.2.2.1 _ q)
    · rw [q]; exact Nat.zero_le _
  · rcases gx_mem (is := (qx s.rs i).looks) j with q | q
    · exact ml ((smQ hS i).2.2.2.2 _ q).1
    · rw [q]; exact Nat.zero_le _
  · rcases gx_mem (is := (qx s.rs i).looks) j with q | q
    · exact ml ((smQ hS i).2.2.2.2 _ q).2
    · rw [q]; exact Nat.zero_le _

end Go.Proofs.YtikdgmmloiegjaaGreatDoor
namespace Go.Proofs.YtikdgmmloiegjaaGreatDoor
open Go.RowKit
set_option linter.unusedVariables false
set_option maxRecDepth 100000 in
set_option maxHeartbeats 1000000 in
theorem l7Begins_any (x h : ByteArray) (w : World) (hx : x.size ≤ 1048576) (hh : h.size ≤ 100) : Calls Tryz.prog 21 #[.string x, .string h] w fun e w' => e = .returned (.bool (begins h.data.toList x.data.toList)) ∧ w = w' := by
  by_cases hl : h.size ≤ x.size
  · have d1 : decide ((h.size : Int) ≤ (x.size : Int)) = true := by simp; omega
    have HB : Hid (begins h.data.toList x.data.toList = ((x.extract 0 h.size).toList == h.toList)) := by
      show _ = _
      unfold begins
      rw [toList_len, toList_len, ByteArray.toList_eq, ByteArray.toList_eq, ext_list, List.drop_zero]
      simp only [hl, decide_true, Bool.true_and]
      rw [Bool.eq_iff_iff]; simp
    go_enter Tryz.func21, Tryz.ntmps21
    go_wp2_with fail
    go_ret
    exact ⟨by rw [HB.out]; rfl, rfl⟩
  · have d1 : decide ((h.size : Int) ≤ (x.size : Int)) = false := by simp; omega
    have HB : Hid (begins h.data.toList x.data.toList = false) := by
      show _ = _
      unfold begins
      rw [toList_len, toList_len]
      simp [hl]
    go_enter Tryz.func21, Tryz.ntmps21
    go_wp2_with fail
    go_ret
    exact ⟨by rw [HB.out]; rfl, rfl⟩

end Go.Proofs.YtikdgmmloiegjaaGreatDoor
