import Derived.Test.YtllhbgmadiclcaaGreatDoorNmE
import Derived.Test.YtllhbgmadiclcaaGreatDoorCpA
namespace Go.Proofs.YtllhbgmadiclcaaGreatDoor
open Go.RowKit
set_option linter.unusedVariables false

theorem toList_inj {s t : ByteArray} (h : s.toList = t.toList) : s = t := by
  rw [ByteArray.toList_eq, ByteArray.toList_eq] at h
  exact ByteArray.ext (Array.ext' h)
theorem neq148 (a1 b1 a2 b2 : Int) (s1 s2 : ByteArray) (w : World) : ∃ v, (binOp .neq 98 (.agg #[.int .i64 a1, .string s1, .int .i64 b1]) (.agg #[.int .i64 a2, .string s2, .int .i64 b2])).run Tryz.prog w = .ok (.bool v) w ∧ (v = true ↔ ¬ (a1 = a2 ∧ s1 = s2 ∧ b1 = b2)) := by
  by_cases e1 : a1 = a2
  · by_cases e2 : s1 = s2
    · by_cases e3 : b1 = b2
      · exact ⟨false, by simp [go_sem, Tryz.underlying98, e1, e2, e3], by simp [e1, e2, e3]⟩
      · exact ⟨true, by simp [go_sem, Tryz.underlying98, e1, e2, e3], by simp [e3]⟩
    · have e2' : ¬ s1.toList = s2.toList := fun h => e2 (toList_inj h)
      exact ⟨true, by simp [go_sem, Tryz.underlying98, e1, e2'], by simp [e2]⟩
  · exact ⟨true, by simp [go_sem, Tryz.underlying98, e1], by simp [e1]⟩
theorem neqI {x y : Cel3} (hx : okI x) (hy : okI y) : ∃ v, (∀ w : World, (binOp .neq 98 (.agg #[x.1, x.2.1, x.2.2]) (.agg #[y.1, y.2.1, y.2.2])).run Tryz.prog w = .ok (.bool v) w) ∧ (v = true ↔ x ≠ y) := by
  obtain ⟨a1, s1, b1, rfl, _⟩ := hx
  obtain ⟨a2, s2, b2, rfl, _⟩ := hy
  by_cases h : a1 = a2 ∧ s1 = s2 ∧ b1 = b2
  · refine ⟨false, fun w => ?_, ?_⟩
    · obtain ⟨v, e, h2⟩ := neq148 a1 b1 a2 b2 s1 s2 w
      rw [e]
      cases v
      · rfl
      · exact absurd h (h2.1 rfl)
    · obtain ⟨rfl, rfl, rfl⟩ := h
      simp
  · refine ⟨true, fun w => ?_, ?_⟩
    · obtain ⟨v, e, h2⟩ := neq148 a1 b1 a2 b2 s1 s2 w
      rw [e]
      cases v
      · exact absurd (h2.2 h) (by simp)
      · rfl
    · simp only [true_iff]
      intro e
      simp only [Prod.mk.injEq, Value.int.injEq, Value.string.injEq, true_and] at e
      exact h ⟨e.1, e.2.1, e.2.2⟩
end Go.Proofs.YtllhbgmadiclcaaGreatDoor
namespace Go.Proofs.YtllhbgmadiclcaaGreatDoor
open Go.RowKit
set_option linter.unusedVariables false

theorem hid {P : Prop} (h : P) : Hid P := h
theorem ix_ext {is js : List I3} (hl : is.length = js.length) (h : ∀ j, j < is.length → ix is j = ix js j) : is = js := by
  apply List.ext_getElem hl
  intro i h1 h2
  have := h i h1
  unfold ix at this
  rwa [List.getD_eq_getElem?_getD, List.getElem?_eq_getElem h1, List.getD_eq_getElem?_getD, List.getElem?_eq_getElem h2] at this
theorem gx_ext {is js : List G3} (hl : is.length = js.length) (h : ∀ j, j < is.length → gx is j = gx js j) : is = js := by
  apply List.ext_getElem hl
  intro i h1 h2
  have := h i h1
  unfold gx at this
  rwa [List.getD_eq_getElem?_getD, List.getElem?_eq_getElem h1, List.getD_eq_getElem?_getD, List.getElem?_eq_getElem h2] at this

set_option maxRecDepth 100000 in
set_option maxHeartbeats 4000000 in
theorem l5Same_any (a a' : Option Addr) (ic jc : Nat) (is js : List I3) (w : World) (hc : Row3 w a is) (hc' : Row3 w a' js) (hl : is.length ≤ 1048576) (hl' : js.length ≤ 1048576) :
    Calls Tryz.prog 38 #[.agg #[.slice a is.length ic], .agg #[.slice a' js.length jc]] w fun e w' => Below w.heap.size w w' ∧ ∃ b, e = .returned (.bool b) ∧ (b = true ↔ is = js) := by
  obtain ⟨W, eW⟩ : ∃ W, (w.alloc (.cells #[.slice a is.length ic] 47)).alloc (.cells #[.slice a' js.length jc] 47) = W := ⟨_, rfl⟩
  have hbW : Below w.heap.size w W := eW ▸ ((Below.refl _ _).alloc (Nat.le_refl _) _).alloc (by simp) _
  have c1 : W.cell? ⟨w.heap.size, 0, none⟩ = some (.slice a is.length ic) := by rw [← eW]; simp [go_sem]
  have c2 : W.cell? ⟨w.heap.size + 1, 0, none⟩ = some (.slice a' js.length jc) := by rw [← eW]; simp [go_sem]
  by_cases hn : is.length = js.length
  · obtain ⟨n, HLA⟩ : ∃ n, Hid (is.length = n) := ⟨_, rfl⟩
    have HLB : Hid (js.length = n) := hn.symm.trans HLA.out
    rw [HLA.out] at c1 hl eW ⊢
    rw [HLB.out] at c2 hl' eW ⊢
    clear hn
    have hnn : ((n : Int) != (n : Int)) = false := by simp
    go_enter Tryz.func38, Tryz.ntmps38
    go_wp2
    clear eW
    go_loopw [5] (fun i wr => ∃ k : Nat, k ≤ n ∧ i = .int .i64 k ∧ Hid (∀ j, j < k → ix is j = ix js j) ∧ wr.cell? ⟨w.heap.size, 0, none⟩ = some (.slice a n ic) ∧ wr.cell? ⟨w.heap.size + 1, 0, none⟩ = some (.slice a' n jc) ∧ Below w.heap.size w wr) (fun i _ => n - (intOf i).toNat)
    case atStart => exact ⟨0, Nat.zero_le _, rfl, (fun j hj => by omega), c1, c2, hbW⟩
    case round =>
      clear c1 c2 hbW
      obtain ⟨k, hk, rfl, HN, c1, c2, hB⟩ := hrel
      by_cases hlt : k < n
      · obtain ⟨b, off, rfl, e1, e2, e3⟩ := (hc.below hB) k (by have := HLA.out; omega)
        obtain ⟨b', off', rfl, f1, f2, f3⟩ := (hc'.below hB) k (by have := HLB.out; omega)
        have hkI : (k : Int) < (n : Int) := by omega
        have hk0 : (0 : Int) ≤ (k : Int) := by omega
        have HNE0 : Hid (ix is k ≠ ix js k → (false = true ↔ is = js)) := fun hne => ⟨fun h => (by cases h), fun e => absurd (by rw [e]) hne⟩
        have HN0 : Hid (ix is k = ix js k → ∀ j, j < k + 1 → ix is j = ix js j) := fun he j hj => by
          rcases Nat.lt_or_ge j k with q | q
          · exact HN.out j q
          · obtain rfl : j = k := by omega
            exact he
        generalize ix is k = x at *
        generalize ix js k = y at *
        obtain ⟨x0, x1, x2⟩ := x
        obtain ⟨y0, y1, y2⟩ := y
        dsimp only at e1 e2 e3 f1 f2 f3
        by_cases h0 : x0 = y0
        · subst h0
          by_cases h1 : x1 = y1
          · subst h1
            by_cases h2 : x2 = y2
            · subst h2
              have HN2 := hid (HN0.out rfl)
              clear HN0 HNE0 HN
              go_wp2_with fail
              go_region_held3 (fun w' => w'.cell? ⟨w.heap.size, 0, none⟩ = some (.slice (some ⟨b, off, none⟩) n ic) ∧ w'.cell? ⟨w.heap.size + 1, 0, none⟩ = some (.slice (some ⟨b', off', none⟩) n jc) ∧ w'.cell? ⟨b, off + k * 3, none⟩ = some (.int .i64 x0) ∧ w'.cell? ⟨b, off + k * 3 + 1, none⟩ = some (.string x1) ∧ w'.cell? ⟨b, off + k * 3 + 2, none⟩ = some (.int .i64 x2) ∧ w'.cell? ⟨b', off' + k * 3, none⟩ = some (.int .i64 x0) ∧ w'.cell? ⟨b', off' + k * 3 + 1, none⟩ = some (.string x1) ∧ w'.cell? ⟨b', off' + k * 3 + 2, none⟩ = some (.int .i64 x2))
                (first | assumption | (simp [*]; done)) (fail)
              all_goals
                go_wp2
                exact ⟨⟨k + 1, by omega, by go_num, HN2.out, c1, c2, hB.drew⟩, by simp [intOf]; omega⟩
            · have hq := h2
              have dd : ¬ (x2 = y2) := hq
              have HNE := hid (HNE0.out (fun e => hq (by injection e)))
              clear HN0 HNE0 HN hq h2
              go_wp2_with fail
              go_region_held3 (fun w' => w'.cell? ⟨w.heap.size, 0, none⟩ = some (.slice (some ⟨b, off, none⟩) n ic) ∧ w'.cell? ⟨w.heap.size + 1, 0, none⟩ = some (.slice (some ⟨b', off', none⟩) n jc) ∧ w'.cell? ⟨b, off + k * 3, none⟩ = some (.int .i64 x0) ∧ w'.cell? ⟨b, off + k * 3 + 1, none⟩ = some (.string x1) ∧ w'.cell? ⟨b, off + k * 3 + 2, none⟩ = some (.int .i64 x2) ∧ w'.cell? ⟨b', off' + k * 3, none⟩ = some (.int .i64 x0) ∧ w'.cell? ⟨b', off' + k * 3 + 1, none⟩ = some (.string x1) ∧ w'.cell? ⟨b', off' + k * 3 + 2, none⟩ = some (.int .i64 y2))
                (first | assumption | (simp [*]; done)) (fail)
              all_goals
                go_wp2
                go_ret
                exact ⟨hB.drew, false, rfl, HNE.out⟩
          · have hq := h1
            have dd : ¬ (x1.toList = y1.toList) := fun e => hq (toList_inj e)
            have HNE := hid (HNE0.out (fun e => hq (by injection e)))
            clear HN0 HNE0 HN hq h1
            go_wp2_with fail
            go_region_held3 (fun w' => w'.cell? ⟨w.heap.size, 0, none⟩ = some (.slice (some ⟨b, off, none⟩) n ic) ∧ w'.cell? ⟨w.heap.size + 1, 0, none⟩ = some (.slice (some ⟨b', off', none⟩) n jc) ∧ w'.cell? ⟨b, off + k * 3, none⟩ = some (.int .i64 x0) ∧ w'.cell? ⟨b, off + k * 3 + 1, none⟩ = some (.string x1) ∧ w'.cell? ⟨b, off + k * 3 + 2, none⟩ = some (.int .i64 x2) ∧ w'.cell? ⟨b', off' + k * 3, none⟩ = some (.int .i64 x0) ∧ w'.cell? ⟨b', off' + k * 3 + 1, none⟩ = some (.string y1) ∧ w'.cell? ⟨b', off' + k * 3 + 2, none⟩ = some (.int .i64 y2))
              (first | assumption | (simp [*]; done)) (fail)
            all_goals
              go_wp2
              go_ret
              exact ⟨hB.drew, false, rfl, HNE.out⟩
        · have hq := h0
          have dd : ¬ (x0 = y0) := hq
          have HNE := hid (HNE0.out (fun e => hq (by injection e)))
          clear HN0 HNE0 HN hq h0
          go_wp2_with fail
          go_region_held3 (fun w' => w'.cell? ⟨w.heap.size, 0, none⟩ = some (.slice (some ⟨b, off, none⟩) n ic) ∧ w'.cell? ⟨w.heap.size + 1, 0, none⟩ = some (.slice (some ⟨b', off', none⟩) n jc) ∧ w'.cell? ⟨b, off + k * 3, none⟩ = some (.int .i64 x0) ∧ w'.cell? ⟨b, off + k * 3 + 1, none⟩ = some (.string x1) ∧ w'.cell? ⟨b, off + k * 3 + 2, none⟩ = some (.int .i64 x2) ∧ w'.cell? ⟨b', off' + k * 3, none⟩ = some (.int .i64 y0) ∧ w'.cell? ⟨b', off' + k * 3 + 1, none⟩ = some (.string y1) ∧ w'.cell? ⟨b', off' + k * 3 + 2, none⟩ = some (.int .i64 y2))
            (first | assumption | (simp [*]; done)) (fail)
          all_goals
            go_wp2
            go_ret
            exact ⟨hB.drew, false, rfl, HNE.out⟩
      · have ek : k = n := by omega
        subst ek
        have HEQ := hid (show is = js from ix_ext (HLA.out.trans HLB.out.symm) (fun j hj => HN.out j (by have := HLA.out; omega)))
        clear HN
        go_wp2
        go_ret
        exact ⟨hB, true, rfl, by simp only [true_iff]; exact HEQ.out⟩
  · have hnn : ((is.length : Int) != (js.length : Int)) = true := by simp; omega
    have hni : ¬ ((is.length : Int) = (js.length : Int)) := by omega
    have HNE : Hid (false = true ↔ is = js) := ⟨fun h => (by cases h), fun e => absurd (by rw [e]) hn⟩
    go_enter Tryz.func38, Tryz.ntmps38
    go_wp2
    go_ret
    exact ⟨hbW, false, rfl, HNE.out⟩

set_option maxRecDepth 100000 in
set_option maxHeartbeats 8000000 in
theorem l6Same_any (p p' a a' : Option Addr) (pc pc' lc mc : Nat) (r q : T3) (w : World) (hp : Row3 w p r.code) (hp' : Row3 w p' q.code) (hc : RowG w a r.looks) (hc' : RowG w a' q.looks) (h1 : r.code.length ≤ 1048576) (h2 : q.code.length ≤ 1048576) (hl : r.looks.length ≤ 1048576) (hl' : q.looks.length ≤ 1048576) :
    Calls Tryz.prog 18 #[.agg #[.slice p r.code.length pc, .slice a r.looks.length lc, .string r.out], .agg #[.slice p' q.code.length pc', .slice a' q.looks.length mc, .string q.out]] w fun e w' => Below w.heap.size w w' ∧ ∃ b, e = .returned (.bool b) ∧ (b = true ↔ r = q) := by
  obtain ⟨is, ls, o1⟩ := r
  obtain ⟨js, ms, o2⟩ := q
  dsimp only at *
  obtain ⟨W, eW⟩ : ∃ W, (w.alloc (.cells #[.slice p is.length pc, .slice a ls.length lc, .string o1] 50)).alloc (.cells #[.slice p' js.length pc', .slice a' ms.length mc, .string o2] 50) = W := ⟨_, rfl⟩
  have hbW : Below w.heap.size w W := eW ▸ ((Below.refl _ _).alloc (Nat.le_refl _) _).alloc (by simp) _
  have p1 : W.cell? ⟨w.heap.size, 0, none⟩ = some (.slice p is.length pc) := by rw [← eW]; simp [go_sem]
  have p2 : W.cell? ⟨w.heap.size + 1, 0, none⟩ = some (.slice p' js.length pc') := by rw [← eW]; simp [go_sem]
  have c1 : W.cell? ⟨w.heap.size, 1, none⟩ = some (.slice a ls.length lc) := by rw [← eW]; simp [go_sem]
  have c2 : W.cell? ⟨w.heap.size + 1, 1, none⟩ = some (.slice a' ms.length mc) := by rw [← eW]; simp [go_sem]
  have t1 : W.cell? ⟨w.heap.size, 2, none⟩ = some (.string o1) := by rw [← eW]; simp [go_sem]
  have t2 : W.cell? ⟨w.heap.size + 1, 2, none⟩ = some (.string o2) := by rw [← eW]; simp [go_sem]
  by_cases ho : o1 = o2
  · subst ho
    have eo := str_eq (rfl : o1 = o1)
    by_cases hn : ls.length = ms.length
    · obtain ⟨n, HLA⟩ : ∃ n, Hid (ls.length = n) := ⟨_, rfl⟩
      have HLB : Hid (ms.length = n) := hn.symm.trans HLA.out
      rw [HLA.out] at c1 hl eW ⊢
      rw [HLB.out] at c2 hl' eW ⊢
      have hnn : ((n : Int) != (n : Int)) = false := by simp
      have HC := hid (l5Same_any p p' pc pc' is js W (hp.below hbW) (hp'.below hbW) h1 h2)
      clear hn hp hp'
      go_enter Tryz.func18, Tryz.ntmps18
      go_wp2_with fail
      clear eW
      refine HC.out.mono ?_
      rintro e w1 ⟨hb1, b, rfl, hb⟩
      have HB := hid hb
      replace c1 := cell_below hb1 c1
      replace c2 := cell_below hb1 c2
      have hbW1 := bt hbW hb1
      clear hb p1 p2 t1 t2 HC hbW hb1
      have hbW := hbW1
      clear hbW1
      cases b with
      | false =>
        have HNE : Hid (false = true ↔ (⟨is, ls, o1⟩ : T3) = ⟨js, ms, o1⟩) := ⟨fun h => (by cases h), fun e => HB.out.2 (by injection e)⟩
        go_wp2
        go_ret
        exact ⟨hbW, false, rfl, HNE.out⟩
      | true =>
        obtain rfl : is = js := HB.out.1 rfl
        go_wp2
        go_loopw [5] (fun i wr => ∃ k : Nat, k ≤ n ∧ i = .int .i64 k ∧ Hid (∀ j, j < k → gx ls j = gx ms j) ∧ wr.cell? ⟨w.heap.size, 1, none⟩ = some (.slice a n lc) ∧ wr.cell? ⟨w.heap.size + 1, 1, none⟩ = some (.slice a' n mc) ∧ Below w.heap.size w wr) (fun i _ => n - (intOf i).toNat)
        case atStart => exact ⟨0, Nat.zero_le _, rfl, (fun j hj => by omega), c1, c2, hbW⟩
        case round =>
          clear c1 c2 hbW
          obtain ⟨k, hk, rfl, HN, c1, c2, hB⟩ := hrel
          by_cases hlt : k < n
          · obtain ⟨b, off, rfl, e1, e2, e3⟩ := (hc.below hB) k (by have := HLA.out; omega)
            obtain ⟨b', off', rfl, f1, f2, f3⟩ := (hc'.below hB) k (by have := HLB.out; omega)
            have hkI : (k : Int) < (n : Int) := by omega
            have hk0 : (0 : Int) ≤ (k : Int) := by omega
            have HNE0 : Hid (gx ls k ≠ gx ms k → (false = true ↔ (⟨is, ls, o1⟩ : T3) = ⟨is, ms, o1⟩)) := fun hne => ⟨fun h => (by cases h), fun e => absurd (by injection e with _ q _; rw [q]) hne⟩
            have HN0 : Hid (gx ls k = gx ms k → ∀ j, j < k + 1 → gx ls j = gx ms j) := fun he j hj => by
              rcases Nat.lt_or_ge j k with q | q
              · exact HN.out j q
              · obtain rfl : j = k := by omega
                exact he
            generalize gx ls k = x at *
            generalize gx ms k = y at *
            obtain ⟨x0, x1, x2⟩ := x
            obtain ⟨y0, y1, y2⟩ := y
            dsimp only at e1 e2 e3 f1 f2 f3
            by_cases h0 : x0 = y0
            · subst h0
              by_cases h1 : x1 = y1
              · subst h1
                by_cases h2 : x2 = y2
                · subst h2
                  have HN2 := hid (HN0.out rfl)
                  clear HN0 HNE0 HN
                  go_wp2_with fail
                  go_region_held3 (fun w' => w'.cell? ⟨w.heap.size, 1, none⟩ = some (.slice (some ⟨b, off, none⟩) n lc) ∧ w'.cell? ⟨w.heap.size + 1, 1, none⟩ = some (.slice (some ⟨b', off', none⟩) n mc) ∧ w'.cell? ⟨b, off + k * 3, none⟩ = some (.string x0) ∧ w'.cell? ⟨b, off + k * 3 + 1, none⟩ = some (.bool x1) ∧ w'.cell? ⟨b, off + k * 3 + 2, none⟩ = some (.string x2) ∧ w'.cell? ⟨b', off' + k * 3, none⟩ = some (.string x0) ∧ w'.cell? ⟨b', off' + k * 3 + 1, none⟩ = some (.bool x1) ∧ w'.cell? ⟨b', off' + k * 3 + 2, none⟩ = some (.string x2))
                    (first | assumption | (simp [*]; done)) (fail)
                  all_goals
                    go_wp2
                    exact ⟨⟨k + 1, by omega, by go_num, HN2.out, c1, c2, hB.drew⟩, by simp [intOf]; omega⟩
                · have hq := h2
                  have dd : ¬ (x2.toList = y2.toList) := fun e => hq (toList_inj e)
                  have HNE := hid (HNE0.out (fun e => hq (by injection e)))
                  clear HN0 HNE0 HN hq h2
                  go_wp2_with fail
                  go_region_held3 (fun w' => w'.cell? ⟨w.heap.size, 1, none⟩ = some (.slice (some ⟨b, off, none⟩) n lc) ∧ w'.cell? ⟨w.heap.size + 1, 1, none⟩ = some (.slice (some ⟨b', off', none⟩) n mc) ∧ w'.cell? ⟨b, off + k * 3, none⟩ = some (.string x0) ∧ w'.cell? ⟨b, off + k * 3 + 1, none⟩ = some (.bool x1) ∧ w'.cell? ⟨b, off + k * 3 + 2, none⟩ = some (.string x2) ∧ w'.cell? ⟨b', off' + k * 3, none⟩ = some (.string x0) ∧ w'.cell? ⟨b', off' + k * 3 + 1, none⟩ = some (.bool x1) ∧ w'.cell? ⟨b', off' + k * 3 + 2, none⟩ = some (.string y2))
                    (first | assumption | (simp [*]; done)) (fail)
                  all_goals
                    go_wp2
                    go_ret
                    exact ⟨hB.drew, false, rfl, HNE.out⟩
              · have hq := h1
                have dd : ¬ (x1 = y1) := hq
                have HNE := hid (HNE0.out (fun e => hq (by injection e)))
                clear HN0 HNE0 HN hq h1
                go_wp2_with fail
                go_region_held3 (fun w' => w'.cell? ⟨w.heap.size, 1, none⟩ = some (.slice (some ⟨b, off, none⟩) n lc) ∧ w'.cell? ⟨w.heap.size + 1, 1, none⟩ = some (.slice (some ⟨b', off', none⟩) n mc) ∧ w'.cell? ⟨b, off + k * 3, none⟩ = some (.string x0) ∧ w'.cell? ⟨b, off + k * 3 + 1, none⟩ = some (.bool x1) ∧ w'.cell? ⟨b, off + k * 3 + 2, none⟩ = some (.string x2) ∧ w'.cell? ⟨b', off' + k * 3, none⟩ = some (.string x0) ∧ w'.cell? ⟨b', off' + k * 3 + 1, none⟩ = some (.bool y1) ∧ w'.cell? ⟨b', off' + k * 3 + 2, none⟩ = some (.string y2))
                  (first | assumption | (simp [*]; done)) (fail)
                all_goals
                  go_wp2
                  go_ret
                  exact ⟨hB.drew, false, rfl, HNE.out⟩
            · have hq := h0
              have dd : ¬ (x0.toList = y0.toList) := fun e => hq (toList_inj e)
              have HNE := hid (HNE0.out (fun e => hq (by injection e)))
              clear HN0 HNE0 HN hq h0
              go_wp2_with fail
              go_region_held3 (fun w' => w'.cell? ⟨w.heap.size, 1, none⟩ = some (.slice (some ⟨b, off, none⟩) n lc) ∧ w'.cell? ⟨w.heap.size + 1, 1, none⟩ = some (.slice (some ⟨b', off', none⟩) n mc) ∧ w'.cell? ⟨b, off + k * 3, none⟩ = some (.string x0) ∧ w'.cell? ⟨b, off + k * 3 + 1, none⟩ = some (.bool x1) ∧ w'.cell? ⟨b, off + k * 3 + 2, none⟩ = some (.string x2) ∧ w'.cell? ⟨b', off' + k * 3, none⟩ = some (.string y0) ∧ w'.cell? ⟨b', off' + k * 3 + 1, none⟩ = some (.bool y1) ∧ w'.cell? ⟨b', off' + k * 3 + 2, none⟩ = some (.string y2))
                (first | assumption | (simp [*]; done)) (fail)
              all_goals
                go_wp2
                go_ret
                exact ⟨hB.drew, false, rfl, HNE.out⟩
          · have ek : k = n := by omega
            subst ek
            have HEQ := hid (show (⟨is, ls, o1⟩ : T3) = ⟨is, ms, o1⟩ from by rw [gx_ext (HLA.out.trans HLB.out.symm) (fun j hj => HN.out j (by have := HLA.out; omega))])
            clear HN
            go_wp2
            go_ret
            exact ⟨hB, true, rfl, by simp only [true_iff]; exact HEQ.out⟩
    · have hnn : ((ls.length : Int) != (ms.length : Int)) = true := by simp; omega
      have hni : ¬ ((ls.length : Int) = (ms.length : Int)) := by omega
      have HNE : Hid (false = true ↔ (⟨is, ls, o1⟩ : T3) = ⟨js, ms, o1⟩) := ⟨fun h => (by cases h), fun e => absurd (by injection e with _ q _; rw [q]) hn⟩
      go_enter Tryz.func18, Tryz.ntmps18
      go_wp2
      go_ret
      exact ⟨hbW, false, rfl, HNE.out⟩
  · have eo := str_ne ho
    have HNE : Hid (false = true ↔ (⟨is, ls, o1⟩ : T3) = ⟨js, ms, o2⟩) := ⟨fun h => (by cases h), fun e => absurd (by injection e) ho⟩
    go_enter Tryz.func18, Tryz.ntmps18
    go_wp2
    go_ret
    exact ⟨hbW, false, rfl, HNE.out⟩

end Go.Proofs.YtllhbgmadiclcaaGreatDoor
