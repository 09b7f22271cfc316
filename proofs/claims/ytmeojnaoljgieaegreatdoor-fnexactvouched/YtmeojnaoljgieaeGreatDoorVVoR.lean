import Derived.Test.YtmeojnaoljgieaeGreatDoorVVoT
namespace Go.Proofs.YtmeojnaoljgieaeGreatDoor
open Go.RowKit
set_option linter.unusedVariables false
set_option maxHeartbeats 8000000
set_option maxRecDepth 100000
theorem bk3 {w : World} {b : Nat} {v0 v1 v2 : Value} {T : TypeId} (h : w.heap[b]? = some (.cells #[v0, v1, v2] T (0, 0))) : w.cell? ⟨b, 0, none⟩ = some v0 /\ w.cell? ⟨b, 1, none⟩ = some v1 /\ w.cell? ⟨b, 2, none⟩ = some v2 /\ ∀ j, w.frozen? ⟨b, j, none⟩ = false := by
  refine ⟨?_, ?_, ?_, fun j => Lib.frozen_of_heap h j⟩ <;> rw [Lib.cell_of_heap h] <;> rfl
theorem blk_keep {w w' : World} {b : Nat} {cs : Array Value} {T : TypeId} (hb : Below w.heap.size w w') (h : w.heap[b]? = some (.cells cs T (0, 0))) : w'.heap[b]? = some (.cells cs T (0, 0)) := by
  rw [hb.block _ (blk_lt h)]; exact h
theorem set3_at {w : World} {b : Nat} {u0 u1 u2 : Value} {T : TypeId} (h : w.heap[b]? = some (.cells #[u0, u1, u2] T (0, 0))) (v0 v1 v2 : Value) : (((w.setCell ⟨b, 0, none⟩ v0).setCell ⟨b, 1, none⟩ v1).setCell ⟨b, 2, none⟩ v2).heap[b]? = some (.cells #[v0, v1, v2] T (0, 0)) := by
  rw [Joins.block_setCell (Joins.block_setCell (Joins.block_setCell h v0) v1) v2]
  rfl
theorem set3_same {w : World} {b : Nat} {v0 v1 v2 : Value} {T : TypeId} (h : w.heap[b]? = some (.cells #[v0, v1, v2] T (0, 0))) : (((w.setCell ⟨b, 0, none⟩ v0).setCell ⟨b, 1, none⟩ v1).setCell ⟨b, 2, none⟩ v2).heap[b]? = some (.cells #[v0, v1, v2] T (0, 0)) := set3_at h v0 v1 v2
theorem set3_far {w : World} {b c j : Nat} {v : Value} (hp : b ≠ c) (v0 v1 v2 : Value) (h : w.cell? ⟨c, j, none⟩ = some v) : (((w.setCell ⟨b, 0, none⟩ v0).setCell ⟨b, 1, none⟩ v1).setCell ⟨b, 2, none⟩ v2).cell? ⟨c, j, none⟩ = some v := by
  rw [World.cell?_setCell_far _ _ _ _ hp, World.cell?_setCell_far _ _ _ _ hp, World.cell?_setCell_far _ _ _ _ hp]; exact h
theorem below_set3 {B : Nat} {w w' : World} (hb : Below B w w') {b : Nat} (h : B <= b) (v0 v1 v2 : Value) : Below B w (((w'.setCell ⟨b, 0, none⟩ v0).setCell ⟨b, 1, none⟩ v1).setCell ⟨b, 2, none⟩ v2) :=
  ((hb.setCell (p := ⟨b, 0, none⟩) h _).setCell (p := ⟨b, 1, none⟩) h _).setCell (p := ⟨b, 2, none⟩) h _
/-- What a region keeps that stores the zero reply again. -/
theorem keepR {W : World} {A B : Prop} {R : Nat} (h : A /\ B) (k : W.heap[R]? = some (.cells #[.bool false, .int .i64 0, .string ⟨#[]⟩] 178 (0, 0))) : (A /\ B) /\ W.heap[R]? = some (.cells #[.bool false, .int .i64 0, .string ⟨#[]⟩] 178 (0, 0)) /\ W.cell? ⟨R, 0, none⟩ = some (.bool false) /\ W.cell? ⟨R, 1, none⟩ = some (.int .i64 0) /\ W.cell? ⟨R, 2, none⟩ = some (.string ⟨#[]⟩) /\ ∀ j, W.frozen? ⟨R, j, none⟩ = false := ⟨h, k, bk3 k⟩
theorem replyOf_has (n g : Nat) (ta ra sa : Option Addr) (tc rn rc sc : Nat) (ts : List ByteArray) (gn gs : ByteArray) (w : World) (h1 : 1 <= n) (h8 : n <= 8) (hsh : ShelfAt w g n ta ra ts.length tc rn rc (.slice sa ts.length sc)) :
    Calls Tryz.prog 128 #[.pointer (some ⟨g, 0, none⟩), .agg #[.string gn, .bool false, .string gs]] w fun e w' => Below w.heap.size w w' /\ ∃ y told, e = .returned (.tuple #[.agg #[.bool y.has, .int .i64 y.code, .string y.text], .bool told]) /\ ReplyI n ts ⟨gn, false, gs⟩ y told := by
  obtain ⟨W, eW⟩ : ∃ W, ((w.alloc (.cells #[.string gn, .bool false, .string gs] 170)).alloc (.cells #[.bool false, .int .i64 0, .string ⟨#[]⟩] 178)) = W := ⟨_, rfl⟩
  have hb0 : Below w.heap.size w W := by rw [<- eW]; exact ((Below.refl _ _).alloc (Nat.le_refl _) _).alloc (by simp) _
  have hgl : g < w.heap.size := hsh.lt
  have x0 : W.cell? ⟨g, 0, none⟩ = some (.int .i64 n) := by unfold ShelfAt at hsh; exact cell_below hb0 (by rw [Lib.cell_of_heap hsh]; rfl)
  have x1 : W.cell? ⟨w.heap.size, 1, none⟩ = some (.bool false) := by rw [<- eW]; simp [go_sem]
  have x2 : W.cell? ⟨w.heap.size, 2, none⟩ = some (.string gs) := by rw [<- eW]; simp [go_sem]
  have HR : Hid (W.heap[w.heap.size + 1]? = some (.cells #[.bool false, .int .i64 0, .string ⟨#[]⟩] 178 (0, 0))) := by
    show W.heap[w.heap.size + 1]? = _
    rw [<- eW]
    have h := heap_new (w.alloc (.cells #[.string gn, .bool false, .string gs] 170)) (.cells #[.bool false, .int .i64 0, .string ⟨#[]⟩] 178)
    rw [show (w.alloc (.cells #[.string gn, .bool false, .string gs] 170)).heap.size = w.heap.size + 1 from by simp] at h
    exact h
  have HONE : Hid (∀ V : World, Calls Tryz.prog 180 #[.bool true] V fun e w' => e = .returned (.string ⟨#[49]⟩) /\ V = w') := fun V => oneIf_any true V
  have HZERO : Hid (∀ V : World, Calls Tryz.prog 180 #[.bool false] V fun e w' => e = .returned (.string ⟨#[48]⟩) /\ V = w') := fun V => oneIf_any false V
  obtain ⟨s1, e1⟩ : ∃ s1, sumB n ⟨#[49]⟩ = s1 := ⟨_, rfl⟩
  obtain ⟨s0, e0⟩ : ∃ s0, sumB n ⟨#[48]⟩ = s0 := ⟨_, rfl⟩
  have HS1 : Hid (∀ V : World, Calls Tryz.prog 175 #[.string ⟨#[49]⟩, .int .i64 n] V fun e w' => e = .returned (.string s1) /\ Below V.heap.size V w') := fun V => by rw [<- e1]; exact implSum_yes ⟨#[49]⟩ n V (by decide) h1 h8
  have HS0 : Hid (∀ V : World, Calls Tryz.prog 175 #[.string ⟨#[48]⟩, .int .i64 n] V fun e w' => e = .returned (.string s0) /\ Below V.heap.size V w') := fun V => by rw [<- e0]; exact implSum_yes ⟨#[48]⟩ n V (by decide) h1 h8
  have E1 : Hid (sumB n ⟨#[49]⟩ = s1) := e1
  have E0 : Hid (sumB n ⟨#[48]⟩ = s0) := e0
  clear e1 e0
  have hbA : Below W.heap.size W W.drew := (Below.refl _ _).drew
  by_cases q1 : gs = s1
  · have HO : Hid (ReplyI n ts ⟨gn, false, gs⟩ ⟨true, 0, ⟨#[]⟩⟩ true) := Or.inr ⟨rfl, _, tell_has1 rfl (by rw [E1.out]; exact q1), by decide, fun _ _ => rfl⟩
    have d1 := str_eq q1
    clear q1
    go_enter Tryz.func128, Tryz.ntmps128
    go_wp2_with fail
    clear eW
    go_region_held3 (fun w' => w'.cell? ⟨g, 0, none⟩ = some (.int .i64 n) /\ w'.cell? ⟨w.heap.size, 2, none⟩ = some (.string gs))
      (first | assumption | (simp [*]; done) | exact ⟨cell_below hb2 (by simp [*]), cell_below hb2 (by simp [*])⟩)
      (first | (go_at_call 180; refine (HONE.out _).mono ?_; rintro e w1 ⟨rfl, rfl⟩) | (go_at_call 175; refine (HS1.out _).mono ?_; rintro e w2 ⟨rfl, hb2⟩))
    all_goals
      have hB2 := bt hb0 (bt hbA hb2)
      have hR2 := blk_keep (bt hbA hb2) HR.out
      obtain ⟨z0, z1, z2, zf⟩ := bk3 hR2
      clear x0 x1 x2 hbA hb2
      go_wp2_with fail
      go_region
      all_goals
        go_wp2
        exact bodyPost_ret (v := .tuple #[.agg #[.bool true, .int .i64 0, .string ⟨#[]⟩], .bool true]) (by simp [results, Tryz.results128, go_sem, z0, z1, z2]) rfl ⟨(below_set3 hB2 (by omega) _ _ _).drew, ⟨true, 0, ⟨#[]⟩⟩, true, rfl, HO.out⟩
  · have d1 := str_ne q1
    obtain ⟨told, dq, HO⟩ : ∃ told, (gs.toList == s0.toList) = told /\ Hid (ReplyI n ts ⟨gn, false, gs⟩ ⟨false, 0, ⟨#[]⟩⟩ told) := by
      by_cases q0 : gs = s0
      · exact ⟨true, str_eq q0, Or.inr ⟨rfl, _, tell_has0 rfl (by rw [E1.out]; exact q1) (by rw [E0.out]; exact q0), by decide, fun _ _ => rfl⟩⟩
      · exact ⟨false, str_ne q0, Or.inl ⟨rfl, tell_hasN rfl (by rw [E1.out]; exact q1) (by rw [E0.out]; exact q0)⟩⟩
    clear q1
    go_enter Tryz.func128, Tryz.ntmps128
    go_wp2_with fail
    clear eW
    go_region_held3 (fun w' => w'.cell? ⟨g, 0, none⟩ = some (.int .i64 n) /\ w'.cell? ⟨w.heap.size, 2, none⟩ = some (.string gs))
      (first | assumption | (simp [*]; done) | exact ⟨cell_below hb2 (by simp [*]), cell_below hb2 (by simp [*])⟩)
      (first | (go_at_call 180; refine (HONE.out _).mono ?_; rintro e w1 ⟨rfl, rfl⟩) | (go_at_call 175; refine (HS1.out _).mono ?_; rintro e w2 ⟨rfl, hb2⟩))
    all_goals
      have hB2 := bt hb0 (bt hbA hb2)
      have hR2 := blk_keep (bt hbA hb2) HR.out
      have y0 := cell_below (bt hbA hb2) x0
      have y2 := cell_below (bt hbA hb2) x2
      clear x0 x1 x2 hbA hb2
      have hbC : Below w2.heap.size w2 w2.drew := (Below.refl _ _).drew
      have hlw : w.heap.size + 1 < w2.heap.size := blk_lt hR2
      go_wp2_with fail
      go_region_held3 (fun w' => (w'.cell? ⟨g, 0, none⟩ = some (.int .i64 n) /\ w'.cell? ⟨w.heap.size, 2, none⟩ = some (.string gs)) /\ w'.heap[w.heap.size + 1]? = some (.cells #[.bool false, .int .i64 0, .string ⟨#[]⟩] 178 (0, 0)) /\ w'.cell? ⟨w.heap.size + 1, 0, none⟩ = some (.bool false) /\ w'.cell? ⟨w.heap.size + 1, 1, none⟩ = some (.int .i64 0) /\ w'.cell? ⟨w.heap.size + 1, 2, none⟩ = some (.string ⟨#[]⟩) /\ ∀ j, w'.frozen? ⟨w.heap.size + 1, j, none⟩ = false)
        (first | exact keepR ⟨y0, y2⟩ hR2 | (go_split_ands; with_reducible (refine keepR ⟨cell_below hb4 ?_, cell_below hb4 ?_⟩ (blk_keep hb4 ?_) <;> assumption)) | (go_split_ands; with_reducible (refine keepR ⟨set3_far (by omega) _ _ _ ?_, set3_far (by omega) _ _ _ ?_⟩ (set3_same ?_) <;> assumption)) | assumption | (simp [*]; done))
        (first | (go_at_call 180; refine (HZERO.out _).mono ?_; rintro e w3 ⟨rfl, rfl⟩) | (go_at_call 175; refine (HS0.out _).mono ?_; rintro e w4 ⟨rfl, hb4⟩))
      all_goals
        go_wp2
        rename_i hh
        obtain ⟨_, _, z0, z1, z2, zf⟩ := hh
        first
          | exact bodyPost_ret (v := .tuple #[.agg #[.bool false, .int .i64 0, .string ⟨#[]⟩], .bool told]) (by simp [results, Tryz.results128, go_sem, z0, z1, z2]) rfl ⟨below_set3 (bt hB2 (bt hbC hb4)) (by omega) _ _ _, ⟨false, 0, ⟨#[]⟩⟩, told, rfl, HO.out⟩
          | exact bodyPost_ret (v := .tuple #[.agg #[.bool false, .int .i64 0, .string ⟨#[]⟩], .bool told]) (by simp [results, Tryz.results128, go_sem, z0, z1, z2]) rfl ⟨bt (below_set3 (bt hB2 hbC) (by omega) _ _ _) hb4, ⟨false, 0, ⟨#[]⟩⟩, told, rfl, HO.out⟩
theorem replyOf_ask (n g : Nat) (ta ra sa : Option Addr) (tc rn rc sc : Nat) (ts : List ByteArray) (gn gs : ByteArray) (w : World) (h1 : 1 <= n) (h8 : n <= 8) (hsh : ShelfAt w g n ta ra ts.length tc rn rc (.slice sa ts.length sc)) (hsm : Strs w sa (ts.map (sumB n))) (hc : Strs w ta ts) (hl : ts.length <= 1048576) (hs : ∀ i, i < ts.length -> (nx ts i).size <= 2002) (hasc : Asc (ts.map (sumB n))) :
    Calls Tryz.prog 128 #[.pointer (some ⟨g, 0, none⟩), .agg #[.string gn, .bool true, .string gs]] w fun e w' => Below w.heap.size w w' /\ ∃ y told, e = .returned (.tuple #[.agg #[.bool y.has, .int .i64 y.code, .string y.text], .bool told]) /\ ReplyI n ts ⟨gn, true, gs⟩ y told := by
  obtain ⟨W, eW⟩ : ∃ W, ((w.alloc (.cells #[.string gn, .bool true, .string gs] 170)).alloc (.cells #[.bool false, .int .i64 0, .string ⟨#[]⟩] 178)) = W := ⟨_, rfl⟩
  have hb0 : Below w.heap.size w W := by rw [<- eW]; exact ((Below.refl _ _).alloc (Nat.le_refl _) _).alloc (by simp) _
  have hgl : g < w.heap.size := hsh.lt
  have x0 : W.cell? ⟨g, 0, none⟩ = some (.int .i64 n) := by unfold ShelfAt at hsh; exact cell_below hb0 (by rw [Lib.cell_of_heap hsh]; rfl)
  have x5 : W.cell? ⟨w.heap.size, 0, none⟩ = some (.string gn) := by rw [<- eW]; simp [go_sem]
  have x1 : W.cell? ⟨w.heap.size, 1, none⟩ = some (.bool true) := by rw [<- eW]; simp [go_sem]
  have x2 : W.cell? ⟨w.heap.size, 2, none⟩ = some (.string gs) := by rw [<- eW]; simp [go_sem]
  have HR : Hid (W.heap[w.heap.size + 1]? = some (.cells #[.bool false, .int .i64 0, .string ⟨#[]⟩] 178 (0, 0))) := by
    show W.heap[w.heap.size + 1]? = _
    rw [<- eW]
    have h := heap_new (w.alloc (.cells #[.string gn, .bool true, .string gs] 170)) (.cells #[.bool false, .int .i64 0, .string ⟨#[]⟩] 178)
    rw [show (w.alloc (.cells #[.string gn, .bool true, .string gs] 170)).heap.size = w.heap.size + 1 from by simp] at h
    exact h
  have HC : Hid (Strs w ta ts) := hc
  have HS : Hid (∀ i, i < ts.length -> (nx ts i).size <= 2002) := hs
  have HA : Hid (Asc (ts.map (sumB n))) := hasc
  have HSH : Hid (ShelfAt w g n ta ra ts.length tc rn rc (.slice sa ts.length sc)) := hsh
  have HSM : Hid (Strs w sa (ts.map (sumB n))) := hsm
  clear hc hs hasc hsh hsm
  go_enter Tryz.func128, Tryz.ntmps128
  go_wp2_with fail
  clear eW
  refine (get_any n g ta ra sa tc rn rc sc ts gs _ (HSH.out.below hb0) (HSM.out.below hb0) (HC.out.below hb0) hl HA.out).mono ?_
  rintro e w1 ⟨hw1, A, ok, rfl, hg⟩
  have hb1 : Below W.heap.size W w1 := by rw [<- hw1]; exact Below.refl _ _
  clear hw1
  obtain ⟨eA, _⟩ := getA_of HA.out hg
  have hAs : A.size <= 2002 := by rw [eA]; exact getA_size HS.out
  have EA : Hid (getA n ts gs = A) := eA.symm
  have hB1 := bt hb0 hb1
  have hR1 := blk_keep hb1 HR.out
  have y5 := cell_below hb1 x5
  clear hg eA x0 x1 x2 x5 hb1 HR
  go_wp2_with fail
  refine (implRead_any A _ hAs).mono ?_
  rintro e w2 ⟨hb2, hrd⟩
  have hB2 := bt hB1 hb2
  have hR2 := blk_keep hb2 hR1
  have z5 := cell_below hb2 y5
  have hlw : w.heap.size + 1 < w2.heap.size := blk_lt hR2
  clear hB1 hR1 y5 hb2
  rcases hrd with ⟨hr, rfl⟩ | ⟨hr, rfl⟩
  · obtain ⟨k1, k2⟩ := rr_code hr
    have ht := rr_text hr
    have HRR : Hid (rrB (getA n ts gs)) := by show rrB _; rw [EA.out]; exact hr
    obtain ⟨has, HO, hcs⟩ : ∃ has, Hid (ReplyI n ts ⟨gn, true, gs⟩ ⟨has, rdC A, rdT A⟩ true) /\ ((has = false /\ (rdC A == 4) = true /\ ((rdT A).toList == gn.toList) = true) \/ (has = true /\ (rdC A == 4) = true /\ ((rdT A).toList == gn.toList) = false) \/ (has = true /\ (rdC A == 4) = false)) := by
      by_cases q1 : rdC A = 4
      · by_cases q2 : rdT A = gn
        · exact ⟨false, Or.inr ⟨rfl, _, tell_missing rfl HRR.out (by rw [EA.out]; exact ⟨q1, q2⟩), ht, fun _ _ => rfl⟩, Or.inl ⟨rfl, by simp [q1], str_eq q2⟩⟩
        · exact ⟨true, Or.inr ⟨rfl, _, tell_yes rfl HRR.out (by rw [EA.out]; exact fun h => q2 h.2), ht, fun _ _ => by rw [EA.out]⟩, Or.inr (Or.inl ⟨rfl, by simp [q1], str_ne q2⟩)⟩
      · exact ⟨true, Or.inr ⟨rfl, _, tell_yes rfl HRR.out (by rw [EA.out]; exact fun h => q1 h.1), ht, fun _ _ => by rw [EA.out]⟩, Or.inr (Or.inr ⟨rfl, by simp [q1]⟩)⟩
    generalize rdC A = c at *
    generalize rdT A = t at *
    clear hr HRR EA
    rcases hcs with ⟨rfl, d1, d2⟩ | ⟨rfl, d1, d2⟩ | ⟨rfl, d1⟩
    · obtain rfl : c = 4 := by simpa using d1
      clear d1
      have hb3 : Below w2.heap.size w2 (w2.alloc (.cells #[.int .i64 4, .string t, .slice none 0 0] 32)) := (Below.refl _ _).alloc (Nat.le_refl _) _
      obtain ⟨r0, r1, r2, rf⟩ := bk3 hR2
      have s5 := cell_below hb3 z5
      have hB3 := bt hB2 hb3
      clear hb3 z5
      go_wp2_with fail
      exact bodyPost_ret (v := .tuple #[.agg #[.bool false, .int .i64 4, .string t], .bool true]) (by simp [results, Tryz.results128, go_sem, r0, r1, r2, hlw, World.cell?_alloc_lt]) rfl ⟨(by first | exact below_set3 hB3 (by omega) _ _ _ | exact (below_set3 hB2 (by omega) _ _ _).alloc (Below.size (below_set3 hB2 (by omega) _ _ _)) _), ⟨false, 4, t⟩, true, rfl, HO.out⟩
    · obtain rfl : c = 4 := by simpa using d1
      clear d1
      have hb3 : Below w2.heap.size w2 (w2.alloc (.cells #[.int .i64 4, .string t, .slice none 0 0] 32)) := (Below.refl _ _).alloc (Nat.le_refl _) _
      obtain ⟨r0, r1, r2, rf⟩ := bk3 hR2
      have s5 := cell_below hb3 z5
      have hB3 := bt hB2 hb3
      clear hb3 z5
      go_wp2_with fail
      exact bodyPost_ret (v := .tuple #[.agg #[.bool true, .int .i64 4, .string t], .bool true]) (by simp [results, Tryz.results128, go_sem, r0, r1, r2, hlw, World.cell?_alloc_lt]) rfl ⟨(by first | exact below_set3 hB3 (by omega) _ _ _ | exact (below_set3 hB2 (by omega) _ _ _).alloc (Below.size (below_set3 hB2 (by omega) _ _ _)) _), ⟨true, 4, t⟩, true, rfl, HO.out⟩
    · skip
      have hb3 : Below w2.heap.size w2 (w2.alloc (.cells #[.int .i64 c, .string t, .slice none 0 0] 32)) := (Below.refl _ _).alloc (Nat.le_refl _) _
      obtain ⟨r0, r1, r2, rf⟩ := bk3 hR2
      have s5 := cell_below hb3 z5
      have hB3 := bt hB2 hb3
      clear hb3 z5
      go_wp2_with fail
      exact bodyPost_ret (v := .tuple #[.agg #[.bool true, .int .i64 c, .string t], .bool true]) (by simp [results, Tryz.results128, go_sem, r0, r1, r2, hlw, World.cell?_alloc_lt]) rfl ⟨(by first | exact below_set3 hB3 (by omega) _ _ _ | exact (below_set3 hB2 (by omega) _ _ _).alloc (Below.size (below_set3 hB2 (by omega) _ _ _)) _), ⟨true, c, t⟩, true, rfl, HO.out⟩
  · have HO : Hid (ReplyI n ts ⟨gn, true, gs⟩ ⟨false, 0, ⟨#[]⟩⟩ false) := Or.inl ⟨rfl, tell_no rfl (by rw [EA.out]; exact hr)⟩
    have hb3 : Below w2.heap.size w2 (w2.alloc (.cells #[.int .i64 0, .string ⟨#[]⟩, .slice none 0 0] 32)) := (Below.refl _ _).alloc (Nat.le_refl _) _
    obtain ⟨r0, r1, r2, rf⟩ := bk3 hR2
    have hB3 := bt hB2 hb3
    clear hb3 hr
    go_wp2_with fail
    exact bodyPost_ret (v := .tuple #[.agg #[.bool false, .int .i64 0, .string ⟨#[]⟩], .bool false]) (by simp [results, Tryz.results128, go_sem, r0, r1, r2, hlw, World.cell?_alloc_lt]) rfl ⟨(by first | exact below_set3 hB3 (by omega) _ _ _ | exact (below_set3 hB2 (by omega) _ _ _).alloc (Below.size (below_set3 hB2 (by omega) _ _ _)) _), ⟨false, 0, ⟨#[]⟩⟩, false, rfl, HO.out⟩
theorem replyOf_any (n g : Nat) (ta ra sa : Option Addr) (tc rn rc sc : Nat) (ts : List ByteArray) (gl : G3) (w : World) (h1 : 1 <= n) (h8 : n <= 8) (hsh : ShelfAt w g n ta ra ts.length tc rn rc (.slice sa ts.length sc)) (hsm : Strs w sa (ts.map (sumB n))) (hc : Strs w ta ts) (hl : ts.length <= 1048576) (hs : ∀ i, i < ts.length -> (nx ts i).size <= 2002) (hasc : Asc (ts.map (sumB n))) :
    Calls Tryz.prog 128 #[.pointer (some ⟨g, 0, none⟩), .agg #[.string gl.name, .bool gl.ask, .string gl.sum]] w fun e w' => Below w.heap.size w w' /\ ∃ y told, e = .returned (.tuple #[.agg #[.bool y.has, .int .i64 y.code, .string y.text], .bool told]) /\ ReplyI n ts gl y told := by
  obtain ⟨gn, ga, gs⟩ := gl
  cases ga
  · exact replyOf_has n g ta ra sa tc rn rc sc ts gn gs w h1 h8 hsh
  · exact replyOf_ask n g ta ra sa tc rn rc sc ts gn gs w h1 h8 hsh hsm hc hl hs hasc
end Go.Proofs.YtmeojnaoljgieaeGreatDoor
