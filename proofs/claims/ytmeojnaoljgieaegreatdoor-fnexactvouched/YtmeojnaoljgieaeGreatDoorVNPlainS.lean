import Derived.Test.YtmeojnaoljgieaeGreatDoorVVoR
import Derived.Test.YtmeojnaoljgieaeGreatDoorVVoA
namespace Go.Proofs.YtmeojnaoljgieaeGreatDoor
open Go.RowKit
set_option linter.unusedVariables false
set_option maxHeartbeats 8000000
set_option maxRecDepth 100000
theorem l4Reply_has (n : Nat) (ta ra : Option Addr) (tc rn rc : Nat) (ts : List ByteArray) (gn gs : ByteArray) (w : World) (h1 : 1 <= n) (h8 : n <= 8) :
    Calls Tryz.prog 118 #[.agg #[.int .i64 n, .slice ta ts.length tc, .slice ra rn rc], .agg #[.string gn, .bool false, .string gs]] w fun e w' => Below w.heap.size w w' /\ ∃ y told, e = .returned (.tuple #[.agg #[.bool y.has, .int .i64 y.code, .string y.text], .bool told]) /\ ReplyS n ts ⟨gn, false, gs⟩ y told := by
  obtain ⟨W, eW⟩ : ∃ W, (((w.alloc (.cells #[.int .i64 n, .slice ta ts.length tc, .slice ra rn rc] 56)).alloc (.cells #[.string gn, .bool false, .string gs] 170)).alloc (.cells #[.bool false, .int .i64 0, .string ⟨#[]⟩] 178)) = W := ⟨_, rfl⟩
  have hb0 : Below w.heap.size w W := by rw [<- eW]; exact (((Below.refl _ _).alloc (Nat.le_refl _) _).alloc (by simp) _).alloc (by simp; omega) _
  have x0 : W.cell? ⟨w.heap.size, 0, none⟩ = some (.int .i64 n) := by rw [<- eW]; simp [go_sem]
  have x1 : W.cell? ⟨w.heap.size + 1, 1, none⟩ = some (.bool false) := by rw [<- eW]; simp [go_sem]
  have x2 : W.cell? ⟨w.heap.size + 1, 2, none⟩ = some (.string gs) := by rw [<- eW]; simp [go_sem]
  have HR : Hid (W.heap[w.heap.size + 1 + 1]? = some (.cells #[.bool false, .int .i64 0, .string ⟨#[]⟩] 178 (0, 0))) := by
    show W.heap[w.heap.size + 1 + 1]? = _
    rw [<- eW]
    have h := heap_new ((w.alloc (.cells #[.int .i64 n, .slice ta ts.length tc, .slice ra rn rc] 56)).alloc (.cells #[.string gn, .bool false, .string gs] 170)) (.cells #[.bool false, .int .i64 0, .string ⟨#[]⟩] 178)
    rw [show ((w.alloc (.cells #[.int .i64 n, .slice ta ts.length tc, .slice ra rn rc] 56)).alloc (.cells #[.string gn, .bool false, .string gs] 170)).heap.size = w.heap.size + 1 + 1 from by simp] at h
    exact h
  obtain ⟨s1, e1⟩ : ∃ s1, sumB n ⟨#[49]⟩ = s1 := ⟨_, rfl⟩
  obtain ⟨s0, e0⟩ : ∃ s0, sumB n ⟨#[48]⟩ = s0 := ⟨_, rfl⟩
  have HS1 : Hid (∀ V : World, Calls Tryz.prog 113 #[.string ⟨#[49]⟩, .int .i64 n] V fun e w' => e = .returned (.string s1) /\ Below V.heap.size V w') := fun V => by rw [<- e1]; exact specSum_yes ⟨#[49]⟩ n V (by decide) h1 h8
  have HS0 : Hid (∀ V : World, Calls Tryz.prog 113 #[.string ⟨#[48]⟩, .int .i64 n] V fun e w' => e = .returned (.string s0) /\ Below V.heap.size V w') := fun V => by rw [<- e0]; exact specSum_yes ⟨#[48]⟩ n V (by decide) h1 h8
  have E1 : Hid (sumB n ⟨#[49]⟩ = s1) := e1
  have E0 : Hid (sumB n ⟨#[48]⟩ = s0) := e0
  clear e1 e0
  have hbA : Below W.heap.size W W.drew := (Below.refl _ _).drew
  by_cases q1 : gs = s1
  · have HO : Hid (ReplyS n ts ⟨gn, false, gs⟩ ⟨true, 0, ⟨#[]⟩⟩ true) := Or.inr ⟨rfl, tell_has1 rfl (by rw [E1.out]; exact q1)⟩
    have d1 := str_eq q1
    clear q1
    go_enter Tryz.func118, Tryz.ntmps118
    go_wp2_with fail
    clear eW
    go_region_held3 (fun w' => w'.cell? ⟨w.heap.size, 0, none⟩ = some (.int .i64 n) /\ w'.cell? ⟨w.heap.size + 1, 2, none⟩ = some (.string gs))
      (first | assumption | (simp [*]; done) | exact ⟨cell_below hb2 (by simp [*]), cell_below hb2 (by simp [*])⟩)
      (first | (go_at_call 113; refine (HS1.out _).mono ?_; rintro e w2 ⟨rfl, hb2⟩))
    all_goals
      have hB2 := bt hb0 (bt hbA hb2)
      have hR2 := blk_keep (bt hbA hb2) HR.out
      obtain ⟨z0, z1, z2, zf⟩ := bk3 hR2
      clear x0 x1 x2 hbA hb2
      go_wp2_with fail
      exact bodyPost_ret (v := .tuple #[.agg #[.bool true, .int .i64 0, .string ⟨#[]⟩], .bool true]) (by simp [results, Tryz.results118, go_sem, z0, z1, z2]) rfl ⟨below_set3 hB2 (by omega) _ _ _, ⟨true, 0, ⟨#[]⟩⟩, true, rfl, HO.out⟩
  · have d1 := str_ne q1
    obtain ⟨told, dq, HO⟩ : ∃ told, (gs.toList == s0.toList) = told /\ Hid (ReplyS n ts ⟨gn, false, gs⟩ ⟨false, 0, ⟨#[]⟩⟩ told) := by
      by_cases q0 : gs = s0
      · exact ⟨true, str_eq q0, Or.inr ⟨rfl, tell_has0 rfl (by rw [E1.out]; exact q1) (by rw [E0.out]; exact q0)⟩⟩
      · exact ⟨false, str_ne q0, Or.inl ⟨rfl, tell_hasN rfl (by rw [E1.out]; exact q1) (by rw [E0.out]; exact q0)⟩⟩
    clear q1
    go_enter Tryz.func118, Tryz.ntmps118
    go_wp2_with fail
    clear eW
    go_region_held3 (fun w' => w'.cell? ⟨w.heap.size, 0, none⟩ = some (.int .i64 n) /\ w'.cell? ⟨w.heap.size + 1, 2, none⟩ = some (.string gs))
      (first | assumption | (simp [*]; done) | exact ⟨cell_below hb2 (by simp [*]), cell_below hb2 (by simp [*])⟩)
      (first | (go_at_call 113; refine (HS1.out _).mono ?_; rintro e w2 ⟨rfl, hb2⟩))
    all_goals
      have hB2 := bt hb0 (bt hbA hb2)
      have hR2 := blk_keep (bt hbA hb2) HR.out
      have y0 := cell_below (bt hbA hb2) x0
      have y2 := cell_below (bt hbA hb2) x2
      clear x0 x1 x2 hbA hb2
      have hbC : Below w2.heap.size w2 w2.drew := (Below.refl _ _).drew
      have hlw : w.heap.size + 1 + 1 < w2.heap.size := blk_lt hR2
      go_wp2_with fail
      go_region_held3 (fun w' => (w'.cell? ⟨w.heap.size, 0, none⟩ = some (.int .i64 n) /\ w'.cell? ⟨w.heap.size + 1, 2, none⟩ = some (.string gs)) /\ w'.heap[w.heap.size + 1 + 1]? = some (.cells #[.bool false, .int .i64 0, .string ⟨#[]⟩] 178 (0, 0)) /\ w'.cell? ⟨w.heap.size + 1 + 1, 0, none⟩ = some (.bool false) /\ w'.cell? ⟨w.heap.size + 1 + 1, 1, none⟩ = some (.int .i64 0) /\ w'.cell? ⟨w.heap.size + 1 + 1, 2, none⟩ = some (.string ⟨#[]⟩) /\ ∀ j, w'.frozen? ⟨w.heap.size + 1 + 1, j, none⟩ = false)
        (first | exact keepR ⟨y0, y2⟩ hR2 | (go_split_ands; with_reducible (refine keepR ⟨cell_below hb4 ?_, cell_below hb4 ?_⟩ (blk_keep hb4 ?_) <;> assumption)) | (go_split_ands; with_reducible (refine keepR ⟨set3_far (by omega) _ _ _ ?_, set3_far (by omega) _ _ _ ?_⟩ (set3_same ?_) <;> assumption)) | assumption | (simp [*]; done))
        (first | (go_at_call 113; refine (HS0.out _).mono ?_; rintro e w4 ⟨rfl, hb4⟩))
      all_goals
        go_wp2
        rename_i hh
        obtain ⟨_, _, z0, z1, z2, zf⟩ := hh
        first
          | exact bodyPost_ret (v := .tuple #[.agg #[.bool false, .int .i64 0, .string ⟨#[]⟩], .bool told]) (by simp [results, Tryz.results118, go_sem, z0, z1, z2]) rfl ⟨below_set3 (bt hB2 (bt hbC hb4)) (by omega) _ _ _, ⟨false, 0, ⟨#[]⟩⟩, told, rfl, HO.out⟩
          | exact bodyPost_ret (v := .tuple #[.agg #[.bool false, .int .i64 0, .string ⟨#[]⟩], .bool told]) (by simp [results, Tryz.results118, go_sem, z0, z1, z2]) rfl ⟨bt (below_set3 (bt hB2 hbC) (by omega) _ _ _) hb4, ⟨false, 0, ⟨#[]⟩⟩, told, rfl, HO.out⟩
theorem l4Reply_ask (n : Nat) (ta ra : Option Addr) (tc rn rc : Nat) (ts : List ByteArray) (gn gs : ByteArray) (w : World) (h1 : 1 <= n) (h8 : n <= 8) (hc : Strs w ta ts) (hl : ts.length <= 1048576) (hs : ∀ i, i < ts.length -> (nx ts i).size <= 2002) (hasc : Asc (ts.map (sumB n))) :
    Calls Tryz.prog 118 #[.agg #[.int .i64 n, .slice ta ts.length tc, .slice ra rn rc], .agg #[.string gn, .bool true, .string gs]] w fun e w' => Below w.heap.size w w' /\ ∃ y told, e = .returned (.tuple #[.agg #[.bool y.has, .int .i64 y.code, .string y.text], .bool told]) /\ ReplyS n ts ⟨gn, true, gs⟩ y told := by
  obtain ⟨W, eW⟩ : ∃ W, (((w.alloc (.cells #[.int .i64 n, .slice ta ts.length tc, .slice ra rn rc] 56)).alloc (.cells #[.string gn, .bool true, .string gs] 170)).alloc (.cells #[.bool false, .int .i64 0, .string ⟨#[]⟩] 178)) = W := ⟨_, rfl⟩
  have hb0 : Below w.heap.size w W := by rw [<- eW]; exact (((Below.refl _ _).alloc (Nat.le_refl _) _).alloc (by simp) _).alloc (by simp; omega) _
  have x0 : W.cell? ⟨w.heap.size, 0, none⟩ = some (.int .i64 n) := by rw [<- eW]; simp [go_sem]
  have x3 : W.cell? ⟨w.heap.size, 1, none⟩ = some (.slice ta ts.length tc) := by rw [<- eW]; simp [go_sem]
  have x4 : W.cell? ⟨w.heap.size, 2, none⟩ = some (.slice ra rn rc) := by rw [<- eW]; simp [go_sem]
  have x5 : W.cell? ⟨w.heap.size + 1, 0, none⟩ = some (.string gn) := by rw [<- eW]; simp [go_sem]
  have x1 : W.cell? ⟨w.heap.size + 1, 1, none⟩ = some (.bool true) := by rw [<- eW]; simp [go_sem]
  have x2 : W.cell? ⟨w.heap.size + 1, 2, none⟩ = some (.string gs) := by rw [<- eW]; simp [go_sem]
  have HR : Hid (W.heap[w.heap.size + 1 + 1]? = some (.cells #[.bool false, .int .i64 0, .string ⟨#[]⟩] 178 (0, 0))) := by
    show W.heap[w.heap.size + 1 + 1]? = _
    rw [<- eW]
    have h := heap_new ((w.alloc (.cells #[.int .i64 n, .slice ta ts.length tc, .slice ra rn rc] 56)).alloc (.cells #[.string gn, .bool true, .string gs] 170)) (.cells #[.bool false, .int .i64 0, .string ⟨#[]⟩] 178)
    rw [show ((w.alloc (.cells #[.int .i64 n, .slice ta ts.length tc, .slice ra rn rc] 56)).alloc (.cells #[.string gn, .bool true, .string gs] 170)).heap.size = w.heap.size + 1 + 1 from by simp] at h
    exact h
  have HC : Hid (Strs w ta ts) := hc
  have HS : Hid (∀ i, i < ts.length -> (nx ts i).size <= 2002) := hs
  have HA : Hid (Asc (ts.map (sumB n))) := hasc
  clear hc hs hasc
  go_enter Tryz.func118, Tryz.ntmps118
  go_wp2_with fail
  clear eW
  refine (l4Get_any n ta ra tc rn rc ts gs _ h1 h8 (HC.out.below hb0) hl HS.out HA.out).mono ?_
  rintro e w1 ⟨hb1, A, ok, rfl, hg⟩
  obtain ⟨eA, hok⟩ := getA_of HA.out hg
  have HOK : Hid (rrB A -> ok = true) := fun hr => hok.2 (Classical.byContradiction fun hn => rr_empty (by rw [eA, getA_none hn] at hr; exact hr))
  have hAs : A.size <= 2002 := by rw [eA]; exact getA_size HS.out
  have EA : Hid (getA n ts gs = A) := eA.symm
  have hB1 := bt hb0 hb1
  have hR1 := blk_keep hb1 HR.out
  have y5 := cell_below hb1 x5
  clear hg hok eA x0 x1 x2 x3 x4 x5 hb1 HR
  go_wp2_with fail
  refine (specRead_any A _ hAs).mono ?_
  rintro e w2 ⟨hb2, hrd⟩
  have hB2 := bt hB1 hb2
  have hR2 := blk_keep hb2 hR1
  have z5 := cell_below hb2 y5
  have hlw : w.heap.size + 1 + 1 < w2.heap.size := blk_lt hR2
  clear hB1 hR1 y5 hb2
  rcases hrd with ⟨hr, rfl⟩ | ⟨hr, rfl⟩
  · obtain rfl := HOK.out hr
    obtain ⟨k1, k2⟩ := rr_code hr
    have ht := rr_text hr
    have HRR : Hid (rrB (getA n ts gs)) := by show rrB _; rw [EA.out]; exact hr
    have HM : Hid (rdC A = 4 -> rdT A = gn -> ReplyS n ts ⟨gn, true, gs⟩ ⟨false, 0, ⟨#[]⟩⟩ true) := fun q1 q2 => Or.inr ⟨rfl, tell_missing rfl HRR.out (by rw [EA.out]; exact ⟨q1, q2⟩)⟩
    have HY : Hid (¬ (rdC A = 4 /\ rdT A = gn) -> ReplyS n ts ⟨gn, true, gs⟩ ⟨true, rdC A, rdT A⟩ true) := fun q => Or.inr ⟨rfl, by rw [tell_yes rfl HRR.out (by rw [EA.out]; exact q), EA.out]⟩
    generalize rdC A = c at *
    generalize rdT A = t at *
    clear hr HRR EA
    by_cases q1 : c = 4
    · by_cases q2 : t = gn
      · have HO : Hid (ReplyS n ts ⟨gn, true, gs⟩ ⟨false, 0, ⟨#[]⟩⟩ true) := HM.out q1 q2
        have d2 := str_eq q2
        subst q1
        clear q2 HM HY
        have hb3 : Below w2.heap.size w2 (w2.alloc (.cells #[.int .i64 4, .string t, .slice none 0 0] 32)) := (Below.refl _ _).alloc (Nat.le_refl _) _
        obtain ⟨r0, r1, r2, rf⟩ := bk3 hR2
        have s5 := cell_below hb3 z5
        have hB3 := bt hB2 hb3
        clear hb3 z5
        go_wp2_with fail
        exact bodyPost_ret (v := .tuple #[.agg #[.bool false, .int .i64 0, .string ⟨#[]⟩], .bool true]) (by simp [results, Tryz.results118, go_sem, r0, r1, r2, hlw, World.cell?_alloc_lt]) rfl ⟨(by first | exact below_set3 hB3 (by omega) _ _ _ | exact (below_set3 hB2 (by omega) _ _ _).alloc (Below.size (below_set3 hB2 (by omega) _ _ _)) _), ⟨false, 0, ⟨#[]⟩⟩, true, rfl, HO.out⟩
      · have HO : Hid (ReplyS n ts ⟨gn, true, gs⟩ ⟨true, c, t⟩ true) := HY.out (fun h => q2 h.2)
        have d2 := str_ne q2
        subst q1
        clear q2 HM HY
        have hb3 : Below w2.heap.size w2 (w2.alloc (.cells #[.int .i64 4, .string t, .slice none 0 0] 32)) := (Below.refl _ _).alloc (Nat.le_refl _) _
        obtain ⟨r0, r1, r2, rf⟩ := bk3 hR2
        have s5 := cell_below hb3 z5
        have hB3 := bt hB2 hb3
        clear hb3 z5
        go_wp2_with fail
        exact bodyPost_ret (v := .tuple #[.agg #[.bool true, .int .i64 4, .string t], .bool true]) (by simp [results, Tryz.results118, go_sem, r0, r1, r2, hlw, World.cell?_alloc_lt]) rfl ⟨(by first | exact below_set3 hB3 (by omega) _ _ _ | exact (below_set3 hB2 (by omega) _ _ _).alloc (Below.size (below_set3 hB2 (by omega) _ _ _)) _), ⟨true, 4, t⟩, true, rfl, HO.out⟩
    · have HO : Hid (ReplyS n ts ⟨gn, true, gs⟩ ⟨true, c, t⟩ true) := HY.out (fun h => q1 h.1)
      have d1 : (c == 4) = false := by simp [q1]
      clear q1 HM HY
      have hb3 : Below w2.heap.size w2 (w2.alloc (.cells #[.int .i64 c, .string t, .slice none 0 0] 32)) := (Below.refl _ _).alloc (Nat.le_refl _) _
      obtain ⟨r0, r1, r2, rf⟩ := bk3 hR2
      have s5 := cell_below hb3 z5
      have hB3 := bt hB2 hb3
      clear hb3 z5
      go_wp2_with fail
      exact bodyPost_ret (v := .tuple #[.agg #[.bool true, .int .i64 c, .string t], .bool true]) (by simp [results, Tryz.results118, go_sem, r0, r1, r2, hlw, World.cell?_alloc_lt]) rfl ⟨(by first | exact below_set3 hB3 (by omega) _ _ _ | exact (below_set3 hB2 (by omega) _ _ _).alloc (Below.size (below_set3 hB2 (by omega) _ _ _)) _), ⟨true, c, t⟩, true, rfl, HO.out⟩
  · have HO : Hid (ReplyS n ts ⟨gn, true, gs⟩ ⟨false, 0, ⟨#[]⟩⟩ false) := Or.inl ⟨rfl, tell_no rfl (by rw [EA.out]; exact hr)⟩
    have hb3 : Below w2.heap.size w2 (w2.alloc (.cells #[.int .i64 0, .string ⟨#[]⟩, .slice none 0 0] 32)) := (Below.refl _ _).alloc (Nat.le_refl _) _
    obtain ⟨r0, r1, r2, rf⟩ := bk3 hR2
    have hB3 := bt hB2 hb3
    clear hb3 hr
    cases ok
    all_goals
      go_wp2_with fail
      exact bodyPost_ret (v := .tuple #[.agg #[.bool false, .int .i64 0, .string ⟨#[]⟩], .bool false]) (by simp [results, Tryz.results118, go_sem, r0, r1, r2, hlw, World.cell?_alloc_lt]) rfl ⟨(by first | exact below_set3 hB3 (by omega) _ _ _ | exact (below_set3 hB2 (by omega) _ _ _).alloc (Below.size (below_set3 hB2 (by omega) _ _ _)) _), ⟨false, 0, ⟨#[]⟩⟩, false, rfl, HO.out⟩
theorem l4Reply_any (n : Nat) (ta ra : Option Addr) (tc rn rc : Nat) (ts : List ByteArray) (g : G3) (w : World) (h1 : 1 <= n) (h8 : n <= 8) (hc : Strs w ta ts) (hl : ts.length <= 1048576) (hs : ∀ i, i < ts.length -> (nx ts i).size <= 2002) (hasc : Asc (ts.map (sumB n))) :
    Calls Tryz.prog 118 #[.agg #[.int .i64 n, .slice ta ts.length tc, .slice ra rn rc], .agg #[.string g.name, .bool g.ask, .string g.sum]] w fun e w' => Below w.heap.size w w' /\ ∃ y told, e = .returned (.tuple #[.agg #[.bool y.has, .int .i64 y.code, .string y.text], .bool told]) /\ ReplyS n ts g y told := by
  obtain ⟨gn, ga, gs⟩ := g
  cases ga
  · exact l4Reply_has n ta ra tc rn rc ts gn gs w h1 h8
  · exact l4Reply_ask n ta ra tc rn rc ts gn gs w h1 h8 hc hl hs hasc
section
theorem extract_all (x : ByteArray) : x.extract 0 x.size = x := by
  apply WideShapes.bytes_inj
  simp
theorem extract_none (x : ByteArray) : x.extract x.size x.size = ⟨#[]⟩ := by
  apply WideShapes.bytes_inj
  simp
/-- A row of texts at a block. -/
def OutAt (w : World) (e : Ending) (outs : List ByteArray) : Prop := ∃ g cap : Nat, e = .returned (.slice (some ⟨g, 0, none⟩) outs.length cap) /\ ∀ j, j < outs.length -> w.cell? ⟨g, j, none⟩ = some (.string (outs.getD j ByteArray.empty))
theorem out1 (w : World) (x : ByteArray) (ty : TypeId) : OutAt (w.alloc (.cells #[.string x] ty)) (.returned (.slice (some ⟨w.heap.size, 0, none⟩) 1 1)) [x] :=
  ⟨_, _, rfl, fun j hj => by obtain rfl : j = 0 := by simp at hj; omega
                             simp [go_sem]⟩
theorem out2 (w : World) (x y : ByteArray) (ty : TypeId) : OutAt (w.alloc (.cells #[.string x, .string y] ty)) (.returned (.slice (some ⟨w.heap.size, 0, none⟩) 2 2)) [x, y] :=
  ⟨_, _, rfl, fun j hj => by
    rcases (show j = 0 \/ j = 1 by simp at hj; omega) with rfl | rfl
    · simp [go_sem]
    · simp [go_sem]⟩
variable (t : ByteArray) (n : Nat) (a b : ByteArray) (w : World)
theorem plain_1 (ha : a.size <= 2000) (hb : b.size <= 2000) (hn : n <= 2000) :
    Calls Tryz.prog 202 #[.agg #[.int .i64 1, .string t, .int .i64 n], .string a, .string b] w fun e w' => Below w.heap.size w w' /\ OutAt w' e (outP 1 t n a b) := by
  go_enter Tryz.func202, Tryz.ntmps202
  go_wp2
  go_ret
  exact ⟨((Below.refl _ _).alloc (Nat.le_refl _) _).alloc (by simp) _, by have h := out1 (w.alloc (.cells #[.int .i64 1, .string t, .int .i64 n] 209)) (t) 9; simpa [outP] using h⟩
theorem plain_2 (ha : a.size <= 2000) (hb : b.size <= 2000) (hn : n <= 2000) :
    Calls Tryz.prog 202 #[.agg #[.int .i64 2, .string t, .int .i64 n], .string a, .string b] w fun e w' => Below w.heap.size w w' /\ OutAt w' e (outP 2 t n a b) := by
  have hc : (b ++ a).size = b.size + a.size := ByteArray.size_append
  go_enter Tryz.func202, Tryz.ntmps202
  go_wp2
  go_ret
  exact ⟨((Below.refl _ _).alloc (Nat.le_refl _) _).alloc (by simp) _, by have h := out1 (w.alloc (.cells #[.int .i64 2, .string t, .int .i64 n] 209)) (b ++ a) 9; simpa [outP] using h⟩
theorem plain_3 (ha : a.size <= 2000) (hb : b.size <= 2000) (hn : n <= 2000) :
    Calls Tryz.prog 202 #[.agg #[.int .i64 3, .string t, .int .i64 n], .string a, .string b] w fun e w' => Below w.heap.size w w' /\ OutAt w' e (outP 3 t n a b) := by
  by_cases h : n < a.size
  · have hI : (n : Int) < (a.size : Int) := by omega
    have e : min n a.size = n := by omega
    have hout : outP 3 t n a b = [a.extract 0 n] := by simp only [outP, e]
    rw [hout]
    clear e hout
    go_enter Tryz.func202, Tryz.ntmps202
    go_wp2
    go_ret
    exact ⟨((Below.refl _ _).alloc (Nat.le_refl _) _).alloc (by simp) _, by have h := out1 (w.alloc (.cells #[.int .i64 3, .string t, .int .i64 n] 209)) (a.extract 0 n) 9; simpa using h⟩
  · have hI : ¬ (n : Int) < (a.size : Int) := by omega
    have e : min n a.size = a.size := by omega
    have hout : outP 3 t n a b = [a] := by simp only [outP, e, extract_all]
    rw [hout]
    clear e hout
    go_enter Tryz.func202, Tryz.ntmps202
    go_wp2
    go_ret
    exact ⟨((Below.refl _ _).alloc (Nat.le_refl _) _).alloc (by simp) _, by have h := out1 (w.alloc (.cells #[.int .i64 3, .string t, .int .i64 n] 209)) (a) 9; simpa using h⟩
theorem plain_4 (ha : a.size <= 2000) (hb : b.size <= 2000) (hn : n <= 2000) :
    Calls Tryz.prog 202 #[.agg #[.int .i64 4, .string t, .int .i64 n], .string a, .string b] w fun e w' => Below w.heap.size w w' /\ OutAt w' e (outP 4 t n a b) := by
  by_cases h : n < a.size
  · have hI : (n : Int) < (a.size : Int) := by omega
    have e : min n a.size = n := by omega
    have hout : outP 4 t n a b = [a.extract n a.size] := by simp only [outP, e]
    rw [hout]
    clear e hout
    go_enter Tryz.func202, Tryz.ntmps202
    go_wp2
    go_ret
    exact ⟨((Below.refl _ _).alloc (Nat.le_refl _) _).alloc (by simp) _, by have h := out1 (w.alloc (.cells #[.int .i64 4, .string t, .int .i64 n] 209)) (a.extract n a.size) 9; simpa using h⟩
  · have hI : ¬ (n : Int) < (a.size : Int) := by omega
    have e : min n a.size = a.size := by omega
    have hout : outP 4 t n a b = [⟨#[]⟩] := by simp only [outP, e, extract_none]
    rw [hout]
    clear e hout
    go_enter Tryz.func202, Tryz.ntmps202
    go_wp2
    go_ret
    exact ⟨((Below.refl _ _).alloc (Nat.le_refl _) _).alloc (by simp) _, by have h := out1 (w.alloc (.cells #[.int .i64 4, .string t, .int .i64 n] 209)) (⟨#[]⟩) 9; simpa using h⟩
theorem plain_5 (ha : a.size <= 2000) (hb : b.size <= 2000) (hn : n <= 2000) :
    Calls Tryz.prog 202 #[.agg #[.int .i64 5, .string t, .int .i64 n], .string a, .string b] w fun e w' => Below w.heap.size w w' /\ OutAt w' e (outP 5 t n a b) := by
  go_enter Tryz.func202, Tryz.ntmps202
  go_wp2_with (go_at_call 226; refine (l2Piece_any a n _ ha hn).mono ?_; rintro e w9 ⟨rfl, rfl⟩)
  go_ret
  exact ⟨((Below.refl _ _).alloc (Nat.le_refl _) _).alloc (by simp) _, by have h := out1 (w.alloc (.cells #[.int .i64 5, .string t, .int .i64 n] 209)) (pieceP a n) 9; simpa [outP] using h⟩
theorem plain_6 (ha : a.size <= 2000) (hb : b.size <= 2000) (hn : n <= 2000) :
    Calls Tryz.prog 202 #[.agg #[.int .i64 6, .string t, .int .i64 n], .string a, .string b] w fun e w' => Below w.heap.size w w' /\ OutAt w' e (outP 6 t n a b) := by
  have hsym : (a.toList == b.toList) = (b.toList == a.toList) := BEq.comm
  obtain ⟨f, ef⟩ : ∃ f, flagB (a.toList == b.toList) = f := ⟨_, rfl⟩
  have EF : Hid (flagB (a.toList == b.toList) = f) := ef
  have hout : outP 6 t n a b = [f] := by simp only [outP, <- hsym, ef]
  rw [hout]
  clear hsym hout ef
  go_enter Tryz.func202, Tryz.ntmps202
  go_wp2_with (go_at_call 194; refine (l2Flag_any _ _).mono ?_; rintro e w9 ⟨rfl, rfl⟩; rw [EF.out])
  go_ret
  exact ⟨((Below.refl _ _).alloc (Nat.le_refl _) _).alloc (by simp) _, by have h := out1 (w.alloc (.cells #[.int .i64 6, .string t, .int .i64 n] 209)) f 9; simpa using h⟩
theorem plain_7 (ha : a.size <= 2000) (hb : b.size <= 2000) (hn : n <= 2000) :
    Calls Tryz.prog 202 #[.agg #[.int .i64 7, .string t, .int .i64 n], .string a, .string b] w fun e w' => Below w.heap.size w w' /\ OutAt w' e (outP 7 t n a b) := by
  go_enter Tryz.func202, Tryz.ntmps202
  go_wp2
  go_ret
  exact ⟨((Below.refl _ _).alloc (Nat.le_refl _) _).alloc (by simp) _, by have h := out2 (w.alloc (.cells #[.int .i64 7, .string t, .int .i64 n] 209)) a a 9; simpa [outP] using h⟩
theorem plain_8 (ha : a.size <= 2000) (hb : b.size <= 2000) (hn : n <= 2000) :
    Calls Tryz.prog 202 #[.agg #[.int .i64 8, .string t, .int .i64 n], .string a, .string b] w fun e w' => Below w.heap.size w w' /\ OutAt w' e (outP 8 t n a b) := by
  go_enter Tryz.func202, Tryz.ntmps202
  go_wp2
  go_ret
  exact ⟨((Below.refl _ _).alloc (Nat.le_refl _) _).alloc (by simp) _, by have h := out2 (w.alloc (.cells #[.int .i64 8, .string t, .int .i64 n] 209)) a b 9; simpa [outP] using h⟩
theorem plain_any (o : Nat) (ha : a.size <= 2000) (hb : b.size <= 2000) (hn : n <= 2000) (h1 : 1 <= o) (h2 : o <= 8) :
    Calls Tryz.prog 202 #[.agg #[.int .i64 (o : Int), .string t, .int .i64 n], .string a, .string b] w fun e w' => Below w.heap.size w w' /\ OutAt w' e (outP o t n a b) := by
  rcases (show o = 1 \/ o = 2 \/ o = 3 \/ o = 4 \/ o = 5 \/ o = 6 \/ o = 7 \/ o = 8 by omega) with rfl | rfl | rfl | rfl | rfl | rfl | rfl | rfl
  · exact plain_1 t n a b w ha hb hn
  · exact plain_2 t n a b w ha hb hn
  · exact plain_3 t n a b w ha hb hn
  · exact plain_4 t n a b w ha hb hn
  · exact plain_5 t n a b w ha hb hn
  · exact plain_6 t n a b w ha hb hn
  · exact plain_7 t n a b w ha hb hn
  · exact plain_8 t n a b w ha hb hn
end
end Go.Proofs.YtmeojnaoljgieaeGreatDoor
