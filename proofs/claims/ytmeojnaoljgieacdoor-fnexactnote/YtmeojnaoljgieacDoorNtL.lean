/-
  FnExactNote: the walk of the law.
-/
import Derived.Test.YtmeojnaoljgieacDoorMkR
import Derived.Test.YtmeojnaoljgieacDoorNtI
import Derived.Test.YtmeojnaoljgieacDoorNtS
import Derived.Deep.DeepCutAuto
namespace Go.Proofs.YtmeojnaoljgieacDoor
open Go.RowKit
set_option linter.unusedVariables false

theorem b1 {w : World} {b T : Nat} {x : Value} (h : w.heap[b]? = some (.cells #[x] T (0, 0))) : w.cell? ⟨b, 0, none⟩ = some x := by rw [Lib.cell_of_heap h]; rfl
theorem b3 {w : World} {b T : Nat} {x y z : Value} (h : w.heap[b]? = some (.cells #[x, y, z] T (0, 0))) : w.cell? ⟨b, 0, none⟩ = some x ∧ w.cell? ⟨b, 1, none⟩ = some y ∧ w.cell? ⟨b, 2, none⟩ = some z := ⟨by rw [Lib.cell_of_heap h]; rfl, by rw [Lib.cell_of_heap h]; rfl, by rw [Lib.cell_of_heap h]; rfl⟩
theorem rec_rows {B : Nat} {w : World} {v1 v2 : Value} {is : List I3} {gs : List G3} (h : RecOwn B w v1 v2 is gs) : ∃ va vc vb vd, v1 = .slice va is.length vc ∧ v2 = .slice vb gs.length vd ∧ Row3 w va is ∧ RowG w vb gs := by
  obtain ⟨xs, ys, h1, h2, h3, h4⟩ := h
  have r1 : ∃ va vc, v1 = .slice va is.length vc ∧ Row3 w va is := by
    rcases own_cases h1 with ⟨hv, h0⟩ | ⟨g, cp, hv⟩
    · exact ⟨none, 0, by rw [hv, h0], fun i hi => by omega⟩
    · subst hv; exact ⟨_, _, rfl, row3_own rfl h1 h2⟩
  have r2 : ∃ vb vd, v2 = .slice vb gs.length vd ∧ RowG w vb gs := by
    rcases own_cases h3 with ⟨hv, h0⟩ | ⟨g, cp, hv⟩
    · exact ⟨none, 0, by rw [hv, h0], fun i hi => by omega⟩
    · subst hv; exact ⟨_, _, rfl, rowG_own rfl h3 h4⟩
  obtain ⟨va, vc, e1, q1⟩ := r1
  obtain ⟨vb, vd, e2, q2⟩ := r2
  exact ⟨va, vc, vb, vd, e1, e2, q1, q2⟩
/-- eqRecord over records that own their rows. -/
theorem eqRecord_own {B B' : Nat} (w : World) (v1 v2 u1 u2 : Value) (is : List I3) (gs : List G3) (o : ByteArray) (h : RecOwn B w v1 v2 is gs) (h' : RecOwn B' w u1 u2 is gs) (h1 : is.length ≤ 1048576) (h2 : gs.length ≤ 1048576) :
    Calls Tryd.prog 37 #[.agg #[v1, v2, .string o], .agg #[u1, u2, .string o]] w fun e w' => Below w.heap.size w w' ∧ e = .returned (.bool true) := by
  obtain ⟨va, vc, vb, vd, rfl, rfl, r1, r2⟩ := rec_rows h
  obtain ⟨ua, uc, ub, ud, rfl, rfl, s1, s2⟩ := rec_rows h'
  exact eqRecord_same va ua vb ub vc uc vd ud is gs o w r1 s1 r2 s2 h1 h2
theorem RecOwn.below {B : Nat} {w w' : World} {v1 v2 : Value} {is : List I3} {gs : List G3} (h : RecOwn B w v1 v2 is gs) (hb : Below w.heap.size w w') : RecOwn B w' v1 v2 is gs := by
  obtain ⟨xs, ys, h1, h2, h3, h4⟩ := h
  exact ⟨xs, ys, ownsRow_below h1 hb, h2, ownsRow_below h3 hb, h4⟩
theorem RecOwn.base {B B' : Nat} {w : World} {v1 v2 : Value} {is : List I3} {gs : List G3} (h : RecOwn B w v1 v2 is gs) (hB : B' ≤ B) : RecOwn B' w v1 v2 is gs := by
  obtain ⟨xs, ys, h1, h2, h3, h4⟩ := h
  exact ⟨xs, ys, own_base h1 hB, h2, own_base h3 hB, h4⟩
theorem RecOwn.sl {B : Nat} {w : World} {v1 v2 : Value} {is : List I3} {gs : List G3} (h : RecOwn B w v1 v2 is gs) : ∃ va vc vb vd, v1 = .slice va is.length vc ∧ v2 = .slice vb gs.length vd := by
  obtain ⟨va, vc, vb, vd, e1, e2, _⟩ := rec_rows h
  exact ⟨va, vc, vb, vd, e1, e2⟩
/-- Where the law stands behind 'w0 := spec.Note(..)'. -/
structure NW (H : Nat) (w wx : World) (P0 : Nat) (a ca : Value) (c : Int) (t : ByteArray) (v1 v2 : Value) (o : ByteArray) : Prop where
  bel : Below H w wx
  bs : AllB wx [(H, #[a], 54), (H + 1, #[.int .i64 c, .string t, ca], 68), (P0, #[v1, v2, .string o], 73)]

theorem new_below {w w' : World} {cs : Array Value} {T : Nat} (hb : Below (w.alloc (.cells cs T)).heap.size (w.alloc (.cells cs T)) w') : w'.heap[w.heap.size]? = some (.cells cs T (0, 0)) := by rw [hb.block _ (by simp)]; exact heapN_new _ _
theorem new_belowD {w w' : World} {cs : Array Value} {T : Nat} (hb : Below (w.alloc (.cells cs T)).drew.heap.size (w.alloc (.cells cs T)).drew w') : w'.heap[w.heap.size]? = some (.cells cs T (0, 0)) := by rw [hb.block _ (by simp)]; exact heapN_new _ _
theorem blk_b {w w' : World} {b : Nat} {o : Obj} (hb : Below w.heap.size w w') (h : w.heap[b]? = some o) : w'.heap[b]? = some o := by rw [hb.block b (blkN_lt h)]; exact h
theorem box_set {w : World} {b T : Nat} {x y z : Value} (h : w.heap[b]? = some (.cells #[x, y, z] T (0, 0))) (x' y' z' : Value) : (((w.setCell ⟨b, 0, none⟩ x').setCell ⟨b, 1, none⟩ y').setCell ⟨b, 2, none⟩ z').heap[b]? = some (.cells #[x', y', z'] T (0, 0)) := by
  have h1 : (w.setCell ⟨b, 0, none⟩ x').heap[b]? = some (.cells #[x', y, z] T (0, 0)) := by rw [Joins.block_setCell h]; rfl
  have h2 : ((w.setCell ⟨b, 0, none⟩ x').setCell ⟨b, 1, none⟩ y').heap[b]? = some (.cells #[x', y', z] T (0, 0)) := by rw [Joins.block_setCell h1]; rfl
  rw [Joins.block_setCell h2]; rfl
theorem keep_set3 (w : World) (b : Nat) (x' y' z' : Value) : KeepO (some b) w (((w.setCell ⟨b, 0, none⟩ x').setCell ⟨b, 1, none⟩ y').setCell ⟨b, 2, none⟩ z') := fun k _ hne => by
  have hk : k ≠ b := fun e => hne (by rw [e])
  rw [Below.heap_setCell _ ⟨b, 2, none⟩ _ k hk, Below.heap_setCell _ ⟨b, 1, none⟩ _ k hk, Below.heap_setCell _ ⟨b, 0, none⟩ _ k hk]
theorem RecOwn.keepB {B b : Nat} {w w' : World} {v1 v2 : Value} {is : List I3} {gs : List G3} {cs : Array Value} {T : Nat} (h : RecOwn B w v1 v2 is gs) (hb : w.heap[b]? = some (.cells cs T (0, 0))) (h1 : T ≠ 171) (h2 : T ≠ 133) (hk : KeepO (some b) w w') : RecOwn B w' v1 v2 is gs := by
  obtain ⟨xs, ys, k1, k2, k3, k4⟩ := h
  exact ⟨xs, ys, own_keep k1 hk (fun c hc e => cells_neT h1 hb k1 (by rw [hc, e])), k2, own_keep k3 hk (fun c hc e => cells_neT h2 hb k3 (by rw [hc, e])), k4⟩
theorem AllB.keepB {b : Nat} {w w' : World} (hk : KeepO (some b) w w') : ∀ {l : List (Nat × Array Value × Nat)}, AllB w l → (l.all fun p => p.1 != b) = true → AllB w' l
  | [], _, _ => trivial
  | (c, cs, T) :: l, h, ht => by
    rw [List.all_cons, Bool.and_eq_true] at ht
    exact ⟨by rw [hk c (blkN_lt h.1) (fun e => by simp at ht; exact ht.1 (Option.some.inj e))]; exact h.1, AllB.keepB hk h.2 ht.2⟩
theorem put_new (w : World) (v1 v2 : Value) (o : ByteArray) {p q : Nat × Array Value × Nat} (h : AllB w [p, q]) : AllB (w.alloc (.cells #[v1, v2, .string o] 73)) [p, q, (w.heap.size, #[v1, v2, .string o], 73)] := by
  have h2 := AllB.below ((Below.refl w.heap.size w).alloc (Nat.le_refl _) (.cells #[v1, v2, .string o] 73)) h
  exact ⟨h2.1, h2.2.1, heapN_new _ _, trivial⟩
theorem put_old {w : World} {b : Nat} {x y z : Value} (hz : w.heap[b]? = some (.cells #[x, y, z] 73 (0, 0))) (v1 v2 : Value) (o : ByteArray) {p q : Nat × Array Value × Nat} (h : AllB w [p, q]) (hp : p.1 ≠ b) (hq : q.1 ≠ b) : AllB (((w.setCell ⟨b, 0, none⟩ v1).setCell ⟨b, 1, none⟩ v2).setCell ⟨b, 2, none⟩ (.string o)) [p, q, (b, #[v1, v2, .string o], 73)] := by
  have h2 := AllB.keepB (keep_set3 w b v1 v2 (.string o)) h (by simp [hp, hq])
  exact ⟨h2.1, h2.2.1, box_set hz _ _ _, trivial⟩
theorem below_set3 {B b : Nat} {w w' : World} (h : Below B w w') (hb : B ≤ b) (v1 v2 v3 : Value) : Below B w (((w'.setCell ⟨b, 0, none⟩ v1).setCell ⟨b, 1, none⟩ v2).setCell ⟨b, 2, none⟩ v3) := ((h.setCell (p := ⟨b, 0, none⟩) hb _).setCell (p := ⟨b, 1, none⟩) hb _).setCell (p := ⟨b, 2, none⟩) hb _

theorem AllB.keepT {w w' : World} {B e sz n B' e' sz' n' : Nat} {v v' : Value} {xs xs' : List Value} (ho : w.ownsRow B e sz v n xs) (ho' : w.ownsRow B' e' sz' v' n' xs') (hk : KeepT v.ownBlock v'.ownBlock w w') : ∀ {l : List (Nat × Array Value × Nat)}, AllB w l → AllT e l = true → AllT e' l = true → AllB w' l
  | [], _, _, _ => trivial
  | (b, cs, T) :: l, h, ht, ht' => by
    unfold AllT at ht ht'
    rw [List.all_cons, Bool.and_eq_true] at ht ht'
    exact ⟨by rw [hk b (blkN_lt h.1) (cells_neT (by simpa using ht.1) h.1 ho) (cells_neT (by simpa using ht'.1) h.1 ho')]; exact h.1, AllB.keepT ho ho' hk h.2 ht.2 ht'.2⟩
theorem own_keepT {w w' : World} {B e sz n : Nat} {v u u' : Value} {xs : List Value} (h : w.ownsRow B e sz v n xs) (hk : KeepT u.ownBlock u'.ownBlock w w') (h1 : Apart v u) (h2 : Apart v u') : w'.ownsRow B e sz v n xs := by
  refine ⟨h.1, ?_⟩
  rcases h.2 with h2' | ⟨g, cap, cur, hv, hg, hh, r⟩
  · exact Or.inl h2'
  · refine Or.inr ⟨g, cap, cur, hv, hg, ?_, r⟩
    subst hv
    rw [hk g (h.lt g rfl).2 (h1 g rfl) (h2 g rfl)]; exact hh

set_option maxRecDepth 100000 in
set_option maxHeartbeats 8000000 in
theorem noteLaw (a la ca : Option Addr) (ac lc cc : Nat) (is : List I3) (ls : List G3) (ss : List ByteArray) (c : Int) (t : ByteArray) (n : Int) (w : World) (hT : Tab w) (hr : Row3 w a is) (hil : is.length ≤ maxLen) (hix : ∀ i, (ix is i).text.size ≤ maxLen) (hlr : RowG w la ls) (hll : ls.length ≤ maxLen) (hln : ∀ i, (gx ls i).name.size ≤ maxLen) (hlm : ∀ i, (gx ls i).sum.size ≤ maxLen) (ht : t.size ≤ maxLen) (hs : Strs w ca ss) (hsl : ss.length ≤ maxLen) (hss : ∀ s ∈ ss, s.size ≤ maxLen) :
    Calls Tryd.prog 8 #[.agg #[.slice a is.length ac], .slice la ls.length lc, .agg #[.int .i64 c, .string t, .slice ca ss.length cc], .int .i64 n] w fun e w' => e = .returned (.bool true) ∧ Below w.heap.size w w' := by
  have hb0 : Below w.heap.size w ((w.alloc (.cells #[.slice a is.length ac] 54)).alloc (.cells #[.int .i64 c, .string t, .slice ca ss.length cc] 68)) := ((Below.refl _ _).alloc (Nat.le_refl _) _).alloc (by simp) _
  have HB0 : Hid (AllB ((w.alloc (.cells #[.slice a is.length ac] 54)).alloc (.cells #[.int .i64 c, .string t, .slice ca ss.length cc] 68)) [(w.heap.size, #[.slice a is.length ac], 54), (w.heap.size + 1, #[.int .i64 c, .string t, .slice ca ss.length cc], 68)]) := ⟨by rw [Lib.alloc_old _ _ _ (by simp)]; exact heapN_new _ _, by
    have h := heapN_new (w.alloc (.cells #[.slice a is.length ac] 54)) (.cells #[.int .i64 c, .string t, .slice ca ss.length cc] 68)
    rw [show (w.alloc (.cells #[.slice a is.length ac] 54)).heap.size = w.heap.size + 1 from by simp] at h
    exact h, trivial⟩
  have hmx : (maxLen : Nat) ≤ 9223372036854775807 := by unfold maxLen; omega
  have hix2 : ∀ i, (ix is i).text.size ≤ 9223372036854775807 := fun i => Nat.le_trans (hix i) hmx
  have hln2 : ∀ i, (gx ls i).name.size ≤ 9223372036854775807 := fun i => Nat.le_trans (hln i) hmx
  go_enter Tryd.func8, Tryd.ntmps8
  go_wp2_with fail
  refine (szProgram_left a ac is _ _ (by omega) (by omega) (hr.below hb0) hil hix).mono ?_
  rintro e w1 ⟨hb1, r1, rfl, hr1⟩
  have hB1 := bt hb0 hb1
  have HB1 : Hid _ := AllB.below hb1 HB0.out
  clear hb0 hb1 HB0
  rcases hr1 with hr1 | ⟨hil2, hr0, hr1⟩
  · go_wp2
    go_ret
    exact ⟨rfl, hB1⟩
  have hr0d : decide (r1 < 0) = false := by simp; omega
  go_wp2_with fail
  refine (szSeenS_any la lc ls r1 _ hr0 hr1 (hlr.below hB1) hll hln hlm).mono ?_
  rintro e w2 ⟨hb2, r2, rfl, hr2⟩
  have hB2 := bt hB1 hb2
  have HB2 : Hid _ := AllB.below hb2 HB1.out
  clear hb2 hB1 HB1 hr0d
  rcases hr2 with hr2 | ⟨hll2, hr20, hr21, hlm2⟩
  · go_wp2
    go_ret
    exact ⟨rfl, hB2⟩
  have hr0d : decide (r2 < 0) = false := by simp; omega
  obtain ⟨p0, p1, p2⟩ := b3 HB2.out.2.1
  go_wp2_with fail
  refine (szResult_left r2 hr20 (by omega) c t ca cc ss _ ht (hs.below hB2) hsl hss).mono ?_
  rintro e w3 ⟨hb3, r3, rfl, hr3⟩
  have hB3 := bt hB2 hb3
  have HB3 : Hid _ := AllB.below hb3 HB2.out
  clear hb3 hB2 HB2 hr0d p0 p1 p2
  rcases hr3 with hr3 | ⟨ht2, hsl2, hr30, hr31⟩
  · go_wp2
    go_ret
    exact ⟨rfl, hB3⟩
  have hr0d : decide (r3 < 0) = false := by simp; omega
  obtain ⟨out, hos, HFS, HFI⟩ := form_out c t ss.length ht2 hsl2
  have hisn : is.length ≤ 1048576 := by omega
  have hlsn : ls.length ≤ 1048576 := by omega
  go_wp2_with fail
  clear hr0d
  have hB3s := hB3.size
  have hz3 : w.heap.size + 1 < w3.heap.size := blkN_lt HB3.out.2.1
  obtain ⟨p0, p1, p2⟩ := b3 HB3.out.2.1
  have p3 := b1 HB3.out.1
  go_cut [10] (fun p wx => ∃ P0 v1 v2 is' gs o, p = .pointer (some ⟨P0, 0, none⟩) ∧ Hid (NoteP is ls n out is' gs o) ∧ Hid (AllB wx [(w.heap.size, #[.slice a is.length ac], 54), (w.heap.size + 1, #[.int .i64 c, .string t, .slice ca ss.length cc], 68), (P0, #[v1, v2, .string o], 73)]) ∧ Hid (RecOwn w.heap.size wx v1 v2 is' gs) ∧ Below w.heap.size w wx)
  case first =>
    go_region_held3 (fun w' => w'.cell? ⟨w.heap.size, 0, none⟩ = some (.slice a is.length ac) ∧ w'.cell? ⟨w.heap.size + 1, 0, none⟩ = some (.int .i64 c) ∧ w'.cell? ⟨w.heap.size + 1, 1, none⟩ = some (.string t) ∧ w'.cell? ⟨w.heap.size + 1, 2, none⟩ = some (.slice ca ss.length cc))
      (first | exact ⟨p3, p0, p1, p2⟩ | (refine ⟨?_, ?_, ?_, ?_⟩ <;> (rw [World.cell?_setCell_far _ _ _ _ (by simp; omega), World.cell?_setCell_far _ _ _ _ (by simp; omega), World.cell?_setCell_far _ _ _ _ (by simp; omega)]; assumption)) | (go_split_ands; with_reducible (refine ⟨cellA ?_, cellA ?_, cellA ?_, cellA ?_⟩ <;> assumption)) | (go_split_ands; with_reducible (refine ⟨cell_below hb7 ?_, cell_below hb7 ?_, cell_below hb7 ?_, cell_below hb7 ?_⟩ <;> assumption)) | (go_split_ands; with_reducible (refine ⟨cell_below hb6 ?_, cell_below hb6 ?_, cell_below hb6 ?_, cell_below hb6 ?_⟩ <;> assumption)) | (go_split_ands; with_reducible (refine ⟨cell_below hb5 ?_, cell_below hb5 ?_, cell_below hb5 ?_, cell_below hb5 ?_⟩ <;> assumption)) | (go_split_ands; with_reducible (refine ⟨cell_below hb4 ?_, cell_below hb4 ?_, cell_below hb4 ?_, cell_below hb4 ?_⟩ <;> assumption)) | exact ⟨cellA p3, cellA p0, cellA p1, cellA p2⟩)
      (first | (go_at_call 25; refine (toProgram_any a ac is _ (hr.below (by first | with_reducible exact hB3.drew | exact hB3.drew.alloc (by simpa using hB3.size) _)) hisn).mono ?_; rintro e w4 ⟨hb4, g4, rfl, hr4⟩; have hB4 : Below w.heap.size w w4 := (by first | with_reducible exact bt hB3.drew hb4 | exact bt (hB3.drew.alloc (by simpa using hB3.size) _) hb4); have hb4w : Below w3.heap.size w3 w4 := (by first | with_reducible exact bt ((Below.refl _ _).drew) hb4 | exact bt ((Below.refl _ _).drew.alloc (by simp) _) hb4); have hz4 := hb4.size; (try simp at hz4); first | have z4 : w4.heap[w3.heap.size]? = _ := new_below hb4 | have z4 := new_belowD hb4 | skip) | (go_at_call 34; refine (toSeenS_any la lc ls _ (hlr.below (by first | with_reducible exact hB4 | exact hB4.alloc hB4.size _)) hlsn).mono ?_; rintro e w5 ⟨hb5, g5, rfl, _, _, hr5⟩; have hb5w : Below w4.heap.size w4 w5 := (by first | with_reducible exact hb5 | exact bt ((Below.refl _ _).alloc (Nat.le_refl _) _) hb5); have hz5 := hb5.size; (try simp at hz5); first | have z5 := new_below hb5 | have z5 := blk_b hb5 z4 | skip) | (go_at_call 35; refine (toResult_own c t ca cc ss _ (hs.below (by first | with_reducible exact bt hB4 hb5w | exact (bt hB4 hb5w).alloc (bt hB4 hb5w).size _)) hsl2).mono ?_; rintro e w6 ⟨hb6, g6, rfl, _⟩; have hb6w : Below w5.heap.size w5 w6 := (by first | with_reducible exact hb6 | exact bt ((Below.refl _ _).alloc (Nat.le_refl _) _) hb6); have hB6 : Below w.heap.size w w6 := bt (bt hB4 hb5w) hb6w; have hz6 := hb6.size; (try simp at hz6); first | have z6 := new_below hb6 | have z6 := blk_b hb6 z5 | skip) | (go_at_call 33; refine (specNote_any (some ⟨g4, 0, none⟩) (some ⟨g5, 0, none⟩) (some ⟨g6, 0, none⟩) is.length ls.length ss.length is ls c t ss.length n out _ (by first | with_reducible exact (hr4.below hb5w).below hb6w | exact ((hr4.below hb5w).below hb6w).below ((Below.refl _ _).alloc (Nat.le_refl _) _)) (by first | with_reducible exact hr5.below hb6w | exact (hr5.below hb6w).below ((Below.refl _ _).alloc (Nat.le_refl _) _)) hisn hix2 hlsn HFS hos hlm2 hln2).mono ?_; rintro e w7 ⟨hb7, is2, gs2, o2, hnp2, v1, v2, rfl, hro⟩; have hb7w : Below w6.heap.size w6 w7 := (by first | with_reducible exact hb7 | exact bt ((Below.refl _ _).alloc (Nat.le_refl _) _) hb7); have hB7 : Below w.heap.size w w7 := bt hB6 hb7w; have hz7 := hb7.size; (try simp at hz7); have hb37 : Below w3.heap.size w3 w7 := bt (bt (bt hb4w hb5w) hb6w) hb7w; have s0 := cell_below hb37 p3; have s1 := cell_below hb37 p0; have s2 := cell_below hb37 p1; have s3 := cell_below hb37 p2; obtain ⟨va, vc, vb, vd, rfl, rfl⟩ := hro.sl; have HX7 := AllB.below hb37 HB3.out; have HR7 := hro.base (B' := w.heap.size) (by first | omega | (simp; omega)); first | (have z7 := new_below hb7; obtain ⟨k0, k1, k2⟩ := b3 z7; have kf := (fun j => Lib.frozen_of_heap z7 j)) | (have z7 := blk_b hb7 z6; obtain ⟨k0, k1, k2⟩ := b3 z7; have kf := (fun j => Lib.frozen_of_heap z7 j)) | skip))
    all_goals
      go_wp2_with fail
      go_meet
      first
        | exact ⟨_, _, _, is2, gs2, o2, rfl, hnp2, put_old z7 _ _ _ HX7 (by show _ ≠ _; omega) (by show _ ≠ _; omega), HR7.keepB z7 (by decide) (by decide) (keep_set3 _ _ _ _ _), below_set3 hB7 (by omega) _ _ _⟩
        | exact ⟨_, _, _, is2, gs2, o2, rfl, hnp2, put_new _ _ _ _ HX7, HR7.below ((Below.refl _ _).alloc (Nat.le_refl _) _), hB7.alloc hB7.size _⟩
  case rest =>
    obtain ⟨P0, v1, v2, is2, gs2, o2, rfl, HNP, HX, HR, hBx⟩ := hcut
    clear hB3 HB3 p0 p1 p2 p3 hB3s hz3
    obtain ⟨hi2, hg2⟩ := HNP.out.len
    obtain ⟨va, vc, vb, vd, rfl, rfl⟩ := HR.out.sl
    obtain ⟨xsA, ysA, oA, fA, oB, fB⟩ := HR.out
    have dA1 : ∀ b, (Value.slice va is2.length vc).ownBlock = some b → b < wc.heap.size := fun b hb => (oA.lt b hb).2
    have dA2 : ∀ b, (Value.slice vb gs2.length vd).ownBlock = some b → b < wc.heap.size := fun b hb => (oB.lt b hb).2
    have DA1 : Hid _ := dA1
    have DA2 : Hid _ := dA2
    have RS0 : Hid (AllR wc [⟨w.heap.size, 171, 3, .slice va is2.length vc, is2.length, xsA⟩, ⟨w.heap.size, 133, 3, .slice vb gs2.length vd, gs2.length, ysA⟩]) := ⟨oA, oB, trivial⟩
    have FA : Hid _ := fA
    have FB : Hid _ := fB
    clear oA oB fA fB dA1 dA2 HR
    have hHc : w.heap.size ≤ wc.heap.size := hBx.size
    have p3 := b1 HX.out.1
    go_wp2_with fail
    refine (toProgram_own a ac is _ (hr.below hBx) hisn).mono ?_
    rintro e w1 ⟨hb1, g1, rfl, xs1, ho1, hf1⟩
    have hB1 := bt hBx hb1
    obtain ⟨wA, eA⟩ : ∃ x, w1.alloc (.cells #[.slice (some ⟨g1, 0, none⟩) is.length is.length] 59) = x := ⟨_, rfl⟩
    have hbA : Below w1.heap.size w1 wA := by rw [← eA]; exact (Below.refl _ _).alloc (Nat.le_refl _) _
    have BS1 : Hid (AllB wA [(w1.heap.size, #[.slice (some ⟨g1, 0, none⟩) is.length is.length], 59), (w.heap.size, #[.slice a is.length ac], 54), (w.heap.size + 1, #[.int .i64 c, .string t, .slice ca ss.length cc], 68), (P0, #[.slice va is2.length vc, .slice vb gs2.length vd, .string o2], 73)]) := ⟨by rw [← eA]; exact heapN_new _ _, AllB.below hbA (AllB.below hb1 HX.out)⟩
    have RS1 : Hid (AllR wA [⟨wc.heap.size, 171, 3, .slice (some ⟨g1, 0, none⟩) is.length is.length, is.length, xs1⟩, ⟨w.heap.size, 171, 3, .slice va is2.length vc, is2.length, xsA⟩, ⟨w.heap.size, 133, 3, .slice vb gs2.length vd, gs2.length, ysA⟩]) := ⟨ownsRow_below ho1 hbA, AllR.below hbA (AllR.below hb1 RS0.out)⟩
    have hg1 := ho1.lt g1 rfl
    have F1 : Hid _ := hf1
    have hBA := bt hB1 hbA
    have hs1 : wc.heap.size ≤ wA.heap.size := Nat.le_trans hb1.size hbA.size
    clear hb1 hbA ho1 hf1 hB1 hBx HX RS0 p3
    go_wp2_with fail
    clear eA
    refine (toSeenS_own la lc ls _ (hlr.below hBA) hlsn).mono ?_
    rintro e w2 ⟨hb2, g2, rfl, xs2, ho2, hf2⟩
    have hB2 := bt hBA hb2
    have BS2 : Hid _ := AllB.below hb2 BS1.out
    have RS2 : Hid (AllR w2 [⟨wc.heap.size, 131, 3, .slice (some ⟨g2, 0, none⟩) ls.length ls.length, ls.length, xs2⟩, ⟨wc.heap.size, 171, 3, .slice (some ⟨g1, 0, none⟩) is.length is.length, is.length, xs1⟩, ⟨w.heap.size, 171, 3, .slice va is2.length vc, is2.length, xsA⟩, ⟨w.heap.size, 133, 3, .slice vb gs2.length vd, gs2.length, ysA⟩]) := ⟨own_base ho2 hs1, AllR.below hb2 RS1.out⟩
    have hg2x := ho2.lt g2 rfl
    have F2 : Hid _ := hf2
    have hs2 : wc.heap.size ≤ w2.heap.size := Nat.le_trans hs1 hb2.size
    clear hb2 hBA BS1 RS1 ho2 hf2
    obtain ⟨p0, p1, p2⟩ := b3 BS2.out.2.2.1
    go_wp2_with fail
    refine (toResult_own c t ca cc ss _ (hs.below hB2) hsl2).mono ?_
    rintro e w3 ⟨hb3, g3, rfl, ho3⟩
    have hB3 := bt hB2 hb3
    obtain ⟨wC, eC⟩ : ∃ x, w3.alloc (.cells #[.int .i64 c, .string t, .slice (some ⟨g3, 0, none⟩) ss.length ss.length] 77) = x := ⟨_, rfl⟩
    have hbC : Below w3.heap.size w3 wC := by rw [← eC]; exact (Below.refl _ _).alloc (Nat.le_refl _) _
    have BS3 : Hid (AllB wC [(w3.heap.size, #[.int .i64 c, .string t, .slice (some ⟨g3, 0, none⟩) ss.length ss.length], 77), (w1.heap.size, #[.slice (some ⟨g1, 0, none⟩) is.length is.length], 59), (w.heap.size, #[.slice a is.length ac], 54), (w.heap.size + 1, #[.int .i64 c, .string t, .slice ca ss.length cc], 68), (P0, #[.slice va is2.length vc, .slice vb gs2.length vd, .string o2], 73)]) := ⟨by rw [← eC]; exact heapN_new _ _, AllB.below hbC (AllB.below hb3 BS2.out)⟩
    have RS3 : Hid (AllR wC [⟨wc.heap.size, 9, 1, .slice (some ⟨g3, 0, none⟩) ss.length ss.length, ss.length, filled ss ss.length ss.length⟩, ⟨wc.heap.size, 131, 3, .slice (some ⟨g2, 0, none⟩) ls.length ls.length, ls.length, xs2⟩, ⟨wc.heap.size, 171, 3, .slice (some ⟨g1, 0, none⟩) is.length is.length, is.length, xs1⟩, ⟨w.heap.size, 171, 3, .slice va is2.length vc, is2.length, xsA⟩, ⟨w.heap.size, 133, 3, .slice vb gs2.length vd, gs2.length, ysA⟩]) := ⟨ownsRow_below (own_base ho3 hs2) hbC, AllR.below hbC (AllR.below hb3 RS2.out)⟩
    have hg3 := ho3.lt g3 rfl
    have hBC := bt hB3 hbC
    have hs3 : w2.heap.size ≤ w3.heap.size := hb3.size
    have hsC : w3.heap.size ≤ wC.heap.size := hbC.size
    have hgC1 : g1 < wC.heap.size := (RS3.out.2.2.1.lt g1 rfl).2
    have hgC2 : g2 < wC.heap.size := (RS3.out.2.1.lt g2 rfl).2
    have hgC3 : g3 < wC.heap.size := (RS3.out.1.lt g3 rfl).2
    have hgD1 : wc.heap.size ≤ g1 := (RS3.out.2.2.1.lt g1 rfl).1
    have hgD2 : wc.heap.size ≤ g2 := (RS3.out.2.1.lt g2 rfl).1
    have hgD3 : wc.heap.size ≤ g3 := (RS3.out.1.lt g3 rfl).1
    clear hb3 hbC ho3 hB3 hB2 BS2 RS2 p0 p1 p2
    obtain ⟨p0, p1, p2⟩ := b3 BS3.out.1
    have p3 := b1 BS3.out.2.1
    go_wp2_with fail
    clear eC
    have hx1 : Row3 wC (some ⟨g1, 0, none⟩) is := row3_own rfl RS3.out.2.2.1 F1.out
    have hx2 : RowG wC (some ⟨g2, 0, none⟩) ls := rowG_own rfl RS3.out.2.1 F2.out
    refine (implNote_any (some ⟨g1, 0, none⟩) (some ⟨g2, 0, none⟩) (some ⟨g3, 0, none⟩) is.length ls.length ss.length is ls c t ss.length n out _ (hT.below hBC) hx1 hx2 hisn hix2 hlsn HFI hos hlm2 hln2).mono ?_
    rintro e w4 ⟨hb4, is3, gs3, o3, hnp3, u1, u2, rfl, hro⟩
    obtain ⟨rfl, rfl, rfl⟩ := HNP.out.uniq hnp3
    obtain ⟨ua, uc, ub, ud, rfl, rfl⟩ := hro.sl
    obtain ⟨xsC, ysC, oC, fC, oD, fD⟩ := hro
    have hB4 := bt hBC hb4
    obtain ⟨wD, eD⟩ : ∃ x, w4.alloc (.cells #[.slice ua is2.length uc, .slice ub gs2.length ud, .string o2] 73) = x := ⟨_, rfl⟩
    have hbD : Below w4.heap.size w4 wD := by rw [← eD]; exact (Below.refl _ _).alloc (Nat.le_refl _) _
    have BS4 : Hid (AllB wD [(w4.heap.size, #[.slice ua is2.length uc, .slice ub gs2.length ud, .string o2], 73), (w3.heap.size, #[.int .i64 c, .string t, .slice (some ⟨g3, 0, none⟩) ss.length ss.length], 77), (w1.heap.size, #[.slice (some ⟨g1, 0, none⟩) is.length is.length], 59), (w.heap.size, #[.slice a is.length ac], 54), (w.heap.size + 1, #[.int .i64 c, .string t, .slice ca ss.length cc], 68), (P0, #[.slice va is2.length vc, .slice vb gs2.length vd, .string o2], 73)]) := ⟨by rw [← eD]; exact heapN_new _ _, AllB.below hbD (AllB.below hb4 BS3.out)⟩
    have RS4 : Hid (AllR wD [⟨wC.heap.size, 171, 3, .slice ua is2.length uc, is2.length, xsC⟩, ⟨wC.heap.size, 133, 3, .slice ub gs2.length ud, gs2.length, ysC⟩, ⟨wc.heap.size, 9, 1, .slice (some ⟨g3, 0, none⟩) ss.length ss.length, ss.length, filled ss ss.length ss.length⟩, ⟨wc.heap.size, 131, 3, .slice (some ⟨g2, 0, none⟩) ls.length ls.length, ls.length, xs2⟩, ⟨wc.heap.size, 171, 3, .slice (some ⟨g1, 0, none⟩) is.length is.length, is.length, xs1⟩, ⟨w.heap.size, 171, 3, .slice va is2.length vc, is2.length, xsA⟩, ⟨w.heap.size, 133, 3, .slice vb gs2.length vd, gs2.length, ysA⟩]) := ⟨ownsRow_below oC hbD, ownsRow_below oD hbD, AllR.below hbD (AllR.below hb4 RS3.out)⟩
    have DC1 : Hid (∀ b, (Value.slice ua is2.length uc).ownBlock = some b → wC.heap.size ≤ b) := fun b hb => (oC.lt b hb).1
    have DC2 : Hid (∀ b, (Value.slice ub gs2.length ud).ownBlock = some b → wC.heap.size ≤ b) := fun b hb => (oD.lt b hb).1
    have FC : Hid _ := fC
    have FD : Hid _ := fD
    have hBD := bt hB4 hbD
    have hs4 : wC.heap.size ≤ w4.heap.size := hb4.size
    clear hb4 hbD hB4 hBC BS3 RS3 oC oD fC fD hnp3 hx1 hx2 p0 p1 p2 p3
    obtain ⟨p0, p1, p2⟩ := b3 BS4.out.1
    obtain ⟨q0, q1, q2⟩ := b3 BS4.out.2.2.2.2.2.1
    go_wp2_with fail
    clear eD
    refine (eqRecord_own (B := wC.heap.size) (B' := w.heap.size) _ _ _ _ _ is2 gs2 o2 ⟨xsC, ysC, RS4.out.1, FC.out, RS4.out.2.1, FD.out⟩ ⟨xsA, ysA, RS4.out.2.2.2.2.2.1, FA.out, RS4.out.2.2.2.2.2.2.1, FB.out⟩ (by omega) (by omega)).mono ?_
    rintro e w5 ⟨hb5, rfl⟩
    have hB5 := bt hBD hb5
    have BS5 : Hid _ := AllB.below hb5 BS4.out
    have RS5 : Hid _ := AllR.below hb5 RS4.out
    clear hb5 hBD BS4 RS4
    clear p0 p1 p2 q0 q1 q2
    have p3 := b1 BS5.out.2.2.1
    have q3 := b1 BS5.out.2.2.2.1
    have hx1 : Row3 w5 (some ⟨g1, 0, none⟩) is := row3_own rfl RS5.out.2.2.2.2.1 F1.out
    have hbd5 : Below w5.heap.size w5 w5.drew := (Below.refl _ _).drew
    go_wp2_with fail
    go_region_held3 (fun w' => w'.cell? ⟨w1.heap.size, 0, none⟩ = some (.slice (some ⟨g1, 0, none⟩) is.length is.length) ∧ w'.cell? ⟨w.heap.size, 0, none⟩ = some (.slice a is.length ac))
      (first | exact ⟨p3, q3⟩ | (with_reducible exact ⟨cell_below hb7 r0, cell_below hb7 s0⟩) | exact ⟨r0, s0⟩)
      (first | (go_at_call 25; refine (toProgram_any a ac is _ (hr.below hB5.drew) hisn).mono ?_; rintro e w6 ⟨hb6, g6, rfl, hr6⟩; have r0 := cell_below (bt hbd5 hb6) p3; have s0 := cell_below (bt hbd5 hb6) q3) | (go_at_call 27; refine (eqProgram_same _ _ _ _ is _ ((hx1.below hbd5).below hb6) hr6 hisn).mono ?_; rintro e w7 ⟨hb7, rfl⟩))
    have hb57 : Below w5.heap.size w5 w7 := bt (bt hbd5 hb6) hb7
    have hB7 := bt hB5 hb57
    have BS7 : Hid _ := AllB.below hb57 BS5.out
    have RS7 : Hid _ := AllR.below hb57 RS5.out
    clear hb57 hB5 BS5 RS5
    clear hb6 hb7 hr6 hx1 p3 q3 hbd5 r0 s0
    go_wp2_with fail
    refine (toSeenS_any la lc ls _ (hlr.below hB7) hlsn).mono ?_
    rintro e w8 ⟨hb8, g8, rfl, _, _, hr8⟩
    have hB8 := bt hB7 hb8
    have BS8 : Hid _ := AllB.below hb8 BS7.out
    have RS8 : Hid _ := AllR.below hb8 RS7.out
    clear hb8 hB7 BS7 RS7
    have hx2 : RowG w8 (some ⟨g2, 0, none⟩) ls := rowG_own rfl RS8.out.2.2.2.1 F2.out
    go_wp2_with fail
    refine (eqSeenS_same _ _ _ _ ls _ hx2 hr8 hlsn).mono ?_
    rintro e w9 ⟨hb9, rfl⟩
    have hB9 := bt hB8 hb9
    have BS9 : Hid _ := AllB.below hb9 BS8.out
    have RS9 : Hid _ := AllR.below hb9 RS8.out
    clear hb9 hB8 BS8 RS8
    clear hr8 hx2
    obtain ⟨p0, p1, p2⟩ := b3 BS9.out.2.1
    obtain ⟨q0, q1, q2⟩ := b3 BS9.out.2.2.2.2.1
    have hx3 : Strs w9 (some ⟨g3, 0, none⟩) ss := ownsRow_strs RS9.out.2.2.1
    have hbd9 : Below w9.heap.size w9 w9.drew := (Below.refl _ _).drew
    go_wp2_with fail
    go_region_held3 (fun w' => (w'.cell? ⟨w3.heap.size, 0, none⟩ = some (.int .i64 c) ∧ w'.cell? ⟨w3.heap.size, 1, none⟩ = some (.string t) ∧ w'.cell? ⟨w3.heap.size, 2, none⟩ = some (.slice (some ⟨g3, 0, none⟩) ss.length ss.length)) ∧ w'.cell? ⟨w.heap.size + 1, 0, none⟩ = some (.int .i64 c) ∧ w'.cell? ⟨w.heap.size + 1, 1, none⟩ = some (.string t) ∧ w'.cell? ⟨w.heap.size + 1, 2, none⟩ = some (.slice ca ss.length cc))
      (first | exact ⟨⟨p0, p1, p2⟩, q0, q1, q2⟩ | (with_reducible exact ⟨⟨cell_below hb11 r0, cell_below hb11 r1, cell_below hb11 r2⟩, cell_below hb11 s0, cell_below hb11 s1, cell_below hb11 s2⟩) | exact ⟨⟨r0, r1, r2⟩, s0, s1, s2⟩)
      (first | (go_at_call 35; refine (toResult_own c t ca cc ss _ (hs.below hB9.drew) hsl2).mono ?_; rintro e w10 ⟨hb10, g10, rfl, ho10⟩; have r0 := cell_below (bt hbd9 hb10) p0; have r1 := cell_below (bt hbd9 hb10) p1; have r2 := cell_below (bt hbd9 hb10) p2; have s0 := cell_below (bt hbd9 hb10) q0; have s1 := cell_below (bt hbd9 hb10) q1; have s2 := cell_below (bt hbd9 hb10) q2) | (go_at_call 39; refine (eqResult_same c t _ _ _ _ ss _ ((hx3.below hbd9).below hb10) (ownsRow_strs ho10) hsl2).mono ?_; rintro e w11 ⟨hb11, rfl⟩))
    have hb911 : Below w9.heap.size w9 w11 := bt (bt hbd9 hb10) hb11
    have hB11 := bt hB9 hb911
    have BS11 : Hid _ := AllB.below hb911 BS9.out
    have RS11 : Hid _ := AllR.below hb911 RS9.out
    clear hb911 hB9 BS9 RS9
    clear hb10 hb11 ho10 hx3 p0 p1 p2 q0 q1 q2 hbd9 r0 r1 r2 s0 s1 s2
    have p3 := b1 BS11.out.2.2.1
    have sG : ∀ (g n cp : Nat), g < wC.heap.size → ∀ b, (Value.slice (some ⟨g, 0, none⟩) n cp).ownBlock = some b → b < wC.heap.size := fun g n cp h b hb => by cases hb; exact h
    have sL : ∀ (g n cp : Nat), wc.heap.size ≤ g → ∀ b, (Value.slice (some ⟨g, 0, none⟩) n cp).ownBlock = some b → wc.heap.size ≤ b := fun g n cp h b hb => by cases hb; exact h
    have SG : Hid _ := sG
    have SL : Hid _ := sL
    have hcC : wc.heap.size ≤ wC.heap.size := by omega
    clear sG sL
    go_wp2_with fail
    refine (markProgram_own wc.heap.size is.length 1 _ xs1 _ RS11.out.2.2.2.2.1 (by have := (RS11.out.2.2.2.2.1.lt g1 rfl).2; omega) hisn (by omega) (by omega)).mono ?_
    rintro e w12 ⟨rfl, hb12, hk12, _⟩
    have hB12 : Below w.heap.size w w12 := hB11.trans (hb12.mono hHc)
    have BS12 : Hid _ := AllB.keep RS11.out.2.2.2.2.1 hk12 BS11.out rfl
    have RS12 : Hid (AllR w12 [⟨wC.heap.size, 171, 3, .slice ua is2.length uc, is2.length, xsC⟩, ⟨wC.heap.size, 133, 3, .slice ub gs2.length ud, gs2.length, ysC⟩, ⟨wc.heap.size, 9, 1, .slice (some ⟨g3, 0, none⟩) ss.length ss.length, ss.length, filled ss ss.length ss.length⟩, ⟨wc.heap.size, 131, 3, .slice (some ⟨g2, 0, none⟩) ls.length ls.length, ls.length, xs2⟩, ⟨w.heap.size, 171, 3, .slice va is2.length vc, is2.length, xsA⟩, ⟨w.heap.size, 133, 3, .slice vb gs2.length vd, gs2.length, ysA⟩]) := AllR.keep hk12 (⟨RS11.out.1, RS11.out.2.1, RS11.out.2.2.1, RS11.out.2.2.2.1, RS11.out.2.2.2.2.2.1, RS11.out.2.2.2.2.2.2.1, trivial⟩ : AllR w11 [⟨wC.heap.size, 171, 3, .slice ua is2.length uc, is2.length, xsC⟩, ⟨wC.heap.size, 133, 3, .slice ub gs2.length ud, gs2.length, ysC⟩, ⟨wc.heap.size, 9, 1, .slice (some ⟨g3, 0, none⟩) ss.length ss.length, ss.length, filled ss ss.length ss.length⟩, ⟨wc.heap.size, 131, 3, .slice (some ⟨g2, 0, none⟩) ls.length ls.length, ls.length, xs2⟩, ⟨w.heap.size, 171, 3, .slice va is2.length vc, is2.length, xsA⟩, ⟨w.heap.size, 133, 3, .slice vb gs2.length vd, gs2.length, ysA⟩]) ⟨apart_gt DC1.out (SG.out g1 _ _ hgC1), apart_gt DC2.out (SG.out g1 _ _ hgC1), own_ne RS11.out.2.2.1 RS11.out.2.2.2.2.1 (by dsimp only; decide), own_ne RS11.out.2.2.2.1 RS11.out.2.2.2.2.1 (by dsimp only; decide), apart_lt DA1.out (SL.out g1 _ _ hgD1), apart_lt DA2.out (SL.out g1 _ _ hgD1), trivial⟩
    clear hb12 hk12 hB11 BS11 RS11 p3
    go_wp2_with fail
    refine (markSeenS_own wc.heap.size ls.length (1 + 3 * is.length) _ xs2 _ RS12.out.2.2.2.1 (by have := (RS12.out.2.2.2.1.lt g2 rfl).2; omega) hlsn (by omega) (by omega)).mono ?_
    rintro e w13 ⟨rfl, hb13, hk13, _⟩
    have hB13 : Below w.heap.size w w13 := hB12.trans (hb13.mono hHc)
    have BS13 : Hid _ := AllB.keep RS12.out.2.2.2.1 hk13 BS12.out rfl
    have RS13 : Hid (AllR w13 [⟨wC.heap.size, 171, 3, .slice ua is2.length uc, is2.length, xsC⟩, ⟨wC.heap.size, 133, 3, .slice ub gs2.length ud, gs2.length, ysC⟩, ⟨wc.heap.size, 9, 1, .slice (some ⟨g3, 0, none⟩) ss.length ss.length, ss.length, filled ss ss.length ss.length⟩, ⟨w.heap.size, 171, 3, .slice va is2.length vc, is2.length, xsA⟩, ⟨w.heap.size, 133, 3, .slice vb gs2.length vd, gs2.length, ysA⟩]) := AllR.keep hk13 (⟨RS12.out.1, RS12.out.2.1, RS12.out.2.2.1, RS12.out.2.2.2.2.1, RS12.out.2.2.2.2.2.1, trivial⟩ : AllR w12 [⟨wC.heap.size, 171, 3, .slice ua is2.length uc, is2.length, xsC⟩, ⟨wC.heap.size, 133, 3, .slice ub gs2.length ud, gs2.length, ysC⟩, ⟨wc.heap.size, 9, 1, .slice (some ⟨g3, 0, none⟩) ss.length ss.length, ss.length, filled ss ss.length ss.length⟩, ⟨w.heap.size, 171, 3, .slice va is2.length vc, is2.length, xsA⟩, ⟨w.heap.size, 133, 3, .slice vb gs2.length vd, gs2.length, ysA⟩]) ⟨apart_gt DC1.out (SG.out g2 _ _ hgC2), apart_gt DC2.out (SG.out g2 _ _ hgC2), own_ne RS12.out.2.2.1 RS12.out.2.2.2.1 (by dsimp only; decide), apart_lt DA1.out (SL.out g2 _ _ hgD2), apart_lt DA2.out (SL.out g2 _ _ hgD2), trivial⟩
    clear hb13 hk13 hB12 BS12 RS12
    obtain ⟨p0, p1, p2⟩ := b3 BS13.out.2.1
    go_wp2_with fail
    refine (markResult_own wc.heap.size ss.length (1 + 3 * is.length + 3 * ls.length) c t _ _ _ RS13.out.2.2.1 (by have := (RS13.out.2.2.1.lt g3 rfl).2; omega) hsl2 (by omega) (by omega)).mono ?_
    rintro e w14 ⟨rfl, hb14, hk14⟩
    have hB14 : Below w.heap.size w w14 := hB13.trans (hb14.mono hHc)
    have BS14 : Hid _ := AllB.keep RS13.out.2.2.1 hk14 BS13.out rfl
    have RS14 : Hid (AllR w14 [⟨wC.heap.size, 171, 3, .slice ua is2.length uc, is2.length, xsC⟩, ⟨wC.heap.size, 133, 3, .slice ub gs2.length ud, gs2.length, ysC⟩, ⟨w.heap.size, 171, 3, .slice va is2.length vc, is2.length, xsA⟩, ⟨w.heap.size, 133, 3, .slice vb gs2.length vd, gs2.length, ysA⟩]) := AllR.keep hk14 (⟨RS13.out.1, RS13.out.2.1, RS13.out.2.2.2.1, RS13.out.2.2.2.2.1, trivial⟩ : AllR w13 [⟨wC.heap.size, 171, 3, .slice ua is2.length uc, is2.length, xsC⟩, ⟨wC.heap.size, 133, 3, .slice ub gs2.length ud, gs2.length, ysC⟩, ⟨w.heap.size, 171, 3, .slice va is2.length vc, is2.length, xsA⟩, ⟨w.heap.size, 133, 3, .slice vb gs2.length vd, gs2.length, ysA⟩]) ⟨apart_gt DC1.out (SG.out g3 _ _ hgC3), apart_gt DC2.out (SG.out g3 _ _ hgC3), apart_lt DA1.out (SL.out g3 _ _ hgD3), apart_lt DA2.out (SL.out g3 _ _ hgD3), trivial⟩
    clear hb14 hk14 hB13 BS13 RS13 p0 p1 p2
    have hlt : decide (((1 + 3 * is.length + 3 * ls.length + ss.length : Nat) : Int) < 0) = false := by simp; omega
    obtain ⟨p0, p1, p2⟩ := b3 BS14.out.1
    obtain ⟨q0, q1, q2⟩ := b3 BS14.out.2.2.2.2.2.1
    go_wp2_with fail
    clear hlt
    refine (eqRecord_own (B := wC.heap.size) (B' := w.heap.size) _ _ _ _ _ is2 gs2 o2 ⟨xsC, ysC, RS14.out.1, FC.out, RS14.out.2.1, FD.out⟩ ⟨xsA, ysA, RS14.out.2.2.1, FA.out, RS14.out.2.2.2.1, FB.out⟩ (by omega) (by omega)).mono ?_
    rintro e w15 ⟨hb15, rfl⟩
    have hB15 := bt hB14 hb15
    have BS15 : Hid _ := AllB.below hb15 BS14.out
    have RS15 : Hid _ := AllR.below hb15 RS14.out
    clear hb15 hB14 BS14 RS14
    clear p0 p1 p2 q0 q1 q2
    obtain ⟨p0, p1, p2⟩ := b3 BS15.out.1
    go_wp2_with fail
    refine (markRecord_own wC.heap.size is2.length gs2.length 1 _ _ o2 xsC ysC _ RS15.out.1 RS15.out.2.1 (by have := blkN_lt BS15.out.1; omega) (by omega) (by omega) (by omega) (by omega)).mono ?_
    rintro e w16 ⟨rfl, hb16, hk16, hmr⟩
    have hB16 : Below w.heap.size w w16 := hB15.trans (hb16.mono (by omega))
    have BS16 : Hid _ := AllB.keepT RS15.out.1 RS15.out.2.1 hk16 BS15.out rfl rfl
    have RS16 : Hid (AllR w16 [⟨w.heap.size, 171, 3, .slice va is2.length vc, is2.length, xsA⟩, ⟨w.heap.size, 133, 3, .slice vb gs2.length vd, gs2.length, ysA⟩]) := ⟨own_keepT RS15.out.2.2.1 hk16 (apart_lt DA1.out (fun b hb => Nat.le_trans hcC (DC1.out b hb))) (apart_lt DA1.out (fun b hb => Nat.le_trans hcC (DC2.out b hb))), own_keepT RS15.out.2.2.2.1 hk16 (apart_lt DA2.out (fun b hb => Nat.le_trans hcC (DC1.out b hb))) (apart_lt DA2.out (fun b hb => Nat.le_trans hcC (DC2.out b hb))), trivial⟩
    have HM : Hid (MkRec wC.heap.size 1 w16 (.slice ua is2.length uc) (.slice ub gs2.length ud) is2.length gs2.length) := hmr
    clear hb16 hk16 hmr hB15 BS15 RS15 p0 p1 p2
    obtain ⟨p0, p1, p2⟩ := b3 BS16.out.1
    go_wp2_with fail
    refine (heldRecord_own wC.heap.size is2.length gs2.length 1 _ _ o2 _ HM.out (by omega) (by omega) (by omega) (by omega)).mono ?_
    rintro e w17 ⟨rfl, hb17⟩
    have HM2 : Hid (MkRec wC.heap.size 1 w17 (.slice ua is2.length uc) (.slice ub gs2.length ud) is2.length gs2.length) := MkRec.below HM.out hb17
    have hB17 := bt hB16 hb17
    have BS17 : Hid _ := AllB.below hb17 BS16.out
    have RS17 : Hid _ := AllR.below hb17 RS16.out
    clear hb17 hB16 BS16 RS16
    clear p0 p1 p2 HM
    have hlt : decide (((1 + 3 * is2.length + 3 * gs2.length : Nat) : Int) < 0) = false := by simp; omega
    obtain ⟨p0, p1, p2⟩ := b3 BS17.out.2.2.2.2.1
    have p3 := b1 BS17.out.2.2.2.1
    have HBZ : Hid (AllB w17 [(w.heap.size, #[.slice a is.length ac], 54), (w.heap.size + 1, #[.int .i64 c, .string t, .slice ca ss.length cc], 68)]) := ⟨BS17.out.2.2.2.1, BS17.out.2.2.2.2.1, trivial⟩
    have hz17 : w.heap.size + 1 < w17.heap.size := blkN_lt BS17.out.2.2.2.2.1
    go_wp2_with fail
    clear hlt
    go_cut [18] (fun p wx => ∃ P1 v1 v2 is' gs o, p = .pointer (some ⟨P1, 0, none⟩) ∧ Hid (NoteP is ls n out is' gs o) ∧ Hid (AllB wx [(w.heap.size, #[.slice a is.length ac], 54), (w.heap.size + 1, #[.int .i64 c, .string t, .slice ca ss.length cc], 68), (P1, #[v1, v2, .string o], 73)]) ∧ Hid (RecOwn w.heap.size wx v1 v2 is' gs) ∧ Below w17.heap.size w17 wx)
    case first =>
      go_region_held3 (fun w' => w'.cell? ⟨w.heap.size, 0, none⟩ = some (.slice a is.length ac) ∧ w'.cell? ⟨w.heap.size + 1, 0, none⟩ = some (.int .i64 c) ∧ w'.cell? ⟨w.heap.size + 1, 1, none⟩ = some (.string t) ∧ w'.cell? ⟨w.heap.size + 1, 2, none⟩ = some (.slice ca ss.length cc))
        (first | exact ⟨p3, p0, p1, p2⟩ | (refine ⟨?_, ?_, ?_, ?_⟩ <;> (rw [World.cell?_setCell_far _ _ _ _ (by simp; omega), World.cell?_setCell_far _ _ _ _ (by simp; omega), World.cell?_setCell_far _ _ _ _ (by simp; omega)]; assumption)) | (go_split_ands; with_reducible (refine ⟨cellA ?_, cellA ?_, cellA ?_, cellA ?_⟩ <;> assumption)) | (go_split_ands; with_reducible (refine ⟨cell_below hb7 ?_, cell_below hb7 ?_, cell_below hb7 ?_, cell_below hb7 ?_⟩ <;> assumption)) | (go_split_ands; with_reducible (refine ⟨cell_below hb6 ?_, cell_below hb6 ?_, cell_below hb6 ?_, cell_below hb6 ?_⟩ <;> assumption)) | (go_split_ands; with_reducible (refine ⟨cell_below hb5 ?_, cell_below hb5 ?_, cell_below hb5 ?_, cell_below hb5 ?_⟩ <;> assumption)) | (go_split_ands; with_reducible (refine ⟨cell_below hb4 ?_, cell_below hb4 ?_, cell_below hb4 ?_, cell_below hb4 ?_⟩ <;> assumption)) | exact ⟨cellA p3, cellA p0, cellA p1, cellA p2⟩)
        (first | (go_at_call 25; refine (toProgram_any a ac is _ (hr.below (by first | with_reducible exact hB17.drew | exact hB17.drew.alloc (by simpa using hB17.size) _)) hisn).mono ?_; rintro e w4 ⟨hb4, g4, rfl, hr4⟩; have hB4 : Below w.heap.size w w4 := (by first | with_reducible exact bt hB17.drew hb4 | exact bt (hB17.drew.alloc (by simpa using hB17.size) _) hb4); have hb4w : Below w17.heap.size w17 w4 := (by first | with_reducible exact bt ((Below.refl _ _).drew) hb4 | exact bt ((Below.refl _ _).drew.alloc (by simp) _) hb4); have hz4 := hb4.size; (try simp at hz4); first | have z4 : w4.heap[w17.heap.size]? = _ := new_below hb4 | have z4 := new_belowD hb4 | skip) | (go_at_call 34; refine (toSeenS_any la lc ls _ (hlr.below (by first | with_reducible exact hB4 | exact hB4.alloc hB4.size _)) hlsn).mono ?_; rintro e w5 ⟨hb5, g5, rfl, _, _, hr5⟩; have hb5w : Below w4.heap.size w4 w5 := (by first | with_reducible exact hb5 | exact bt ((Below.refl _ _).alloc (Nat.le_refl _) _) hb5); have hz5 := hb5.size; (try simp at hz5); first | have z5 := new_below hb5 | have z5 := blk_b hb5 z4 | skip) | (go_at_call 35; refine (toResult_own c t ca cc ss _ (hs.below (by first | with_reducible exact bt hB4 hb5w | exact (bt hB4 hb5w).alloc (bt hB4 hb5w).size _)) hsl2).mono ?_; rintro e w6 ⟨hb6, g6, rfl, _⟩; have hb6w : Below w5.heap.size w5 w6 := (by first | with_reducible exact hb6 | exact bt ((Below.refl _ _).alloc (Nat.le_refl _) _) hb6); have hB6 : Below w.heap.size w w6 := bt (bt hB4 hb5w) hb6w; have hz6 := hb6.size; (try simp at hz6); first | have z6 := new_below hb6 | have z6 := blk_b hb6 z5 | skip) | (go_at_call 36; refine (implNote_any (some ⟨g4, 0, none⟩) (some ⟨g5, 0, none⟩) (some ⟨g6, 0, none⟩) is.length ls.length ss.length is ls c t ss.length n out _ (hT.below (by first | with_reducible exact hB6 | exact hB6.alloc hB6.size _)) (by first | with_reducible exact (hr4.below hb5w).below hb6w | exact ((hr4.below hb5w).below hb6w).below ((Below.refl _ _).alloc (Nat.le_refl _) _)) (by first | with_reducible exact hr5.below hb6w | exact (hr5.below hb6w).below ((Below.refl _ _).alloc (Nat.le_refl _) _)) hisn hix2 hlsn HFI hos hlm2 hln2).mono ?_; rintro e w7 ⟨hb7, is2, gs2, o2, hnp2, v1, v2, rfl, hro⟩; have hb7w : Below w6.heap.size w6 w7 := (by first | with_reducible exact hb7 | exact bt ((Below.refl _ _).alloc (Nat.le_refl _) _) hb7); have hB7 : Below w.heap.size w w7 := bt hB6 hb7w; have hz7 := hb7.size; (try simp at hz7); have hb37 : Below w17.heap.size w17 w7 := bt (bt (bt hb4w hb5w) hb6w) hb7w; have s0 := cell_below hb37 p3; have s1 := cell_below hb37 p0; have s2 := cell_below hb37 p1; have s3 := cell_below hb37 p2; obtain ⟨va, vc, vb, vd, rfl, rfl⟩ := hro.sl; have HX7 := AllB.below hb37 HBZ.out; have HR7 := hro.base (B' := w.heap.size) (by first | omega | (simp; omega)); first | (have z7 := new_below hb7; obtain ⟨k0, k1, k2⟩ := b3 z7; have kf := (fun j => Lib.frozen_of_heap z7 j)) | (have z7 := blk_b hb7 z6; obtain ⟨k0, k1, k2⟩ := b3 z7; have kf := (fun j => Lib.frozen_of_heap z7 j)) | skip))
      all_goals
        go_wp2_with fail
        go_meet
        first
          | exact ⟨_, _, _, is2, gs2, o2, rfl, hnp2, put_old z7 _ _ _ HX7 (by show _ ≠ _; omega) (by show _ ≠ _; omega), HR7.keepB z7 (by decide) (by decide) (keep_set3 _ _ _ _ _), below_set3 hb37 (by omega) _ _ _⟩
          | exact ⟨_, _, _, is2, gs2, o2, rfl, hnp2, put_new _ _ _ _ HX7, HR7.below ((Below.refl _ _).alloc (Nat.le_refl _) _), hb37.alloc hb37.size _⟩
    case rest =>
      obtain ⟨P1, y1, y2, is4, gs4, o4, rfl, HNP4, HX4, HR4, hb18⟩ := hcut
      obtain ⟨rfl, rfl, rfl⟩ := HNP.out.uniq HNP4.out
      obtain ⟨ya, yc, yb, yd, rfl, rfl⟩ := HR4.out.sl
      have HM3 : Hid (MkRec wC.heap.size 1 _ (.slice ua is2.length uc) (.slice ub gs2.length ud) is2.length gs2.length) := MkRec.below HM2.out hb18
      have hB18 := bt hB17 hb18
      have BS18 : Hid _ := AllB.below hb18 BS17.out
      have RS18 : Hid _ := AllR.below hb18 RS17.out
      clear hb18 hB17 BS17 RS17 HM2 p0 p1 p2 p3 HBZ HNP4
      obtain ⟨p0, p1, p2⟩ := b3 HX4.out.2.2.1
      obtain ⟨q0, q1, q2⟩ := b3 BS18.out.2.2.2.2.2.1
      go_wp2_with fail
      refine (eqRecord_own (B := w.heap.size) (B' := w.heap.size) _ _ _ _ _ is2 gs2 o2 HR4.out ⟨xsA, ysA, RS18.out.1, FA.out, RS18.out.2.1, FB.out⟩ (by omega) (by omega)).mono ?_
      rintro e w19 ⟨hb19, rfl⟩
      have HM4 : Hid (MkRec wC.heap.size 1 w19 (.slice ua is2.length uc) (.slice ub gs2.length ud) is2.length gs2.length) := MkRec.below HM3.out hb19
      have hB19 := bt hB18 hb19
      have BS19 : Hid _ := AllB.below hb19 BS18.out
      clear hb19 hB18 BS18 RS18 HM3 p0 p1 p2 q0 q1 q2 HX4 HR4
      obtain ⟨p0, p1, p2⟩ := b3 BS19.out.1
      go_wp2_with fail
      refine (heldRecord_own wC.heap.size is2.length gs2.length 1 _ _ o2 _ HM4.out (by omega) (by omega) (by omega) (by omega)).mono ?_
      rintro e w20 ⟨rfl, hb20⟩
      have hB20 := bt hB19 hb20
      have hlt : decide (((1 + 3 * is2.length + 3 * gs2.length : Nat) : Int) < 0) = false := by simp; omega
      clear hb20 hB19 BS19 HM4 p0 p1 p2
      go_wp2
      go_ret
      exact ⟨rfl, hB20⟩

end Go.Proofs.YtmeojnaoljgieacDoor
