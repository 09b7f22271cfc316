import Derived.Test.YtjdjhenijihpfaaGreatDoorPsA
namespace Go.Proofs.YtjdjhenijihpfaaGreatDoor
open Go.RowKit
set_option linter.unusedVariables false

/-- A block of this type. -/
def HasT (w : World) (b T : Nat) : Prop := ∃ cs, w.heap[b]? = some (.cells cs T (0, 0))
theorem HasT.set {w : World} {b T c j : Nat} (h : HasT w b T) (u : Value) : HasT (w.setCell ⟨c, j, none⟩ u) b T := by
  obtain ⟨cs, h⟩ := h
  by_cases e : b = c
  · subst e
    exact ⟨_, by rw [Joins.block_setCell h]⟩
  · exact ⟨cs, by rw [Below.heap_setCell w ⟨c, j, none⟩ u b e]; exact h⟩
theorem HasT.below {w w' : World} {b T : Nat} (h : HasT w b T) (hb : Below w.heap.size w w') : HasT w' b T := by
  obtain ⟨cs, h⟩ := h; exact ⟨cs, blk_below h hb⟩
theorem HasT.ne {w : World} {b T B e sz n : Nat} {v : Value} {xs : List Value} (h : HasT w b T) (ho : w.ownsRow B e sz v n xs) (hne : T ≠ e) : v.ownBlock ≠ some b := by
  obtain ⟨cs, h⟩ := h
  intro eb
  rcases ho.2 with ⟨rfl, _⟩ | ⟨g, cap, cur, rfl, hg, hh, _⟩
  · simp [Value.ownBlock] at eb
  · simp only [Value.ownBlock, Option.some.injEq] at eb
    rw [eb, h] at hh
    simp at hh
    exact hne hh.2
theorem own_setT {w : World} {b T B e sz n j : Nat} {v : Value} {xs : List Value} (ho : w.ownsRow B e sz v n xs) (h : HasT w b T) (hne : T ≠ e) (u : Value) : (w.setCell ⟨b, j, none⟩ u).ownsRow B e sz v n xs :=
  own_same ho fun c ec => Below.heap_setCell w ⟨b, j, none⟩ u c (fun e' => h.ne ho hne (by rw [ec, e']))
theorem OwnS.setT {w : World} {b lo hi j : Nat} {v : Value} {ss : List S2} (ho : OwnS w lo hi v ss) (h : HasT w b 26) (u : Value) : OwnS (w.setCell ⟨b, j, none⟩ u) lo hi v ss := by
  obtain ⟨xs, k1, k2⟩ := ho
  exact ⟨xs, ⟨own_setT k1.own h (by decide) u, k1.top⟩, k2⟩
theorem OwnT.setT {w : World} {b lo hi j : Nat} {v : Value} {ts : List T2} (ho : OwnT w lo hi v ts) (h : HasT w b 26) (u : Value) : OwnT (w.setCell ⟨b, j, none⟩ u) lo hi v ts := by
  obtain ⟨xs, cv, k⟩ := ho
  exact ⟨xs, cv, ⟨own_setT k.row.own h (by decide) u, k.row.top⟩, k.fil, fun i hi => by
    obtain ⟨ys, k1, k2⟩ := k.code i hi
    exact ⟨ys, ⟨own_setT k1.own h (by decide) u, k1.top⟩, k2⟩, k.apart⟩

set_option maxRecDepth 100000 in
set_option maxHeartbeats 2000000 in
theorem roomFor_any (sa ta : Option Addr) (c1 c2 : Nat) (ss : List S2) (ts : List T2) (t : ByteArray) (ok : Bool) (w : World) (hT : Tab w) (h : SpOk w sa ss ta ts) (hsm : SpSmall ss ts) (ht : t.size ≤ 9223372036854775807) :
    Calls Tryz.prog 25 #[.agg #[.slice sa ss.length c1, .slice ta ts.length c2], .string t, .bool ok] w fun e w' => Below w.heap.size w w' ∧ RoomOut w.heap.size w' e ss ts t ok := by
  have hb0 : Below w.heap.size w ((w.alloc (.cells #[.slice sa ss.length c1, .slice ta ts.length c2] 26)).alloc (.cells #[.slice none 0 0, .slice none 0 0] 26)) := ((Below.refl _ _).alloc (Nat.le_refl _) _).alloc (by simp) _
  have p0 : ((w.alloc (.cells #[.slice sa ss.length c1, .slice ta ts.length c2] 26)).alloc (.cells #[.slice none 0 0, .slice none 0 0] 26)).cell? ⟨w.heap.size, 0, none⟩ = some (.slice sa ss.length c1) := by simp [go_sem]
  have p1 : ((w.alloc (.cells #[.slice sa ss.length c1, .slice ta ts.length c2] 26)).alloc (.cells #[.slice none 0 0, .slice none 0 0] 26)).cell? ⟨w.heap.size, 1, none⟩ = some (.slice ta ts.length c2) := by simp [go_sem]
  have kb : ((w.alloc (.cells #[.slice sa ss.length c1, .slice ta ts.length c2] 26)).alloc (.cells #[.slice none 0 0, .slice none 0 0] 26)).heap[w.heap.size + 1]? = some (.cells #[.slice none 0 0, .slice none 0 0] 26 (0, 0)) := by
    have h := heapW_new (w.alloc (.cells #[.slice sa ss.length c1, .slice ta ts.length c2] 26)) (.cells #[.slice none 0 0, .slice none 0 0] 26)
    rw [show (w.alloc (.cells #[.slice sa ss.length c1, .slice ta ts.length c2] 26)).heap.size = w.heap.size + 1 from by simp] at h
    exact h
  have hR : w.heap.size ≤ w.heap.size + 1 := by omega
  go_enter Tryz.func25, Tryz.ntmps25
  go_wp2_with fail
  refine (implCheck_any sa ta c1 c2 ss ts _ (hT.below hb0) (h.below hb0) hsm).mono ?_
  rintro e w1 ⟨hb1, rfl⟩
  have hB1 := bt hb0 hb1
  replace p0 := cell_below hb1 p0
  replace p1 := cell_below hb1 p1
  have kb1 : w1.heap[w.heap.size + 1]? = some (.cells #[.slice none 0 0, .slice none 0 0] 26 (0, 0)) := by rw [hb1.block _ (blkW_lt kb)]; exact kb
  have r0 : w1.cell? ⟨w.heap.size + 1, 0, none⟩ = some (.slice none 0 0) := by rw [Lib.cell_of_heap kb1]; rfl
  have r1 : w1.cell? ⟨w.heap.size + 1, 1, none⟩ = some (.slice none 0 0) := by rw [Lib.cell_of_heap kb1]; rfl
  have fr : ∀ j, w1.frozen? ⟨w.heap.size + 1, j, none⟩ = false := fun j => Lib.frozen_of_heap kb1 j
  have KB1 : Hid (w1.heap[w.heap.size + 1]? = some (.cells #[.slice none 0 0, .slice none 0 0] 26 (0, 0))) := kb1
  clear hb0 hb1 kb kb1
  by_cases hc : chk ss ts = 0
  · have HC : Hid (ChkOk ss ts) := chk_ok hc
    rw [hc]
    by_cases hn : NameOk t
    · have hnb := nameB_true hn
      cases ok
      · have HD : Hid (roomC ss ts t false = 2) := roomC2 hc (fun k => by cases k.2)
        clear hn hc
        go_wp2_with (go_at_call 47; refine (validName_any t _ ht).mono ?_; rintro e w9 ⟨rfl, rfl⟩; rw [hnb])
        exact bodyPost_ret (v := .tuple #[.agg #[.slice none 0 0, .slice none 0 0], .int .i64 2]) (by simp [results, Tryz.results25, go_sem, r0, r1]) rfl ⟨(hB1.setCell (p := ⟨w.heap.size + 1, 0, none⟩) hR _).setCell (p := ⟨w.heap.size + 1, 1, none⟩) hR _, Or.inl ⟨by rw [HD.out]; decide, by rw [HD.out]⟩⟩
      · go_wp2_with (go_at_call 47; refine (validName_any t _ ht).mono ?_; rintro e w9 ⟨rfl, rfl⟩; rw [hnb])
        refine (without_any sa ta c1 c2 ss ts t _ (h.rs.below hB1) (h.rt.below hB1) (by have := HC.out.len; omega) (by have := HC.out.len; omega) HC.out.codes).mono ?_
        rintro e w5 ⟨hb5, v1, v2, rfl, o1, o2⟩
        have hB5 := bt hB1 hb5
        have kb5 : w5.heap[w.heap.size + 1]? = some (.cells #[.slice none 0 0, .slice none 0 0] 26 (0, 0)) := by rw [hb5.block _ (blkW_lt KB1.out)]; exact KB1.out
        have hz : w.heap.size + 1 < w1.heap.size := blkW_lt KB1.out
        have hz5 : w1.heap.size ≤ w5.heap.size := hb5.size
        obtain ⟨a1, q1, rfl, _⟩ := o1.sl
        obtain ⟨a2, q2, rfl, _⟩ := o2.sl
        have hl1 : (fltS t ss).length ≤ 200 := by have h1 := fltS_len t ss; have h2 := HC.out.len; omega
        have hl2 : (fltT t ts).length ≤ 200 := by have h1 := fltT_len t ts; have h2 := HC.out.len; omega
        obtain ⟨w6, e6⟩ : ∃ x, w5.alloc (.cells #[.slice a1 (fltS t ss).length q1, .slice a2 (fltT t ts).length q2] 26) = x := ⟨_, rfl⟩
        have hb6 : Below w5.heap.size w5 w6 := by rw [← e6]; exact (Below.refl _ _).alloc (Nat.le_refl _) _
        have hB6 := bt hB5 hb6
        have kb6 : w6.heap[w.heap.size + 1]? = some (.cells #[.slice none 0 0, .slice none 0 0] 26 (0, 0)) := blk_below kb5 hb6
        have HT6 : Hid (HasT w6 (w.heap.size + 1) 26) := ⟨_, kb6⟩
        have s0 : w6.cell? ⟨w.heap.size + 1, 0, none⟩ = some (.slice none 0 0) := by rw [Lib.cell_of_heap kb6]; rfl
        have s1 : w6.cell? ⟨w.heap.size + 1, 1, none⟩ = some (.slice none 0 0) := by rw [Lib.cell_of_heap kb6]; rfl
        have fs : ∀ j, w6.frozen? ⟨w.heap.size + 1, j, none⟩ = false := fun j => Lib.frozen_of_heap kb6 j
        have x0 : w6.cell? ⟨w5.heap.size, 0, none⟩ = some (.slice a1 (fltS t ss).length q1) := by rw [← e6]; simp [go_sem]
        have x1 : w6.cell? ⟨w5.heap.size, 1, none⟩ = some (.slice a2 (fltT t ts).length q2) := by rw [← e6]; simp [go_sem]
        have HO1 : Hid (OwnS w6 w1.heap.size w5.heap.size (.slice a1 (fltS t ss).length q1) (fltS t ss)) := o1.below hb6
        have HO2 : Hid (OwnT w6 w1.heap.size w5.heap.size (.slice a2 (fltT t ts).length q2) (fltT t ts)) := o2.below hb6
        have hs6 : w5.heap.size ≤ w6.heap.size := hb6.size
        have HDY : Hid (¬ 200 ≤ (fltS t ss).length + (fltT t ts).length → roomC ss ts t true = 0) := roomC0 hc ⟨hn, rfl⟩
        have HDN : Hid (200 ≤ (fltS t ss).length + (fltT t ts).length → roomC ss ts t true = 3) := roomC3 hc ⟨hn, rfl⟩
        have HLL : Hid ((fltS t ss).length + (fltT t ts).length ≤ 200) := by have h1 := fltS_len t ss; have h2 := fltT_len t ts; have h3 := HC.out.len; show _ ≤ _; omega
        clear o1 o2 kb5 kb6 hb5 hb6 p0 p1 r0 r1 fr hc hn hB5
        by_cases hf : 200 ≤ (fltS t ss).length + (fltT t ts).length
        · have HD : Hid (roomC ss ts t true = 3) := HDN.out hf
          have heq : (((fltS t ss).length : Int) + ((fltT t ts).length : Int) == 200) = true := by have := HLL.out; simp; omega
          generalize (fltS t ss).length = n1 at *
          generalize (fltT t ts).length = n2 at *
          go_wp2_with fail
          exact bodyPost_ret (v := .tuple #[.agg #[.slice none 0 0, .slice none 0 0], .int .i64 3]) (by simp [results, Tryz.results25, go_sem, s0, s1]) rfl ⟨(hB6.setCell (p := ⟨w.heap.size + 1, 0, none⟩) hR _).setCell (p := ⟨w.heap.size + 1, 1, none⟩) hR _, Or.inl ⟨by rw [HD.out]; decide, by rw [HD.out]⟩⟩
        · have HD : Hid (roomC ss ts t true = 0) := HDY.out hf
          have heq : (((fltS t ss).length : Int) + ((fltT t ts).length : Int) == 200) = false := by simp; omega
          go_wp2_with fail
          refine bodyPost_ret (v := .tuple #[.agg #[.slice a1 (fltS t ss).length q1, .slice a2 (fltT t ts).length q2], .int .i64 0]) (by simp [results, Tryz.results25, go_sem, s0, s1]) rfl ⟨(hB6.setCell (p := ⟨w.heap.size + 1, 0, none⟩) hR _).setCell (p := ⟨w.heap.size + 1, 1, none⟩) hR _, Or.inr ⟨HD.out, _, _, rfl, ?_, ?_⟩⟩
          · exact ((HO1.out.setT HT6.out _).setT (HT6.out.set _) _).wide (by omega) (by simp; omega)
          · exact ((HO2.out.setT HT6.out _).setT (HT6.out.set _) _).wide (by omega) (by simp; omega)
    · have hnb := nameB_false hn
      have HD : Hid (roomC ss ts t ok = 2) := roomC2 hc (fun k => hn k.1)
      clear hn hc
      go_wp2_with (go_at_call 47; refine (validName_any t _ ht).mono ?_; rintro e w9 ⟨rfl, rfl⟩; rw [hnb])
      exact bodyPost_ret (v := .tuple #[.agg #[.slice none 0 0, .slice none 0 0], .int .i64 2]) (by simp [results, Tryz.results25, go_sem, r0, r1]) rfl ⟨(hB1.setCell (p := ⟨w.heap.size + 1, 0, none⟩) hR _).setCell (p := ⟨w.heap.size + 1, 1, none⟩) hR _, Or.inl ⟨by rw [HD.out]; decide, by rw [HD.out]⟩⟩
  · have hcb : (chk ss ts != 0) = true := by simpa using hc
    have HD : Hid (roomC ss ts t ok = 1) := roomC1 hc
    clear hc
    generalize chk ss ts = q at *
    go_wp2_with fail
    exact bodyPost_ret (v := .tuple #[.agg #[.slice none 0 0, .slice none 0 0], .int .i64 1]) (by simp [results, Tryz.results25, go_sem, r0, r1]) rfl ⟨(hB1.setCell (p := ⟨w.heap.size + 1, 0, none⟩) hR _).setCell (p := ⟨w.heap.size + 1, 1, none⟩) hR _, Or.inl ⟨by rw [HD.out]; decide, by rw [HD.out]⟩⟩

set_option maxRecDepth 100000 in
set_option maxHeartbeats 2000000 in
theorem implPs_any (sa ta : Option Addr) (c1 c2 : Nat) (ss : List S2) (ts : List T2) (t x : ByteArray) (w : World) (hT : Tab w) (h : SpOk w sa ss ta ts) (hsm : SpSmall ss ts) (ht : t.size ≤ 9223372036854775807) (hx : x.size ≤ 9223372036854775807) :
    Calls Tryz.prog 6 #[.agg #[.slice sa ss.length c1, .slice ta ts.length c2], .string t, .string x] w fun e w' => Below w.heap.size w w' ∧ PsOut w.heap.size w' e ss ts t x (decide (x.size ≤ 2000)) := by
  have hok : decide ((x.size : Int) ≤ 2000) = decide (x.size ≤ 2000) := by rw [decide_eq_decide]; omega
  obtain ⟨ok, eok⟩ : ∃ ok, decide (x.size ≤ 2000) = ok := ⟨_, rfl⟩
  rw [eok] at hok ⊢
  clear eok
  have hb0 : Below w.heap.size w ((w.alloc (.cells #[.slice sa ss.length c1, .slice ta ts.length c2] 26)).alloc (.cells #[.slice none 0 0, .slice none 0 0] 26)) := ((Below.refl _ _).alloc (Nat.le_refl _) _).alloc (by simp) _
  have hz0 : ((w.alloc (.cells #[.slice sa ss.length c1, .slice ta ts.length c2] 26)).alloc (.cells #[.slice none 0 0, .slice none 0 0] 26)).heap.size = w.heap.size + 1 + 1 := by simp
  have kb : ((w.alloc (.cells #[.slice sa ss.length c1, .slice ta ts.length c2] 26)).alloc (.cells #[.slice none 0 0, .slice none 0 0] 26)).heap[w.heap.size + 1]? = some (.cells #[.slice none 0 0, .slice none 0 0] 26 (0, 0)) := by
    have h := heapW_new (w.alloc (.cells #[.slice sa ss.length c1, .slice ta ts.length c2] 26)) (.cells #[.slice none 0 0, .slice none 0 0] 26)
    rw [show (w.alloc (.cells #[.slice sa ss.length c1, .slice ta ts.length c2] 26)).heap.size = w.heap.size + 1 from by simp] at h
    exact h
  have hR : w.heap.size ≤ w.heap.size + 1 := by omega
  have HZ0 : Hid (((w.alloc (.cells #[.slice sa ss.length c1, .slice ta ts.length c2] 26)).alloc (.cells #[.slice none 0 0, .slice none 0 0] 26)).heap.size = w.heap.size + 1 + 1) := hz0
  clear hz0
  go_enter Tryz.func6, Tryz.ntmps6
  go_wp2_with fail
  refine (roomFor_any sa ta c1 c2 ss ts t ok _ (hT.below hb0) (h.below hb0) hsm ht).mono ?_
  rintro e w1 ⟨hb1, hro⟩
  have hB1 := bt hb0 hb1
  have kb1 : w1.heap[w.heap.size + 1]? = some (.cells #[.slice none 0 0, .slice none 0 0] 26 (0, 0)) := by rw [hb1.block _ (blkW_lt kb)]; exact kb
  have hz : w.heap.size + 1 < w1.heap.size := blkW_lt kb1
  clear hb0 hb1 kb hok
  rcases hro with ⟨hne, rfl⟩ | ⟨he0, v1, v2, rfl, o1, o2⟩
  · have hcb : (roomC ss ts t ok != 0) = true := by simpa using hne
    have HNE : Hid (roomC ss ts t ok ≠ 0) := hne
    obtain ⟨c, ec⟩ : ∃ c, roomC ss ts t ok = c := ⟨_, rfl⟩
    have HD : Hid (roomC ss ts t ok = c) := ec
    rw [ec] at hcb HNE ⊢
    have hb2 : Below w1.heap.size w1 (w1.alloc (.cells #[.slice none 0 0, .slice none 0 0] 26)) := (Below.refl _ _).alloc (Nat.le_refl _) _
    have hB2 := bt hB1 hb2
    have kb2 := blk_below kb1 hb2
    have r0 : (w1.alloc (.cells #[.slice none 0 0, .slice none 0 0] 26)).cell? ⟨w.heap.size + 1, 0, none⟩ = some (.slice none 0 0) := by rw [Lib.cell_of_heap kb2]; rfl
    have r1 : (w1.alloc (.cells #[.slice none 0 0, .slice none 0 0] 26)).cell? ⟨w.heap.size + 1, 1, none⟩ = some (.slice none 0 0) := by rw [Lib.cell_of_heap kb2]; rfl
    have fr : ∀ j, (w1.alloc (.cells #[.slice none 0 0, .slice none 0 0] 26)).frozen? ⟨w.heap.size + 1, j, none⟩ = false := fun j => Lib.frozen_of_heap kb2 j
    have r0' : w1.cell? ⟨w.heap.size + 1, 0, none⟩ = some (.slice none 0 0) := by rw [Lib.cell_of_heap kb1]; rfl
    have r1' : w1.cell? ⟨w.heap.size + 1, 1, none⟩ = some (.slice none 0 0) := by rw [Lib.cell_of_heap kb1]; rfl
    have fr' : ∀ j, w1.frozen? ⟨w.heap.size + 1, j, none⟩ = false := fun j => Lib.frozen_of_heap kb1 j
    have hneb : w.heap.size + 1 ≠ w1.heap.size := by omega
    have hs1 := hB1.size
    have q0 : (((w1.setCell ⟨w.heap.size + 1, 0, none⟩ (.slice none 0 0)).setCell ⟨w.heap.size + 1, 1, none⟩ (.slice none 0 0)).alloc (.cells #[.slice none 0 0, .slice none 0 0] 26)).cell? ⟨w.heap.size + 1, 0, none⟩ = some (.slice none 0 0) := cellW (by simp [go_sem, r0'])
    have q1 : (((w1.setCell ⟨w.heap.size + 1, 0, none⟩ (.slice none 0 0)).setCell ⟨w.heap.size + 1, 1, none⟩ (.slice none 0 0)).alloc (.cells #[.slice none 0 0, .slice none 0 0] 26)).cell? ⟨w.heap.size + 1, 1, none⟩ = some (.slice none 0 0) := cellW (by simp [go_sem, r1'])
    clear hne kb1 kb2 hb2 ec hB2 r0 r1 fr
    go_wp2_with fail
    exact bodyPost_ret (v := .tuple #[.agg #[.slice none 0 0, .slice none 0 0], .int .i64 c]) (by simp [results, Tryz.results6, go_sem, q0, q1]) rfl ⟨((hB1.setCell (p := ⟨w.heap.size + 1, 0, none⟩) hR _).setCell (p := ⟨w.heap.size + 1, 1, none⟩) hR _).alloc (by simp; omega) _, PsOut.no HD.out HNE.out⟩
  · obtain ⟨hck, _, hll⟩ := roomC_zero he0
    have HD : Hid (roomC ss ts t ok = 0) := he0
    have HA : Hid (Asc (snames (fltS t ss))) := ascS t hck.a1
    obtain ⟨a1, q1, rfl, _⟩ := o1.sl
    obtain ⟨a2, q2, rfl, _⟩ := o2.sl
    rw [HZ0.out] at o1 o2
    obtain ⟨w2, e2⟩ : ∃ y, w1.alloc (.cells #[.slice a1 (fltS t ss).length q1, .slice a2 (fltT t ts).length q2] 26) = y := ⟨_, rfl⟩
    have hb2 : Below w1.heap.size w1 w2 := by rw [← e2]; exact (Below.refl _ _).alloc (Nat.le_refl _) _
    have hB2 := bt hB1 hb2
    have HK2 : Hid (w2.heap[w.heap.size + 1]? = _) := blk_below kb1 hb2
    have HP2 : Hid (Sp w2 w1.heap.size (w.heap.size + 1 + 1) w1.heap.size (.slice a1 (fltS t ss).length q1) (.slice a2 (fltT t ts).length q2) (fltS t ss) (fltT t ts)) := by show Sp _ _ _ _ _ _ _ _; rw [← e2]; exact Sp.new o1 o2
    have HF : Hid (∀ W : World, OwnS W (w.heap.size + 1 + 1) w1.heap.size (.slice a1 (fltS t ss).length q1) (fltS t ss) → Calls Tryz.prog 26 #[.agg #[.slice a1 (fltS t ss).length q1, .slice a2 (fltT t ts).length q2], .string t] W fun e w' => Below W.heap.size W w' ∧ ∃ (r : Nat) (b : Bool), e = .returned (.tuple #[.int .i64 r, .bool b]) ∧ At (snames (fltS t ss)) t r b) := fun W hW => by
      obtain ⟨b1, p1, ev, hrow⟩ := hW.sl
      cases ev
      exact findSource_any a1 a2 _ _ q1 q2 (fltS t ss) t W hrow (by omega) HA.out rfl
    have HL : Hid ((fltS t ss).length ≤ 200) := by show _ ≤ _; omega
    obtain ⟨z0, z1⟩ := HP2.out.c
    clear o1 o2 kb1 hb2 hB1 he0 hck
    go_wp2_with fail
    clear e2
    refine (HF.out w2 HP2.out.s).mono ?_
    rintro e w3 ⟨hb3, r, b, rfl, hat⟩
    have HAT : Hid (AtR (snames (fltS t ss)) t r) := hat.atR
    have hrl : r ≤ (fltS t ss).length := by have := hat.le; rw [snames_length] at this; exact this
    have hB3 := bt hB2 hb3
    have HP3 : Hid (Sp w3 w1.heap.size (w.heap.size + 1 + 1) w1.heap.size (.slice a1 (fltS t ss).length q1) (.slice a2 (fltT t ts).length q2) (fltS t ss) (fltT t ts)) := HP2.out.below hb3
    have HK3 : Hid (w3.heap[w.heap.size + 1]? = _) := blk_below HK2.out hb3
    obtain ⟨w4, e4⟩ : ∃ y, w3.alloc (.cells #[.string t, .string x] 60) = y := ⟨_, rfl⟩
    have hb4 : Below w3.heap.size w3 w4 := by rw [← e4]; exact (Below.refl _ _).alloc (Nat.le_refl _) _
    have hnew : w4.heap[w3.heap.size]? = some (.cells #[.string t, .string x] 60 (0, 0)) := by rw [← e4]; exact heapW_new _ _
    have HP4 : Hid (Sp w4 w1.heap.size (w.heap.size + 1 + 1) w1.heap.size (.slice a1 (fltS t ss).length q1) (.slice a2 (fltT t ts).length q2) (fltS t ss) (fltT t ts)) := HP3.out.below hb4
    have HK4 : Hid (w4.heap[w.heap.size + 1]? = _) := blk_below HK3.out hb4
    have hB4 := bt hB3 hb4
    have hs1 : w1.heap.size < w3.heap.size := blkW_lt HP3.out.blk
    have hs4 : w3.heap.size < w4.heap.size := blkW_lt hnew
    have hvn : (Value.slice a1 (fltS t ss).length q1).ownBlock ≠ some w3.heap.size := fun e => by have := HP4.out.s.v.top _ e; omega
    have HI : Hid (Calls Tryz.prog 27 #[.slice a1 (fltS t ss).length q1, .int .i64 r, .slice (some ⟨w3.heap.size, 0, none⟩) 1 1] w4 fun e w' => ∃ g' cp, e = .returned (.slice (some ⟨g', 0, none⟩) ((fltS t ss).length + 1) cp) ∧ w'.ownsRow (w.heap.size + 1 + 1) 60 2 (.slice (some ⟨g', 0, none⟩) ((fltS t ss).length + 1) cp) ((fltS t ss).length + 1) ((srcV (fltS t ss)).take (r * 2) ++ [.string t, .string x] ++ (srcV (fltS t ss)).drop (r * 2)) ∧ Below (w.heap.size + 1 + 1) w4 w' ∧ KeepO (Value.slice a1 (fltS t ss).length q1).ownBlock w4 w') := insertSource_own (w.heap.size + 1 + 1) (fltS t ss).length r w3.heap.size _ (srcV (fltS t ss)) (.string t) (.string x) w4 HP4.out.s.v.own (by omega) hrl HL.out hnew hvn (srcV_cells _) (by intro u hu; simp at hu; rcases hu with rfl | rfl <;> rfl)
    clear z0 z1 hb3 hb4 hB2 hB3 HP2 HP3 HK2 HK3 HF hat hnew hvn
    obtain ⟨z0, z1⟩ := HP4.out.c
    have y0 : w3.cell? ⟨w1.heap.size, 0, none⟩ = some (.slice a1 (fltS t ss).length q1) := by
      have h := z0
      rw [← e4, World.cell?_alloc_lt _ _ _ (by simpa using hs1)] at h
      exact h
    clear z0 z1
    go_wp2_with fail
    clear e4 y0
    refine HI.out.mono ?_
    rintro e w5 ⟨g', cp, rfl, ho5, hb5, hk5⟩
    have hB5 : Below w.heap.size w w5 := hB4.trans (hb5.mono (by omega))
    have hs5 : w4.heap.size ≤ w5.heap.size := hb5.size
    have kp5 : w5.heap[w1.heap.size]? = some (.cells #[.slice a1 (fltS t ss).length q1, .slice a2 (fltT t ts).length q2] 26 (0, 0)) := by
      rw [hk5 w1.heap.size (blkW_lt HP4.out.blk) (fun e => HasT.ne (T := 26) ⟨_, HP4.out.blk⟩ HP4.out.s.v.own (by decide) e.symm)]; exact HP4.out.blk
    have kr5 : w5.heap[w.heap.size + 1]? = some (.cells #[.slice none 0 0, .slice none 0 0] 26 (0, 0)) := by
      rw [hk5 (w.heap.size + 1) (blkW_lt HK4.out) (fun e => HasT.ne (T := 26) ⟨_, HK4.out⟩ HP4.out.s.v.own (by decide) e.symm)]; exact HK4.out
    have HT5 : Hid (OwnT w5 (w.heap.size + 1 + 1) w1.heap.size (.slice a2 (fltT t ts).length q2) (fltT t ts)) := HP4.out.t.keepO HP4.out.s.v.own hk5 (by decide) (by decide)
    have HO5 : Hid (w5.ownsRow (w.heap.size + 1 + 1) 60 2 (.slice (some ⟨g', 0, none⟩) ((fltS t ss).length + 1) cp) ((fltS t ss).length + 1) ((srcV (fltS t ss)).take (r * 2) ++ [.string t, .string x] ++ (srcV (fltS t ss)).drop (r * 2))) := ho5
    have HTP : Hid (HasT w5 w1.heap.size 26) := ⟨_, kp5⟩
    have HTR : Hid (HasT w5 (w.heap.size + 1) 26) := ⟨_, kr5⟩
    have x0 : w5.cell? ⟨w1.heap.size, 0, none⟩ = some (.slice a1 (fltS t ss).length q1) := by rw [Lib.cell_of_heap kp5]; rfl
    have x1 : w5.cell? ⟨w1.heap.size, 1, none⟩ = some (.slice a2 (fltT t ts).length q2) := by rw [Lib.cell_of_heap kp5]; rfl
    have xf : ∀ j, w5.frozen? ⟨w1.heap.size, j, none⟩ = false := fun j => Lib.frozen_of_heap kp5 j
    have r0 : w5.cell? ⟨w.heap.size + 1, 0, none⟩ = some (.slice none 0 0) := by rw [Lib.cell_of_heap kr5]; rfl
    have r1 : w5.cell? ⟨w.heap.size + 1, 1, none⟩ = some (.slice none 0 0) := by rw [Lib.cell_of_heap kr5]; rfl
    have fr : ∀ j, w5.frozen? ⟨w.heap.size + 1, j, none⟩ = false := fun j => Lib.frozen_of_heap kr5 j
    have hneb : w.heap.size + 1 ≠ w1.heap.size := by omega
    clear hb5 hk5 ho5 kp5 kr5 HP4 HK4 HI hB4
    go_wp2_with fail
    refine bodyPost_ret (v := .tuple #[.agg #[.slice (some ⟨g', 0, none⟩) ((fltS t ss).length + 1) cp, .slice a2 (fltT t ts).length q2], .int .i64 0]) (by simp [results, Tryz.results6, go_sem, r0, r1]) rfl ⟨((hB5.setCell (p := ⟨w1.heap.size, 0, none⟩) (by simp; omega) _).setCell (p := ⟨w.heap.size + 1, 0, none⟩) hR _).setCell (p := ⟨w.heap.size + 1, 1, none⟩) hR _, _, _, by rw [HD.out], ?_, ?_⟩
    · rw [(ps_yes (x := x) HD.out HAT.out).1]
      refine OwnS.setT (OwnS.setT (OwnS.setT ?_ HTP.out _) (HTR.out.set _) _) ((HTR.out.set _).set _) _
      refine OwnS.ofV ?_
      rw [insS_length _ _ _ hrl, srcV_ins _ _ _ hrl]
      exact ⟨own_base HO5.out (by omega), fun b eb => by have := (HO5.out.lt b eb).2; simp; omega⟩
    · rw [(ps_yes (x := x) HD.out HAT.out).2]
      exact (OwnT.setT (OwnT.setT (OwnT.setT HT5.out HTP.out _) (HTR.out.set _) _) ((HTR.out.set _).set _) _).wide (by omega) (by simp; omega)

end Go.Proofs.YtjdjhenijihpfaaGreatDoor
