import Derived.Test.YtjdjhenijihpfaaGreatDoorSrch
import Derived.Test.YtjdjhenijihpfaaGreatDoorWoI
import Derived.Test.YtjdjhenijihpfaaGreatDoorWoS
namespace Go.Proofs.YtjdjhenijihpfaaGreatDoor
open Go.RowKit
set_option linter.unusedVariables false

theorem SpOk.below {w w' : World} {sa ta : Option Addr} {ss : List S2} {ts : List T2} (h : SpOk w sa ss ta ts) (hb : Below w.heap.size w w') : SpOk w' sa ss ta ts :=
  ⟨h.rs.below hb, h.rt.below hb, h.ls, h.lt, h.ns, h.xs, h.nt, h.lc, h.xt⟩
theorem SpOk.move {w w' : World} {sa ta sa' ta' : Option Addr} {ss : List S2} {ts : List T2} (h : SpOk w sa ss ta ts) (rs : RowS w' sa' ss) (rt : RowT w' ta' ts) : SpOk w' sa' ss ta' ts :=
  ⟨rs, rt, h.ls, h.lt, h.ns, h.xs, h.nt, h.lc, h.xt⟩
/-- What a valid space is. -/
structure ChkOk (ss : List S2) (ts : List T2) : Prop where
  len : ss.length + ts.length ≤ 200
  a1 : Asc (snames ss)
  a2 : Asc (tnames ts)
  act : ActsOk ts
theorem chk_ok {ss : List S2} {ts : List T2} (h : chk ss ts = 0) : ChkOk ss ts := by
  by_cases g1 : 200 < ss.length + ts.length
  · rw [chk1 g1] at h; exact absurd h (by decide)
  by_cases g2 : AllN (snames ss) ∧ AllN (tnames ts)
  · by_cases g3 : Asc (snames ss)
    · by_cases g4 : Asc (tnames ts)
      · by_cases g5 : Share (snames ss) (tnames ts)
        · rw [chk5 g1 g2 g3 g4 g5] at h; exact absurd h (by decide)
        · by_cases g6 : TextsOk ss
          · by_cases g7 : ActsOk ts
            · exact ⟨by omega, g3, g4, g7⟩
            · rw [chk7 g1 g2 g3 g4 g5 g6 g7] at h; exact absurd h (by decide)
          · rw [chk6 g1 g2 g3 g4 g5 g6] at h; exact absurd h (by decide)
      · rw [chk4 g1 g2 g3 g4] at h; exact absurd h (by decide)
    · rw [chk3 g1 g2 g3] at h; exact absurd h (by decide)
  · rw [chk2 g1 g2] at h; exact absurd h (by decide)
theorem ChkOk.codes {ss : List S2} {ts : List T2} (h : ChkOk ss ts) : ∀ i, i < ts.length → 1 ≤ (tx ts i).code.length ∧ (tx ts i).code.length ≤ 1048576 := by
  intro i hi
  have h1 := h.act i hi
  unfold progOk at h1
  simp only [Bool.and_eq_true, decide_eq_true_eq] at h1
  exact ⟨h1.1.1, by omega⟩
open Classical in
noncomputable def dropC (ss : List S2) (ts : List T2) (t : ByteArray) : Int := if chk ss ts ≠ 0 then 1 else if ¬ NameOk t then 2 else if ¬ (Has (snames ss) t ∨ Has (tnames ts) t) then 4 else 0
open Classical in
noncomputable def dropS (ss : List S2) (ts : List T2) (t : ByteArray) : List S2 := if dropC ss ts t = 0 then fltS t ss else []
open Classical in
noncomputable def dropT (ss : List S2) (ts : List T2) (t : ByteArray) : List T2 := if dropC ss ts t = 0 then fltT t ts else []
theorem dropC1 {ss : List S2} {ts : List T2} {t : ByteArray} (h : chk ss ts ≠ 0) : dropC ss ts t = 1 := by unfold dropC; rw [if_pos h]
theorem dropC2 {ss : List S2} {ts : List T2} {t : ByteArray} (h : chk ss ts = 0) (h2 : ¬ NameOk t) : dropC ss ts t = 2 := by unfold dropC; rw [if_neg (fun k => k h), if_pos h2]
theorem dropC4 {ss : List S2} {ts : List T2} {t : ByteArray} (h : chk ss ts = 0) (h2 : NameOk t) (h3 : ¬ (Has (snames ss) t ∨ Has (tnames ts) t)) : dropC ss ts t = 4 := by unfold dropC; rw [if_neg (fun k => k h), if_neg (fun k => k h2), if_pos h3]
theorem dropC0 {ss : List S2} {ts : List T2} {t : ByteArray} (h : chk ss ts = 0) (h2 : NameOk t) (h3 : Has (snames ss) t ∨ Has (tnames ts) t) : dropC ss ts t = 0 := by unfold dropC; rw [if_neg (fun k => k h), if_neg (fun k => k h2), if_neg (fun k => k h3)]
theorem drop_no {ss : List S2} {ts : List T2} {t : ByteArray} (h : dropC ss ts t ≠ 0) : dropS ss ts t = [] ∧ dropT ss ts t = [] := by unfold dropS dropT; rw [if_neg h, if_neg h]; exact ⟨rfl, rfl⟩
theorem drop_yes {ss : List S2} {ts : List T2} {t : ByteArray} (h : dropC ss ts t = 0) : dropS ss ts t = fltS t ss ∧ dropT ss ts t = fltT t ts := by unfold dropS dropT; rw [if_pos h, if_pos h]; exact ⟨rfl, rfl⟩
theorem dropC_zero {ss : List S2} {ts : List T2} {t : ByteArray} (h : dropC ss ts t = 0) : ChkOk ss ts := by
  by_cases g : chk ss ts = 0
  · exact chk_ok g
  · rw [dropC1 g] at h; exact absurd h (by decide)
theorem drop_small (ss : List S2) (ts : List T2) (t : ByteArray) : SpSmall (dropS ss ts t) (dropT ss ts t) := by
  by_cases g : dropC ss ts t = 0
  · have h := dropC_zero g
    rw [(drop_yes g).1, (drop_yes g).2]
    have h1 := fltS_len t ss
    have h2 := fltT_len t ts
    have h3 := h.len
    exact ⟨by omega, by omega, fltT_mem (P := fun s => s.code.length ≤ 1048576) (fun i hi => (h.codes i hi).2)⟩
  · rw [(drop_no g).1, (drop_no g).2]
    exact ⟨by simp, by simp, fun i hi => by simp at hi⟩
/-- What Drop hands out. -/
def DropOut (lo : Nat) (w : World) (e : Ending) (ss : List S2) (ts : List T2) (t : ByteArray) : Prop := ∃ v1 v2, e = .returned (.tuple #[.agg #[v1, v2], .int .i64 (dropC ss ts t)]) ∧ OwnS w lo w.heap.size v1 (dropS ss ts t) ∧ OwnT w lo w.heap.size v2 (dropT ss ts t)
theorem DropOut.no {lo : Nat} {w : World} {c : Int} {ss : List S2} {ts : List T2} {t : ByteArray} (h : dropC ss ts t = c) (h0 : c ≠ 0) : DropOut lo w (.returned (.tuple #[.agg #[.slice none 0 0, .slice none 0 0], .int .i64 c])) ss ts t := by
  have h1 : dropC ss ts t ≠ 0 := by rw [h]; exact h0
  refine ⟨_, _, by rw [h], ?_, ?_⟩
  · rw [(drop_no h1).1]; exact OwnS.nil _ _ _
  · rw [(drop_no h1).2]; exact OwnT.nil _ _ _

set_option maxRecDepth 100000 in
set_option maxHeartbeats 2000000 in
theorem implDrop_any (sa ta : Option Addr) (c1 c2 : Nat) (ss : List S2) (ts : List T2) (t : ByteArray) (w : World) (hT : Tab w) (h : SpOk w sa ss ta ts) (hsm : SpSmall ss ts) (ht : t.size ≤ 9223372036854775807) :
    Calls Tryz.prog 14 #[.agg #[.slice sa ss.length c1, .slice ta ts.length c2], .string t] w fun e w' => Below w.heap.size w w' ∧ DropOut w.heap.size w' e ss ts t := by
  have hb0 : Below w.heap.size w ((w.alloc (.cells #[.slice sa ss.length c1, .slice ta ts.length c2] 26)).alloc (.cells #[.slice none 0 0, .slice none 0 0] 26)) := ((Below.refl _ _).alloc (Nat.le_refl _) _).alloc (by simp) _
  have p0 : ((w.alloc (.cells #[.slice sa ss.length c1, .slice ta ts.length c2] 26)).alloc (.cells #[.slice none 0 0, .slice none 0 0] 26)).cell? ⟨w.heap.size, 0, none⟩ = some (.slice sa ss.length c1) := by simp [go_sem]
  have p1 : ((w.alloc (.cells #[.slice sa ss.length c1, .slice ta ts.length c2] 26)).alloc (.cells #[.slice none 0 0, .slice none 0 0] 26)).cell? ⟨w.heap.size, 1, none⟩ = some (.slice ta ts.length c2) := by simp [go_sem]
  have kb : ((w.alloc (.cells #[.slice sa ss.length c1, .slice ta ts.length c2] 26)).alloc (.cells #[.slice none 0 0, .slice none 0 0] 26)).heap[w.heap.size + 1]? = some (.cells #[.slice none 0 0, .slice none 0 0] 26 (0, 0)) := by
    have h := heapW_new (w.alloc (.cells #[.slice sa ss.length c1, .slice ta ts.length c2] 26)) (.cells #[.slice none 0 0, .slice none 0 0] 26)
    rw [show (w.alloc (.cells #[.slice sa ss.length c1, .slice ta ts.length c2] 26)).heap.size = w.heap.size + 1 from by simp] at h
    exact h
  have hR : w.heap.size ≤ w.heap.size + 1 := by omega
  go_enter Tryz.func14, Tryz.ntmps14
  go_wp2_with fail
  refine (implCheck_any sa ta c1 c2 ss ts _ (hT.below hb0) (h.below hb0) hsm).mono ?_
  rintro e w1 ⟨hb1, rfl⟩
  have hB1 := bt hb0 hb1
  replace p0 := cell_below hb1 p0
  replace p1 := cell_below hb1 p1
  have kb1 : w1.heap[w.heap.size + 1]? = some (.cells #[.slice none 0 0, .slice none 0 0] 26 (0, 0)) := by rw [hb1.block _ (blkW_lt kb)]; exact kb
  have r0 : w1.cell? ⟨w.heap.size + 1, 0, none⟩ = some (.slice none 0 0) := by rw [Lib.cell_of_heap kb1]; rfl
  have r1 : w1.cell? ⟨w.heap.size + 1, 1, none⟩ = some (.slice none 0 0) := by rw [Lib.cell_of_heap kb1]; rfl
  have fr : ∀ j, w1.frozen? ⟨w.heap.size + 1, j, none⟩ = false := fun j => Lib.frozen_of_heap kb1 j
  have KB1 : Hid (w1.heap[w.heap.size + 1]? = some (.cells #[.slice none 0 0, .slice none 0 0] 26 (0, 0))) := kb1
  clear hb0 hb1 kb kb1
  by_cases hc : chk ss ts = 0
  · have HC : Hid (ChkOk ss ts) := chk_ok hc
    rw [hc]
    by_cases hn : NameOk t
    · have hnb := nameB_true hn
      go_wp2_with (go_at_call 47; refine (validName_any t _ ht).mono ?_; rintro e w9 ⟨rfl, rfl⟩; rw [hnb])
      refine (isThing_any sa ta c1 c2 ss ts t _ (h.rs.below hB1) (h.rt.below hB1) hsm.ls hsm.lt HC.out.a1 HC.out.a2).mono ?_
      rintro e w2 ⟨hb2, b, rfl, hq⟩
      have hB2 := bt hB1 hb2
      replace p0 := cell_below hb2 p0
      replace p1 := cell_below hb2 p1
      have kb2 : w2.heap[w.heap.size + 1]? = some (.cells #[.slice none 0 0, .slice none 0 0] 26 (0, 0)) := by rw [hb2.block _ (blkW_lt KB1.out)]; exact KB1.out
      replace r0 : w2.cell? ⟨w.heap.size + 1, 0, none⟩ = some (.slice none 0 0) := by rw [Lib.cell_of_heap kb2]; rfl
      replace r1 : w2.cell? ⟨w.heap.size + 1, 1, none⟩ = some (.slice none 0 0) := by rw [Lib.cell_of_heap kb2]; rfl
      replace fr : ∀ j, w2.frozen? ⟨w.heap.size + 1, j, none⟩ = false := fun j => Lib.frozen_of_heap kb2 j
      have KB2 : Hid (w2.heap[w.heap.size + 1]? = some (.cells #[.slice none 0 0, .slice none 0 0] 26 (0, 0))) := kb2
      clear hb2 kb2 KB1
      cases b
      · have HD : Hid (dropC ss ts t = 4) := dropC4 hc hn (fun hh => by have := hq.mpr hh; cases this)
        clear hc hn hq
        go_wp2_with fail
        exact bodyPost_ret (v := .tuple #[.agg #[.slice none 0 0, .slice none 0 0], .int .i64 4]) (by simp [results, Tryz.results14, go_sem, r0, r1]) rfl ⟨(hB2.setCell (p := ⟨w.heap.size + 1, 0, none⟩) hR _).setCell (p := ⟨w.heap.size + 1, 1, none⟩) hR _, DropOut.no HD.out (by decide)⟩
      · have HD : Hid (dropC ss ts t = 0) := dropC0 hc hn (hq.mp rfl)
        clear hc hn hq
        go_wp2_with fail
        refine (without_any sa ta c1 c2 ss ts t _ (h.rs.below hB2) (h.rt.below hB2) (by have := HC.out.len; omega) (by have := HC.out.len; omega) HC.out.codes).mono ?_
        rintro e w5 ⟨hb5, v1, v2, rfl, o1, o2⟩
        have hB5 := bt hB2 hb5
        have kb5 : w5.heap[w.heap.size + 1]? = some (.cells #[.slice none 0 0, .slice none 0 0] 26 (0, 0)) := by rw [hb5.block _ (blkW_lt KB2.out)]; exact KB2.out
        have s0 : w5.cell? ⟨w.heap.size + 1, 0, none⟩ = some (.slice none 0 0) := by rw [Lib.cell_of_heap kb5]; rfl
        have s1 : w5.cell? ⟨w.heap.size + 1, 1, none⟩ = some (.slice none 0 0) := by rw [Lib.cell_of_heap kb5]; rfl
        have fs : ∀ j, w5.frozen? ⟨w.heap.size + 1, j, none⟩ = false := fun j => Lib.frozen_of_heap kb5 j
        have hz : w.heap.size + 1 < w2.heap.size := blkW_lt KB2.out
        have HO1 : Hid (OwnS w5 w2.heap.size w5.heap.size v1 (fltS t ss)) := o1
        have HO2 : Hid (OwnT w5 w2.heap.size w5.heap.size v2 (fltT t ts)) := o2
        obtain ⟨a1, q1, rfl, _⟩ := o1.sl
        obtain ⟨a2, q2, rfl, _⟩ := o2.sl
        clear o1 o2 kb5 hb5 p0 p1 r0 r1 fr
        go_wp2
        refine bodyPost_ret (v := .tuple #[.agg #[.slice a1 (fltS t ss).length q1, .slice a2 (fltT t ts).length q2], .int .i64 0]) (by simp [results, Tryz.results14, go_sem, s0, s1]) rfl ⟨(hB5.setCell (p := ⟨w.heap.size + 1, 0, none⟩) hR _).setCell (p := ⟨w.heap.size + 1, 1, none⟩) hR _, _, _, by rw [HD.out], ?_, ?_⟩
        · rw [(drop_yes HD.out).1]; exact ((HO1.out.set (by omega) _).set (by omega) _).wide (by omega) (by simp)
        · rw [(drop_yes HD.out).2]; exact ((HO2.out.set (by omega) _).set (by omega) _).wide (by omega) (by simp)
    · have hnb := nameB_false hn
      have HD : Hid (dropC ss ts t = 2) := dropC2 hc hn
      clear hn hc
      go_wp2_with (go_at_call 47; refine (validName_any t _ ht).mono ?_; rintro e w9 ⟨rfl, rfl⟩; rw [hnb])
      exact bodyPost_ret (v := .tuple #[.agg #[.slice none 0 0, .slice none 0 0], .int .i64 2]) (by simp [results, Tryz.results14, go_sem, r0, r1]) rfl ⟨(hB1.setCell (p := ⟨w.heap.size + 1, 0, none⟩) hR _).setCell (p := ⟨w.heap.size + 1, 1, none⟩) hR _, DropOut.no HD.out (by decide)⟩
  · have hcb : (chk ss ts != 0) = true := by simpa using hc
    have HD : Hid (dropC ss ts t = 1) := dropC1 hc
    clear hc
    generalize chk ss ts = q at *
    go_wp2_with fail
    exact bodyPost_ret (v := .tuple #[.agg #[.slice none 0 0, .slice none 0 0], .int .i64 1]) (by simp [results, Tryz.results14, go_sem, r0, r1]) rfl ⟨(hB1.setCell (p := ⟨w.heap.size + 1, 0, none⟩) hR _).setCell (p := ⟨w.heap.size + 1, 1, none⟩) hR _, DropOut.no HD.out (by decide)⟩

set_option maxRecDepth 100000 in
set_option maxHeartbeats 2000000 in
theorem specDrop_any (sa ta : Option Addr) (c1 c2 : Nat) (ss : List S2) (ts : List T2) (t : ByteArray) (w : World) (h : SpOk w sa ss ta ts) (hsm : SpSmall ss ts) (ht : t.size ≤ 9223372036854775807) :
    Calls Tryz.prog 15 #[.agg #[.slice sa ss.length c1, .slice ta ts.length c2], .string t] w fun e w' => Below w.heap.size w w' ∧ DropOut w.heap.size w' e ss ts t := by
  have hb0 : Below w.heap.size w ((w.alloc (.cells #[.slice sa ss.length c1, .slice ta ts.length c2] 26)).alloc (.cells #[.slice none 0 0, .slice none 0 0] 26)) := ((Below.refl _ _).alloc (Nat.le_refl _) _).alloc (by simp) _
  have p0 : ((w.alloc (.cells #[.slice sa ss.length c1, .slice ta ts.length c2] 26)).alloc (.cells #[.slice none 0 0, .slice none 0 0] 26)).cell? ⟨w.heap.size, 0, none⟩ = some (.slice sa ss.length c1) := by simp [go_sem]
  have p1 : ((w.alloc (.cells #[.slice sa ss.length c1, .slice ta ts.length c2] 26)).alloc (.cells #[.slice none 0 0, .slice none 0 0] 26)).cell? ⟨w.heap.size, 1, none⟩ = some (.slice ta ts.length c2) := by simp [go_sem]
  have kb : ((w.alloc (.cells #[.slice sa ss.length c1, .slice ta ts.length c2] 26)).alloc (.cells #[.slice none 0 0, .slice none 0 0] 26)).heap[w.heap.size + 1]? = some (.cells #[.slice none 0 0, .slice none 0 0] 26 (0, 0)) := by
    have h := heapW_new (w.alloc (.cells #[.slice sa ss.length c1, .slice ta ts.length c2] 26)) (.cells #[.slice none 0 0, .slice none 0 0] 26)
    rw [show (w.alloc (.cells #[.slice sa ss.length c1, .slice ta ts.length c2] 26)).heap.size = w.heap.size + 1 from by simp] at h
    exact h
  have hR : w.heap.size ≤ w.heap.size + 1 := by omega
  go_enter Tryz.func15, Tryz.ntmps15
  go_wp2_with fail
  refine (specCheck_any sa ta c1 c2 ss ts _ (h.below hb0) hsm).mono ?_
  rintro e w1 ⟨hb1, rfl⟩
  have hB1 := bt hb0 hb1
  replace p0 := cell_below hb1 p0
  replace p1 := cell_below hb1 p1
  have kb1 : w1.heap[w.heap.size + 1]? = some (.cells #[.slice none 0 0, .slice none 0 0] 26 (0, 0)) := by rw [hb1.block _ (blkW_lt kb)]; exact kb
  have r0 : w1.cell? ⟨w.heap.size + 1, 0, none⟩ = some (.slice none 0 0) := by rw [Lib.cell_of_heap kb1]; rfl
  have r1 : w1.cell? ⟨w.heap.size + 1, 1, none⟩ = some (.slice none 0 0) := by rw [Lib.cell_of_heap kb1]; rfl
  have fr : ∀ j, w1.frozen? ⟨w.heap.size + 1, j, none⟩ = false := fun j => Lib.frozen_of_heap kb1 j
  have KB1 : Hid (w1.heap[w.heap.size + 1]? = some (.cells #[.slice none 0 0, .slice none 0 0] 26 (0, 0))) := kb1
  clear hb0 hb1 kb kb1
  by_cases hc : chk ss ts = 0
  · have HC : Hid (ChkOk ss ts) := chk_ok hc
    rw [hc]
    by_cases hn : NameOk t
    · have hnb := nameB_true hn
      go_wp2_with (go_at_call 29; refine (l2NameOk_any t _ ht).mono ?_; rintro e w9 ⟨rfl, rfl⟩; rw [hnb])
      refine (l3Source_any sa ta ts.length c1 c2 ss t _ (h.rs.below hB1) hsm.ls).mono ?_
      rintro e w2 ⟨hb2, r1', rfl, hq⟩
      have hB2 := bt hB1 hb2
      replace p0 := cell_below hb2 p0
      replace p1 := cell_below hb2 p1
      have kb2 : w2.heap[w.heap.size + 1]? = some (.cells #[.slice none 0 0, .slice none 0 0] 26 (0, 0)) := by rw [hb2.block _ (blkW_lt KB1.out)]; exact KB1.out
      replace r0 : w2.cell? ⟨w.heap.size + 1, 0, none⟩ = some (.slice none 0 0) := by rw [Lib.cell_of_heap kb2]; rfl
      replace r1 : w2.cell? ⟨w.heap.size + 1, 1, none⟩ = some (.slice none 0 0) := by rw [Lib.cell_of_heap kb2]; rfl
      replace fr : ∀ j, w2.frozen? ⟨w.heap.size + 1, j, none⟩ = false := fun j => Lib.frozen_of_heap kb2 j
      have KB2 : Hid (w2.heap[w.heap.size + 1]? = some (.cells #[.slice none 0 0, .slice none 0 0] 26 (0, 0))) := kb2
      clear hb2 kb2 KB1
      rcases hq with hq | hq
      · obtain ⟨q1, q2⟩ := hq
        have hlt : decide (r1' < 0) = false := by simpa using q1
        have HD : Hid (dropC ss ts t = 0) := dropC0 hc hn (Or.inl q2)
        clear hc hn q1 q2
        go_wp2_with fail
        refine (l3Without_any sa ta c1 c2 ss ts t _ (h.rs.below hB2) (h.rt.below hB2) (by have := HC.out.len; omega) (by have := HC.out.len; omega) HC.out.codes).mono ?_
        rintro e w5 ⟨hb5, v1, v2, rfl, o1, o2⟩
        have hB5 := bt hB2 hb5
        have kb5 : w5.heap[w.heap.size + 1]? = some (.cells #[.slice none 0 0, .slice none 0 0] 26 (0, 0)) := by rw [hb5.block _ (blkW_lt KB2.out)]; exact KB2.out
        have s0 : w5.cell? ⟨w.heap.size + 1, 0, none⟩ = some (.slice none 0 0) := by rw [Lib.cell_of_heap kb5]; rfl
        have s1 : w5.cell? ⟨w.heap.size + 1, 1, none⟩ = some (.slice none 0 0) := by rw [Lib.cell_of_heap kb5]; rfl
        have fs : ∀ j, w5.frozen? ⟨w.heap.size + 1, j, none⟩ = false := fun j => Lib.frozen_of_heap kb5 j
        have hz : w.heap.size + 1 < w2.heap.size := blkW_lt KB2.out
        have HO1 : Hid (OwnS w5 w2.heap.size w5.heap.size v1 (fltS t ss)) := o1
        have HO2 : Hid (OwnT w5 w2.heap.size w5.heap.size v2 (fltT t ts)) := o2
        obtain ⟨a1, q1, rfl, _⟩ := o1.sl
        obtain ⟨a2, q2, rfl, _⟩ := o2.sl
        clear o1 o2 kb5 hb5 p0 p1 r0 r1 fr
        go_wp2
        refine bodyPost_ret (v := .tuple #[.agg #[.slice a1 (fltS t ss).length q1, .slice a2 (fltT t ts).length q2], .int .i64 0]) (by simp [results, Tryz.results15, go_sem, s0, s1]) rfl ⟨(hB5.setCell (p := ⟨w.heap.size + 1, 0, none⟩) hR _).setCell (p := ⟨w.heap.size + 1, 1, none⟩) hR _, _, _, by rw [HD.out], ?_, ?_⟩
        · rw [(drop_yes HD.out).1]; exact ((HO1.out.set (by omega) _).set (by omega) _).wide (by omega) (by simp)
        · rw [(drop_yes HD.out).2]; exact ((HO2.out.set (by omega) _).set (by omega) _).wide (by omega) (by simp)
      · obtain ⟨q1, q2⟩ := hq
        have hlt : decide (r1' < 0) = true := by simpa using q1
        go_wp2_with fail
        refine (l3Target_any sa ta ss.length c1 c2 ts t _ (h.rt.below hB2) hsm.lt).mono ?_
        rintro e w3 ⟨hb2, r2', rfl, hq⟩
        have hB3 := bt hB2 hb2
        replace p0 := cell_below hb2 p0
        replace p1 := cell_below hb2 p1
        have kb3 : w3.heap[w.heap.size + 1]? = some (.cells #[.slice none 0 0, .slice none 0 0] 26 (0, 0)) := by rw [hb2.block _ (blkW_lt KB2.out)]; exact KB2.out
        replace r0 : w3.cell? ⟨w.heap.size + 1, 0, none⟩ = some (.slice none 0 0) := by rw [Lib.cell_of_heap kb3]; rfl
        replace r1 : w3.cell? ⟨w.heap.size + 1, 1, none⟩ = some (.slice none 0 0) := by rw [Lib.cell_of_heap kb3]; rfl
        replace fr : ∀ j, w3.frozen? ⟨w.heap.size + 1, j, none⟩ = false := fun j => Lib.frozen_of_heap kb3 j
        have KB3 : Hid (w3.heap[w.heap.size + 1]? = some (.cells #[.slice none 0 0, .slice none 0 0] 26 (0, 0))) := kb3
        clear hb2 kb3 KB2
        clear hlt
        rcases hq with hq | hq
        · obtain ⟨q3, q4⟩ := hq
          have hlt : decide (r2' < 0) = false := by simpa using q3
          have HD : Hid (dropC ss ts t = 0) := dropC0 hc hn (Or.inr q4)
          clear hc hn q1 q2 q3 q4
          go_wp2_with fail
          refine (l3Without_any sa ta c1 c2 ss ts t _ (h.rs.below hB3) (h.rt.below hB3) (by have := HC.out.len; omega) (by have := HC.out.len; omega) HC.out.codes).mono ?_
          rintro e w5 ⟨hb5, v1, v2, rfl, o1, o2⟩
          have hB5 := bt hB3 hb5
          have kb5 : w5.heap[w.heap.size + 1]? = some (.cells #[.slice none 0 0, .slice none 0 0] 26 (0, 0)) := by rw [hb5.block _ (blkW_lt KB3.out)]; exact KB3.out
          have s0 : w5.cell? ⟨w.heap.size + 1, 0, none⟩ = some (.slice none 0 0) := by rw [Lib.cell_of_heap kb5]; rfl
          have s1 : w5.cell? ⟨w.heap.size + 1, 1, none⟩ = some (.slice none 0 0) := by rw [Lib.cell_of_heap kb5]; rfl
          have fs : ∀ j, w5.frozen? ⟨w.heap.size + 1, j, none⟩ = false := fun j => Lib.frozen_of_heap kb5 j
          have hz : w.heap.size + 1 < w3.heap.size := blkW_lt KB3.out
          have HO1 : Hid (OwnS w5 w3.heap.size w5.heap.size v1 (fltS t ss)) := o1
          have HO2 : Hid (OwnT w5 w3.heap.size w5.heap.size v2 (fltT t ts)) := o2
          obtain ⟨a1, q1, rfl, _⟩ := o1.sl
          obtain ⟨a2, q2, rfl, _⟩ := o2.sl
          clear o1 o2 kb5 hb5 p0 p1 r0 r1 fr
          go_wp2
          refine bodyPost_ret (v := .tuple #[.agg #[.slice a1 (fltS t ss).length q1, .slice a2 (fltT t ts).length q2], .int .i64 0]) (by simp [results, Tryz.results15, go_sem, s0, s1]) rfl ⟨(hB5.setCell (p := ⟨w.heap.size + 1, 0, none⟩) hR _).setCell (p := ⟨w.heap.size + 1, 1, none⟩) hR _, _, _, by rw [HD.out], ?_, ?_⟩
          · rw [(drop_yes HD.out).1]; exact ((HO1.out.set (by omega) _).set (by omega) _).wide (by omega) (by simp)
          · rw [(drop_yes HD.out).2]; exact ((HO2.out.set (by omega) _).set (by omega) _).wide (by omega) (by simp)
        · obtain ⟨q3, q4⟩ := hq
          have hlt : decide (r2' < 0) = true := by simpa using q3
          have HD : Hid (dropC ss ts t = 4) := dropC4 hc hn (fun hh => hh.elim q2 q4)
          clear hc hn q1 q2 q3 q4
          go_wp2_with fail
          exact bodyPost_ret (v := .tuple #[.agg #[.slice none 0 0, .slice none 0 0], .int .i64 4]) (by simp [results, Tryz.results15, go_sem, r0, r1]) rfl ⟨(hB3.setCell (p := ⟨w.heap.size + 1, 0, none⟩) hR _).setCell (p := ⟨w.heap.size + 1, 1, none⟩) hR _, DropOut.no HD.out (by decide)⟩
    · have hnb := nameB_false hn
      have HD : Hid (dropC ss ts t = 2) := dropC2 hc hn
      clear hn hc
      go_wp2_with (go_at_call 29; refine (l2NameOk_any t _ ht).mono ?_; rintro e w9 ⟨rfl, rfl⟩; rw [hnb])
      exact bodyPost_ret (v := .tuple #[.agg #[.slice none 0 0, .slice none 0 0], .int .i64 2]) (by simp [results, Tryz.results15, go_sem, r0, r1]) rfl ⟨(hB1.setCell (p := ⟨w.heap.size + 1, 0, none⟩) hR _).setCell (p := ⟨w.heap.size + 1, 1, none⟩) hR _, DropOut.no HD.out (by decide)⟩
  · have hcb : (chk ss ts != 0) = true := by simpa using hc
    have HD : Hid (dropC ss ts t = 1) := dropC1 hc
    clear hc
    generalize chk ss ts = q at *
    go_wp2_with fail
    exact bodyPost_ret (v := .tuple #[.agg #[.slice none 0 0, .slice none 0 0], .int .i64 1]) (by simp [results, Tryz.results15, go_sem, r0, r1]) rfl ⟨(hB1.setCell (p := ⟨w.heap.size + 1, 0, none⟩) hR _).setCell (p := ⟨w.heap.size + 1, 1, none⟩) hR _, DropOut.no HD.out (by decide)⟩

end Go.Proofs.YtjdjhenijihpfaaGreatDoor
