/-
  impl.Note.
-/
import Derived.Test.YtmeojnaoljgieacDoorNtA
import Derived.Test.YtmeojnaoljgieacDoorOrd
namespace Go.Proofs.YtmeojnaoljgieacDoor
open Go.RowKit Go.Deep
set_option linter.unusedVariables false

set_option maxRecDepth 100000 in
set_option maxHeartbeats 2000000 in
theorem implNote_bad (a la ca : Option Addr) (ac lc cc : Nat) (is : List I3) (ls : List G3) (c : Int) (t : ByteArray) (nc : Nat) (n : Int) (out : ByteArray) (w : World) (hT : Tab w) (hr : Row3 w a is) (hl : is.length ≤ 1048576) (hx : ∀ i, (ix is i).text.size ≤ 9223372036854775807) (hls : ls.length ≤ 1048576)
    (HF : Hid (∀ (a : Option Addr) (cap : Nat) (w : World), Calls Tryd.prog 91 #[.agg #[.int .i64 c, .string t, .slice a nc cap]] w fun e w' => e = .returned (.string out) ∧ Below w.heap.size w w'))
    (hbad : progOk is = false ∨ (progOk is = true ∧ (n < 1 ∨ 8 < n)) ∨ (progOk is = true ∧ 1 ≤ n ∧ n ≤ 8 ∧ 200 < ls.length) ∨ (progOk is = true ∧ 1 ≤ n ∧ n ≤ 8 ∧ ls.length ≤ 200 ∧ out = ⟨#[]⟩)) :
    Calls Tryd.prog 36 #[.agg #[.slice a is.length ac], .slice la ls.length lc, .agg #[.int .i64 c, .string t, .slice ca nc cc], .int .i64 n] w fun e w' => Below w.heap.size w w' ∧ e = .returned (.agg #[.slice none 0 0, .slice none 0 0, .string ⟨#[]⟩]) := by
  have hb0 : Below w.heap.size w (((w.alloc (.cells #[.slice a is.length ac] 59)).alloc (.cells #[.int .i64 c, .string t, .slice ca nc cc] 77)).alloc (.cells #[.slice none 0 0, .slice none 0 0, .string ⟨#[]⟩] 73)) := (((Below.refl _ _).alloc (Nat.le_refl _) _).alloc (by simp) _).alloc (by simp; omega) _
  go_enter Tryd.func36, Tryd.ntmps36
  go_wp2_with fail
  refine (HF.out _ _ _).mono ?_
  rintro e w1 ⟨rfl, hb1⟩
  have hB1 := bt hb0 hb1
  have p0 : w1.cell? ⟨w.heap.size, 0, none⟩ = some (.slice a is.length ac) := cell_below hb1 (by simp [go_sem])
  have k0 : w1.cell? ⟨w.heap.size + 1 + 1, 0, none⟩ = some (.slice none 0 0) := cell_below hb1 (by simp [go_sem])
  have k1 : w1.cell? ⟨w.heap.size + 1 + 1, 1, none⟩ = some (.slice none 0 0) := cell_below hb1 (by simp [go_sem])
  have k2 : w1.cell? ⟨w.heap.size + 1 + 1, 2, none⟩ = some (.string ⟨#[]⟩) := cell_below hb1 (by simp [go_sem])
  have f1 : ∀ j, w1.frozen? ⟨w.heap.size + 1 + 1, j, none⟩ = false := fun j => by rw [hb1.frozen (p := ⟨w.heap.size + 1 + 1, j, none⟩) (by simp)]; simp [go_sem]
  have hz := hb1.size
  simp at hz
  clear hb0 hb1
  go_wp2_with fail
  refine (implValid_any a ac is _ (hT.below hB1) (hr.below hB1) hl hx).mono ?_
  rintro e w2 ⟨hb2, rfl⟩
  have hB2 := bt hB1 hb2
  have q0 := cell_below hb2 k0
  have q1 := cell_below hb2 k1
  have q2 := cell_below hb2 k2
  have f2 : ∀ j, w2.frozen? ⟨w.heap.size + 1 + 1, j, none⟩ = false := fun j => by rw [hb2.frozen (p := ⟨w.heap.size + 1 + 1, j, none⟩) (by simp; omega), f1]
  clear hB1 p0 k0 k1 k2 f1 hb2
  have hR : w.heap.size ≤ w.heap.size + 1 + 1 := by omega
  rcases hbad with h | ⟨h, h2⟩ | ⟨h, h2, h3, h4⟩ | ⟨h, h2, h3, h4, rfl⟩
  all_goals
    rw [h]
    clear h
    go_wp2_with (first | (go_at_call 92; refine (validWidth_no n _ (by omega)).mono ?_; rintro e w9 ⟨rfl, rfl⟩) | (go_at_call 92; refine (validWidth_yes n _ (by omega) (by omega)).mono ?_; rintro e w9 ⟨rfl, rfl⟩))
    exact bodyPost_ret (v := .agg #[.slice none 0 0, .slice none 0 0, .string ⟨#[]⟩]) (by simp [results, Tryd.results36, go_sem, q0, q1, q2]) rfl ⟨((hB2.setCell (p := ⟨w.heap.size + 1 + 1, 0, none⟩) hR _).setCell (p := ⟨w.heap.size + 1 + 1, 1, none⟩) hR _).setCell (p := ⟨w.heap.size + 1 + 1, 2, none⟩) hR _, rfl⟩

set_option maxRecDepth 100000 in
set_option maxHeartbeats 4000000 in
theorem implNote_good (a la ca : Option Addr) (ac lc cc : Nat) (is : List I3) (ls : List G3) (c : Int) (t : ByteArray) (nc : Nat) (n : Nat) (out : ByteArray) (w : World) (hT : Tab w) (hr : Row3 w a is) (hlr : RowG w la ls) (hl : is.length ≤ 1048576) (hx : ∀ i, (ix is i).text.size ≤ 9223372036854775807) (hls : ls.length ≤ 200)
    (HF : Hid (∀ (a : Option Addr) (cap : Nat) (w : World), Calls Tryd.prog 91 #[.agg #[.int .i64 c, .string t, .slice a nc cap]] w fun e w' => e = .returned (.string out) ∧ Below w.heap.size w w'))
    (hp : progOk is = true) (h1 : 1 ≤ n) (h2 : n ≤ 8) (ho : out ≠ ⟨#[]⟩) (hos : out.size ≤ 2002) (hsd : ∀ i, i < ls.length → (gx ls i).sum.size ≤ 1048576) (hnm : ∀ i, (gx ls i).name.size ≤ 9223372036854775807) :
    Calls Tryd.prog 36 #[.agg #[.slice a is.length ac], .slice la ls.length lc, .agg #[.int .i64 c, .string t, .slice ca nc cc], .int .i64 n] w fun e w' => Below w.heap.size w w' ∧ (((∀ i, i < ls.length → NameOk (gx ls i).name) ∧ ∃ v1 v2, e = .returned (.agg #[v1, v2, .string (sumB n out)]) ∧ RecOwn w.heap.size w' v1 v2 is (ls.map (glOf n))) ∨ ((∃ i, i < ls.length ∧ ¬ NameOk (gx ls i).name) ∧ e = .returned (.agg #[.slice none 0 0, .slice none 0 0, .string ⟨#[]⟩]))) := by
  have hil : 1 ≤ is.length := by
    unfold progOk at hp
    simp only [Bool.and_eq_true, decide_eq_true_eq] at hp
    exact hp.1.1
  have hoe : out.toList.isEmpty = false := by
    rcases h : out.toList with _ | ⟨x, l⟩
    · exfalso
      apply ho
      rw [ByteArray.toList_eq] at h
      exact WideShapes.bytes_inj h
    · rfl
  have hb0 : Below w.heap.size w (((w.alloc (.cells #[.slice a is.length ac] 59)).alloc (.cells #[.int .i64 c, .string t, .slice ca nc cc] 77)).alloc (.cells #[.slice none 0 0, .slice none 0 0, .string ⟨#[]⟩] 73)) := (((Below.refl _ _).alloc (Nat.le_refl _) _).alloc (by simp) _).alloc (by simp; omega) _
  go_enter Tryd.func36, Tryd.ntmps36
  go_wp2_with fail
  refine (HF.out _ _ _).mono ?_
  rintro e w1 ⟨rfl, hb1⟩
  have hB1 := bt hb0 hb1
  have p0 : w1.cell? ⟨w.heap.size, 0, none⟩ = some (.slice a is.length ac) := cell_below hb1 (by simp [go_sem])
  have kb : w1.heap[w.heap.size + 1 + 1]? = some (.cells #[.slice none 0 0, .slice none 0 0, .string ⟨#[]⟩] 73 (0, 0)) := by
    rw [hb1.block _ (by simp)]
    have h := heapN_new ((w.alloc (.cells #[.slice a is.length ac] 59)).alloc (.cells #[.int .i64 c, .string t, .slice ca nc cc] 77)) (.cells #[.slice none 0 0, .slice none 0 0, .string ⟨#[]⟩] 73)
    rw [show ((w.alloc (.cells #[.slice a is.length ac] 59)).alloc (.cells #[.int .i64 c, .string t, .slice ca nc cc] 77)).heap.size = w.heap.size + 1 + 1 from by simp] at h
    exact h
  clear hb0 hb1
  go_wp2_with fail
  refine (implValid_any a ac is _ (hT.below hB1) (hr.below hB1) hl hx).mono ?_
  rintro e w2 ⟨hb2, rfl⟩
  have hB2 := bt hB1 hb2
  have q0 := cell_below hb2 p0
  have kb2 : w2.heap[w.heap.size + 1 + 1]? = some (.cells #[.slice none 0 0, .slice none 0 0, .string ⟨#[]⟩] 73 (0, 0)) := by rw [hb2.block _ (blkN_lt kb)]; exact kb
  have hs1 : w.heap.size + 1 + 1 < w2.heap.size := blkN_lt kb2
  rw [hp]
  clear hB1 p0 kb hb2
  go_wp2_with (first | (go_at_call 92; refine (validWidth_yes n _ (by omega) (by omega)).mono ?_; rintro e w9 ⟨rfl, rfl⟩))
  refine (copyProgram_any a ac is _ (hr.below hB2) hil hl).mono ?_
  rintro e w3 ⟨hb3, g, cp, rfl, hown⟩
  have hB3 := bt hB2 hb3
  have kb3 : w3.heap[w.heap.size + 1 + 1]? = some (.cells #[.slice none 0 0, .slice none 0 0, .string ⟨#[]⟩] 73 (0, 0)) := by rw [hb3.block _ (blkN_lt kb2)]; exact kb2
  have HO3 : Hid (w3.ownsRow w2.heap.size 171 3 (.slice (some ⟨g, 0, none⟩) is.length cp) is.length (insV is)) := hown
  clear hB2 q0 kb2 hb3 hown
  go_wp2_with fail
  refine (implSum_yes out n _ (by omega) h1 h2).mono ?_
  rintro e w4 ⟨rfl, hb4⟩
  have hB4 := bt hB3 hb4
  have kb4 : w4.heap[w.heap.size + 1 + 1]? = some (.cells #[.slice none 0 0, .slice none 0 0, .string ⟨#[]⟩] 73 (0, 0)) := by rw [hb4.block _ (blkN_lt kb3)]; exact kb3
  have HO4 : Hid (w4.ownsRow w2.heap.size 171 3 (.slice (some ⟨g, 0, none⟩) is.length cp) is.length (insV is)) := ownsRow_below HO3.out hb4
  clear hB3 kb3 hb4 HO3
  obtain ⟨sm, esm⟩ : ∃ sm, sumB n out = sm := ⟨_, rfl⟩
  have ESM : Hid (sumB n out = sm) := esm
  rw [show (⟨(digs (hash out.data.toList) n).toArray⟩ : ByteArray) = sm from esm]
  clear esm
  obtain ⟨P, eP⟩ : ∃ P, w4.heap.size = P := ⟨_, rfl⟩
  obtain ⟨w5, ew5⟩ : ∃ w5, w4.alloc (.cells #[.slice (some ⟨g, 0, none⟩) is.length cp, .slice none 0 0, .string sm] 73) = w5 := ⟨_, rfl⟩
  have hw5 : w5.heap.size = P + 1 := by rw [← ew5, ← eP]; simp
  have HN0 : Hid (NS w5 P (.slice (some ⟨g, 0, none⟩) is.length cp) (.slice none 0 0) sm 0 (ls.map (glOf n))) := by
    rw [← ew5, ← eP]
    exact ⟨heapN_new _ _, [], World.ownsRow_nil _ _ 133 3, fun i hi => by omega⟩
  have hB5 : Below w.heap.size w w5 := by rw [← ew5]; exact hB4.alloc hB4.size _
  have hwP : w.heap.size + 1 + 1 < P := by rw [← eP]; exact blkN_lt kb4
  have KB5 : Hid (w5.heap[w.heap.size + 1 + 1]? = some (.cells #[.slice none 0 0, .slice none 0 0, .string ⟨#[]⟩] 73 (0, 0))) := by show _ = _; rw [← ew5, Lib.alloc_old _ _ _ (by omega)]; exact kb4
  have HO5 : Hid (w5.ownsRow w.heap.size 171 3 (.slice (some ⟨g, 0, none⟩) is.length cp) is.length (insV is)) := by show World.ownsRow _ _ _ _ _ _ _; rw [← ew5]; exact own_base (HO4.out.alloc _) (by omega)
  have hgR : w.heap.size + 1 + 1 < g := by have := (HO4.out.lt g rfl).1; omega
  have hgP : g < P := by rw [← eP]; exact (HO4.out.lt g rfl).2
  go_wp2
  clear ew5 eP hB4 kb4 HO4
  have HW5 : Hid (w5.heap.size = P + 1) := hw5
  clear hw5
  go_loopw [41] (fun i wr => ∃ (k : Nat) (v : Value), k ≤ ls.length ∧ i = .int .i64 k ∧ Hid (NS wr P (.slice (some ⟨g, 0, none⟩) is.length cp) v sm k (ls.map (glOf n))) ∧ Hid (∀ j, j < k → NameOk (gx ls j).name) ∧ Below P w5 wr ∧ P + 1 ≤ wr.heap.size) (fun i _ => ls.length - (intOf i).toNat)
  case atStart => exact ⟨0, _, Nat.zero_le _, rfl, HN0.out, (fun j hj => by omega : ∀ j, j < 0 → NameOk (gx ls j).name), Below.refl _ _, by rw [HW5.out]; exact Nat.le_refl _⟩
  case round =>
    obtain ⟨k, v, hk, rfl, HN, HA, hbr, hsz⟩ := hrel
    clear HN0 HF
    have hw : Below w.heap.size w wr := hB5.trans (hbr.mono (by omega))
    by_cases hlt : k < ls.length
    · obtain ⟨b, off, rfl, c1, c2, c3⟩ := (hlr.below hw) k hlt
      have hsk := hsd k hlt
      have hnk := hnm k
      have hgk := gx_map n ls k hlt
      obtain ⟨s, es⟩ : ∃ s, gx ls k = s := ⟨_, rfl⟩
      rw [es] at c1 c2 c3 hsk hnk hgk
      have ES : Hid (gx ls k = s) := es
      have HG : Hid (gx (ls.map (glOf n)) k = glOf n s) := hgk
      clear es hgk hsd hnm hlr hr hT
      have hkI : (k : Int) < (ls.length : Int) := by omega
      have hk0 : (0 : Int) ≤ (k : Int) := by omega
      by_cases hno : NameOk s.name
      · have hnb := nameB_true hno
        obtain ⟨_, cP, _⟩ := HN.out.cell
        have hPl : P < wr.heap.size := by omega
        go_wp2_with (go_at_call 85; refine (validName_any s.name _ hnk).mono ?_; rintro e w9 ⟨rfl, rfl⟩; rw [hnb])
        obtain ⟨W, eW⟩ : ∃ W, wr.alloc (.cells #[.string s.name, .bool s.ask, .string s.sum] 131) = W := ⟨_, rfl⟩
        obtain ⟨q, eq⟩ : ∃ q, wr.heap.size = q := ⟨_, rfl⟩
        have d0 : W.cell? ⟨q, 0, none⟩ = some (.string s.name) := by rw [← eW, ← eq]; simp [go_sem]
        have d1 : W.cell? ⟨q, 1, none⟩ = some (.bool s.ask) := by rw [← eW, ← eq]; simp [go_sem]
        have d2 : W.cell? ⟨q, 2, none⟩ = some (.string s.sum) := by rw [← eW, ← eq]; simp [go_sem]
        have hbW : Below wr.heap.size wr W := by rw [← eW]; exact (Below.refl _ _).alloc (Nat.le_refl _) _
        have dP := cell_below hbW cP
        have hWq : W.heap.size = q + 1 := by rw [← eW, ← eq]; simp
        have HQ : Hid (W.heap.size = q + 1) := hWq
        have HNW : Hid (NS W P (.slice (some ⟨g, 0, none⟩) is.length cp) v sm k (ls.map (glOf n))) := HN.out.below hbW
        obtain ⟨ys0, hy0, _⟩ := HN.out.own
        have HVQ : Hid (some q ≠ v.ownBlock) := fun e => by have := (hy0.lt q e.symm).2; omega
        have HVP : Hid (some P ≠ v.ownBlock) := fun e => by have := (hy0.lt P e.symm).1; omega
        have hbP : Below P w5 W := hbr.trans (hbW.mono (by omega))
        have hPq : P < q := by omega
        rw [eW, eq]
        clear eW eq hbW hWq cP hbr hsz hPl hy0 HN c1 c2 c3
        obtain ⟨u, eu⟩ : ∃ u, sumB n s.sum = u := ⟨_, rfl⟩
        have HS : Hid (∀ W' : World, Calls Tryd.prog 93 #[.string s.sum, .int .i64 n] W' fun e w' => e = .returned (.string u) ∧ Below W'.heap.size W' w') := fun W' => by rw [← eu]; exact implSum_yes s.sum n W' hsk h1 h2
        have HU : Hid (sumB n s.sum = u) := eu
        clear eu
        obtain ⟨ys, hys, hfy⟩ := HNW.out.own
        have HYS : Hid (W.ownsRow (P + 1) 133 3 v k ys) := hys
        have HFY : Hid (FilledG (ls.map (glOf n)) k ys) := hfy
        clear hys hfy
        have hWq1 : q + 1 ≤ W.heap.size := by rw [HQ.out]; exact Nat.le_refl _
        refine Lt.begin 14 (fun w' => w'.cell? ⟨P, 1, none⟩ = some v ∧ w'.cell? ⟨q, 0, none⟩ = some (.string s.name) ∧ w'.cell? ⟨q, 1, none⟩ = some (.bool s.ask) ∧ w'.cell? ⟨q, 2, none⟩ = some (.string s.sum)) (by kernel_rfl) ?_
        have hS0 : W.drew.cell? ⟨P, 1, none⟩ = some v ∧ W.drew.cell? ⟨q, 0, none⟩ = some (.string s.name) ∧ W.drew.cell? ⟨q, 1, none⟩ = some (.bool s.ask) ∧ W.drew.cell? ⟨q, 2, none⟩ = some (.string s.sum) := by simp [*]
        refine Lt.take (i := 0) (oi := { dst := some 50, op := Op.fieldAddr 73 (Operand.tmp 10) 1, type := 0, pos := "l4_records.go:188", after := #[], guard := none }) (v := ?_) rfl (by kernel_rfl) (by kernel_rfl) (by kernel_rfl) (by kernel_rfl) (fun _ _ _ h => h) hS0 (Or.inl ⟨by rfl, ?_⟩) ?_
        rotate_left 1
        · intro w hSw
          try dsimp only at hSw
          go_simp
          first | done | with_reducible rfl
        simp only [Act.put, List.setIfInBounds_toArray, List.set_cons_zero, List.set_cons_succ]
        refine Lt.take (i := 1) (oi := { dst := some 51, op := Op.load 71 (Operand.tmp 50), type := 71, pos := "l4_records.go:188", after := #[{ on := 0, ground := Ground.data }], guard := none }) (v := ?_) rfl (by kernel_rfl) (by kernel_rfl) (by kernel_rfl) (by kernel_rfl) (fun _ _ _ h => h) hS0 (Or.inl ⟨by rfl, ?_⟩) ?_
        rotate_left 1
        · intro w hSw
          try dsimp only at hSw
          go_simp
          first | done | with_reducible rfl
        simp only [Act.put, List.setIfInBounds_toArray, List.set_cons_zero, List.set_cons_succ]
        refine Lt.take (i := 2) (oi := { dst := some 52, op := Op.fieldAddr 131 (Operand.tmp 12) 0, type := 0, pos := "l4_records.go:188", after := #[], guard := none }) (v := ?_) rfl (by kernel_rfl) (by kernel_rfl) (by kernel_rfl) (by kernel_rfl) (fun _ _ _ h => h) hS0 (Or.inl ⟨by rfl, ?_⟩) ?_
        rotate_left 1
        · intro w hSw
          try dsimp only at hSw
          go_simp
          first | done | with_reducible rfl
        simp only [Act.put, List.setIfInBounds_toArray, List.set_cons_zero, List.set_cons_succ]
        refine Lt.take (i := 3) (oi := { dst := some 53, op := Op.load 9 (Operand.tmp 52), type := 9, pos := "l4_records.go:188", after := #[{ on := 2, ground := Ground.data }], guard := none }) (v := ?_) rfl (by kernel_rfl) (by kernel_rfl) (by kernel_rfl) (by kernel_rfl) (fun _ _ _ h => h) hS0 (Or.inl ⟨by rfl, ?_⟩) ?_
        rotate_left 1
        · intro w hSw
          try dsimp only at hSw
          go_simp
          first | done | with_reducible rfl
        simp only [Act.put, List.setIfInBounds_toArray, List.set_cons_zero, List.set_cons_succ]
        refine Lt.take (i := 4) (oi := { dst := some 54, op := Op.fieldAddr 131 (Operand.tmp 12) 1, type := 0, pos := "l4_records.go:188", after := #[], guard := none }) (v := ?_) rfl (by kernel_rfl) (by kernel_rfl) (by kernel_rfl) (by kernel_rfl) (fun _ _ _ h => h) hS0 (Or.inl ⟨by rfl, ?_⟩) ?_
        rotate_left 1
        · intro w hSw
          try dsimp only at hSw
          go_simp
          first | done | with_reducible rfl
        simp only [Act.put, List.setIfInBounds_toArray, List.set_cons_zero, List.set_cons_succ]
        refine Lt.take (i := 5) (oi := { dst := some 55, op := Op.load 4 (Operand.tmp 54), type := 4, pos := "l4_records.go:188", after := #[{ on := 4, ground := Ground.data }], guard := none }) (v := ?_) rfl (by kernel_rfl) (by kernel_rfl) (by kernel_rfl) (by kernel_rfl) (fun _ _ _ h => h) hS0 (Or.inl ⟨by rfl, ?_⟩) ?_
        rotate_left 1
        · intro w hSw
          try dsimp only at hSw
          go_simp
          first | done | with_reducible rfl
        simp only [Act.put, List.setIfInBounds_toArray, List.set_cons_zero, List.set_cons_succ]
        refine Lt.take (i := 6) (oi := { dst := some 56, op := Op.fieldAddr 131 (Operand.tmp 12) 2, type := 0, pos := "l4_records.go:188", after := #[], guard := none }) (v := ?_) rfl (by kernel_rfl) (by kernel_rfl) (by kernel_rfl) (by kernel_rfl) (fun _ _ _ h => h) hS0 (Or.inl ⟨by rfl, ?_⟩) ?_
        rotate_left 1
        · intro w hSw
          try dsimp only at hSw
          go_simp
          first | done | with_reducible rfl
        simp only [Act.put, List.setIfInBounds_toArray, List.set_cons_zero, List.set_cons_succ]
        refine Lt.take (i := 7) (oi := { dst := some 57, op := Op.load 9 (Operand.tmp 56), type := 9, pos := "l4_records.go:188", after := #[{ on := 6, ground := Ground.data }], guard := none }) (v := ?_) rfl (by kernel_rfl) (by kernel_rfl) (by kernel_rfl) (by kernel_rfl) (fun _ _ _ h => h) hS0 (Or.inl ⟨by rfl, ?_⟩) ?_
        rotate_left 1
        · intro w hSw
          try dsimp only at hSw
          go_simp
          first | done | with_reducible rfl
        simp only [Act.put, List.setIfInBounds_toArray, List.set_cons_zero, List.set_cons_succ]
        refine Lt.take (i := 8) (oi := { dst := some 58, op := Op.move (Operand.tmp 3), type := 3, pos := "l4_records.go:188", after := #[], guard := none }) (v := ?_) rfl (by kernel_rfl) (by kernel_rfl) (by kernel_rfl) (by kernel_rfl) (fun _ _ _ h => h) hS0 (Or.inl ⟨by rfl, ?_⟩) ?_
        rotate_left 1
        · intro w hSw
          try dsimp only at hSw
          go_simp
          first | done | with_reducible rfl
        simp only [Act.put, List.setIfInBounds_toArray, List.set_cons_zero, List.set_cons_succ]
        refine Lt.step (i := 9) (o := { dst := some 59, op := Op.call { callee := Callee.value (Operand.func 93), args := #[Operand.tmp 57, Operand.tmp 58], argTypes := #[9, 3] }, type := 9, pos := "l4_records.go:188", after := #[{ on := 7, ground := Ground.data }, { on := 8, ground := Ground.data }], guard := none }) (by kernel_rfl) rfl (fun K hK => ?_)
        go_simp
        refine (HS.out _).mono ?_
        rintro e w6 ⟨rfl, hb6⟩
        have hb7 : Below W.heap.size W w6 := (Below.drew (Below.refl _ _)).trans (hb6.mono (by simp))
        refine hK.out _ _ (fun _ => ⟨cell_below hb7 dP, cell_below hb7 d0, cell_below hb7 d1, cell_below hb7 d2⟩) (fun hS6 => ?_)
        replace hS6 := hS6 (by decide)
        clear hK K hS0 hb6
        refine Lt.take (i := 10) (oi := { dst := some 60, op := Op.build 133 #[(0, Operand.tmp 53), (1, Operand.tmp 55), (2, Operand.tmp 59)], type := 133, pos := "l4_records.go:188", after := #[{ on := 3, ground := Ground.data }, { on := 5, ground := Ground.data }, { on := 9, ground := Ground.data }], guard := none }) (v := ?_) rfl (by kernel_rfl) (by kernel_rfl) (by kernel_rfl) (by kernel_rfl) (fun _ _ _ h => h) hS6 (Or.inl ⟨by rfl, ?_⟩) ?_
        rotate_left 1
        · intro w hSw
          try dsimp only at hSw
          go_simp
          first | done | with_reducible rfl
        simp only [Act.put, List.setIfInBounds_toArray, List.set_cons_zero, List.set_cons_succ]
        refine Lt.step (i := 11) (o := { dst := some 61, op := Op.buildSlice 71 1 #[(0, Operand.tmp 60)], type := 71, pos := "l4_records.go:188", after := #[{ on := 10, ground := Ground.data }], guard := none }) (by kernel_rfl) rfl (fun K hK => ?_)
        go_simp
        refine hK.out _ _ (fun _ => ⟨cellA hS6.1, cellA hS6.2.1, cellA hS6.2.2.1, cellA hS6.2.2.2⟩) (fun hS8 => ?_)
        replace hS8 := hS8 (by decide)
        clear hK K hS6
        refine Lt.step (i := 12) (o := { dst := some 62, op := Op.call { callee := Callee.builtin Builtin.append, args := #[Operand.tmp 51, Operand.tmp 61], argTypes := #[71, 71] }, type := 71, pos := "l4_records.go:188", after := #[{ on := 1, ground := Ground.data }, { on := 11, ground := Ground.data }, { on := 9, ground := Ground.chain }], guard := none }) (by kernel_rfl) rfl (fun K hK => ?_)
        refine step_appG rfl (by rfl) (P + 1) v k ys (by rfl) ((ownsRow_below HYS.out hb7).alloc _) w6.heap.size s.name s.ask u (by rfl) (heapN_new _ _) (by have := hb7.size; simp; omega) (by omega) ?_
        intro g' cap' w7 hown7 hgrow
        have hsz6 := hb7.size
        have x0 : w7.cell? ⟨P, 1, none⟩ = some v := by rw [hgrow.cell_far ⟨P, 1, none⟩ (by simp; omega) HVP.out]; exact hS8.1
        have x1 : w7.cell? ⟨q, 0, none⟩ = some (.string s.name) := by rw [hgrow.cell_far ⟨q, 0, none⟩ (by simp; omega) HVQ.out]; exact hS8.2.1
        have x2 : w7.cell? ⟨q, 1, none⟩ = some (.bool s.ask) := by rw [hgrow.cell_far ⟨q, 1, none⟩ (by simp; omega) HVQ.out]; exact hS8.2.2.1
        have x3 : w7.cell? ⟨q, 2, none⟩ = some (.string s.sum) := by rw [hgrow.cell_far ⟨q, 2, none⟩ (by simp; omega) HVQ.out]; exact hS8.2.2.2
        have HNP : Hid (NS (w7.setCell ⟨P, 1, none⟩ (.slice (some ⟨g', 0, none⟩) (k + 1) cap')) P (.slice (some ⟨g, 0, none⟩) is.length cp) (.slice (some ⟨g', 0, none⟩) (k + 1) cap') sm (k + 1) (ls.map (glOf n))) := NS.add HNW.out HYS.out HFY.out hb7 hgrow hown7 (by rw [HG.out]; unfold glOf; rw [HU.out])
        have hbP7 : Below P w5 w7 := ((hbP.trans (hb7.mono (by omega))).alloc (by omega) _).grown hgrow (by simp; omega) (fun m hm => by have := (HYS.out.lt m hm).1; omega)
        have hs7 : P + 1 ≤ w7.heap.size := by have h2 := hgrow.size; simp at h2; omega
        have fz : w7.frozen? ⟨P, 1, none⟩ = false := by rw [hgrow.frozen_far ⟨P, 1, none⟩ (by simp; omega) HVP.out]; exact Lib.frozen_of_heap (by rw [Lib.alloc_old _ _ _ (by omega)]; exact (HNW.out.below hb7).blk) 1
        refine hK.out _ _ (fun _ => ⟨x0, x1, x2, x3⟩) (fun hS9 => ?_)
        replace hS9 := hS9 (by decide)
        clear hK K hS8 hgrow hown7
        simp only [Act.put, List.setIfInBounds_toArray, List.set_cons_zero, List.set_cons_succ]
        refine Lt.take (i := 13) (oi := { dst := some 63, op := Op.fieldAddr 73 (Operand.tmp 10) 1, type := 0, pos := "l4_records.go:188", after := #[{ on := 0, ground := Ground.phase }, { on := 1, ground := Ground.phase }, { on := 2, ground := Ground.phase }, { on := 3, ground := Ground.phase }, { on := 4, ground := Ground.phase }, { on := 5, ground := Ground.phase }, { on := 6, ground := Ground.phase }, { on := 7, ground := Ground.phase }, { on := 8, ground := Ground.phase }, { on := 9, ground := Ground.phase }, { on := 10, ground := Ground.phase }, { on := 11, ground := Ground.phase }, { on := 12, ground := Ground.phase }], guard := none }) (v := ?_) rfl (by kernel_rfl) (by kernel_rfl) (by kernel_rfl) (by kernel_rfl) (fun _ _ _ h => h) hS9 (Or.inl ⟨by rfl, ?_⟩) ?_
        rotate_left 1
        · intro w hSw
          try dsimp only at hSw
          go_simp
          first | done | with_reducible rfl
        simp only [Act.put, List.setIfInBounds_toArray, List.set_cons_zero, List.set_cons_succ]
        refine Lt.step (i := 14) (o := { dst := none, op := Op.store 71 (Operand.tmp 63) (Operand.tmp 62), type := 0, pos := "l4_records.go:188", after := #[{ on := 13, ground := Ground.data }, { on := 12, ground := Ground.data }, { on := 12, ground := Ground.chain }, { on := 0, ground := Ground.phase }, { on := 1, ground := Ground.phase }, { on := 2, ground := Ground.phase }, { on := 3, ground := Ground.phase }, { on := 4, ground := Ground.phase }, { on := 5, ground := Ground.phase }, { on := 6, ground := Ground.phase }, { on := 7, ground := Ground.phase }, { on := 8, ground := Ground.phase }, { on := 9, ground := Ground.phase }, { on := 10, ground := Ground.phase }, { on := 11, ground := Ground.phase }, { on := 12, ground := Ground.phase }], guard := none }) (by kernel_rfl) rfl (fun K hK => ?_)
        go_simp
        refine hK.out _ _ (fun h => absurd rfl h) (fun _ => ?_)
        clear hK K hS9
        refine Lt.done (by kernel_rfl) ?_ _
        go_wp2
        go_roundw
        case rel => exact ⟨k + 1, _, by omega, by go_num, HNP.out, ext_succ HA.out (by rw [ES.out]; exact hno), hbP7.setCell (p := ⟨P, 1, none⟩) (Nat.le_refl _) _, by simpa using hs7⟩
        case measure => simp [intOf]; omega
      · have hnb := nameB_false hno
        have kbr : wr.heap[w.heap.size + 1 + 1]? = some (.cells #[.slice none 0 0, .slice none 0 0, .string ⟨#[]⟩] 73 (0, 0)) := by rw [hbr.block _ hwP]; exact KB5.out
        have r0 : ∀ x, (wr.alloc x).cell? ⟨w.heap.size + 1 + 1, 0, none⟩ = some (.slice none 0 0) := fun x => cellA (by rw [Lib.cell_of_heap kbr]; rfl)
        have r1 : ∀ x, (wr.alloc x).cell? ⟨w.heap.size + 1 + 1, 1, none⟩ = some (.slice none 0 0) := fun x => cellA (by rw [Lib.cell_of_heap kbr]; rfl)
        have r2 : ∀ x, (wr.alloc x).cell? ⟨w.heap.size + 1 + 1, 2, none⟩ = some (.string ⟨#[]⟩) := fun x => cellA (by rw [Lib.cell_of_heap kbr]; rfl)
        have fr : ∀ x j, (wr.alloc x).frozen? ⟨w.heap.size + 1 + 1, j, none⟩ = false := fun x j => Lib.frozen_of_heap (by rw [Lib.alloc_old _ _ _ (by omega)]; exact kbr) j
        have hR : w.heap.size ≤ w.heap.size + 1 + 1 := by omega
        have hwA : ∀ x, Below w.heap.size w (wr.alloc x) := fun x => hw.alloc hw.size _
        clear kbr hbr hw
        go_wp2_with (go_at_call 85; refine (validName_any s.name _ hnk).mono ?_; rintro e w9 ⟨rfl, rfl⟩; rw [hnb])
        exact bodyPost_ret (v := .agg #[.slice none 0 0, .slice none 0 0, .string ⟨#[]⟩]) (by simp [results, Tryd.results36, go_sem, r0, r1, r2]) rfl ⟨(((hwA _).setCell (p := ⟨w.heap.size + 1 + 1, 0, none⟩) hR _).setCell (p := ⟨w.heap.size + 1 + 1, 1, none⟩) hR _).setCell (p := ⟨w.heap.size + 1 + 1, 2, none⟩) hR _, Or.inr ⟨⟨k, hlt, by rw [ES.out]; exact hno⟩, rfl⟩⟩
    · have ek : k = ls.length := by omega
      subst ek
      obtain ⟨c0, c1, c2⟩ := HN.out.cell
      obtain ⟨ys, hys, hfy⟩ := HN.out.own
      have kbr : wr.heap[w.heap.size + 1 + 1]? = some (.cells #[.slice none 0 0, .slice none 0 0, .string ⟨#[]⟩] 73 (0, 0)) := by rw [hbr.block _ hwP]; exact KB5.out
      have r0 : wr.cell? ⟨w.heap.size + 1 + 1, 0, none⟩ = some (.slice none 0 0) := by rw [Lib.cell_of_heap kbr]; rfl
      have r1 : wr.cell? ⟨w.heap.size + 1 + 1, 1, none⟩ = some (.slice none 0 0) := by rw [Lib.cell_of_heap kbr]; rfl
      have r2 : wr.cell? ⟨w.heap.size + 1 + 1, 2, none⟩ = some (.string ⟨#[]⟩) := by rw [Lib.cell_of_heap kbr]; rfl
      have fr : ∀ j, wr.frozen? ⟨w.heap.size + 1 + 1, j, none⟩ = false := fun j => Lib.frozen_of_heap kbr j
      have hR : w.heap.size ≤ w.heap.size + 1 + 1 := by omega
      have o1 : wr.ownsRow w.heap.size 171 3 (.slice (some ⟨g, 0, none⟩) is.length cp) is.length (insV is) := by
        refine ⟨HO5.out.1, ?_⟩
        rcases HO5.out.2 with ⟨h2, _⟩ | ⟨g', cap, cur, hv, hg, hh, r⟩
        · cases h2
        · cases hv
          exact Or.inr ⟨g, cp, cur, rfl, hg, by rw [hbr.block g hgP]; exact hh, r⟩
      have HO1 : Hid (wr.ownsRow w.heap.size 171 3 (.slice (some ⟨g, 0, none⟩) is.length cp) is.length (insV is)) := o1
      have HYS : Hid (wr.ownsRow w.heap.size 133 3 v ls.length ys) := own_base hys (by omega)
      have HV : Hid (∀ b, v.ownBlock = some b → b ≠ w.heap.size + 1 + 1) := fun b hb => by have := (hys.lt b hb).1; omega
      have HFY : Hid (FilledG (ls.map (glOf n)) ls.length ys) := hfy
      obtain ⟨va, vn, vc, rfl⟩ : ∃ va vn vc, v = .slice va vn vc := by
        rcases own_cases hys with ⟨h, _⟩ | ⟨g', c', h⟩
        · exact ⟨_, _, _, h⟩
        · exact ⟨_, _, _, h⟩
      clear kbr hbr o1 hys hfy HN
      go_wp2
      refine bodyPost_ret (v := .agg #[.slice (some ⟨g, 0, none⟩) is.length cp, .slice va vn vc, .string sm]) (by simp [results, Tryd.results36, go_sem, r0, r1, r2]) rfl ⟨((hw.setCell (p := ⟨w.heap.size + 1 + 1, 0, none⟩) hR _).setCell (p := ⟨w.heap.size + 1 + 1, 1, none⟩) hR _).setCell (p := ⟨w.heap.size + 1 + 1, 2, none⟩) hR _, Or.inl ⟨HA.out, _, _, by rw [ESM.out], insV is, ys, ?_, insV_filled is, ?_, by rw [List.length_map]; exact HFY.out⟩⟩
      · have hne : ∀ b, (Value.slice (some ⟨g, 0, none⟩) is.length cp).ownBlock = some b → b ≠ w.heap.size + 1 + 1 := fun b hb => by cases hb; show g ≠ _; omega
        exact own_setB (own_setB (own_setB HO1.out hne _) hne _) hne _
      · rw [List.length_map]
        exact own_setB (own_setB (own_setB HYS.out HV.out _) HV.out _) HV.out _

theorem implNote_any (a la ca : Option Addr) (ac lc cc : Nat) (is : List I3) (ls : List G3) (c : Int) (t : ByteArray) (nc : Nat) (n : Int) (out : ByteArray) (w : World) (hT : Tab w) (hr : Row3 w a is) (hlr : RowG w la ls) (hl : is.length ≤ 1048576) (hx : ∀ i, (ix is i).text.size ≤ 9223372036854775807) (hls : ls.length ≤ 1048576)
    (HF : ∀ (a : Option Addr) (cap : Nat) (w : World), Calls Tryd.prog 91 #[.agg #[.int .i64 c, .string t, .slice a nc cap]] w fun e w' => e = .returned (.string out) ∧ Below w.heap.size w w')
    (hos : out.size ≤ 2002) (hsd : ∀ i, i < ls.length → (gx ls i).sum.size ≤ 1048576) (hnm : ∀ i, (gx ls i).name.size ≤ 9223372036854775807) :
    Calls Tryd.prog 36 #[.agg #[.slice a is.length ac], .slice la ls.length lc, .agg #[.int .i64 c, .string t, .slice ca nc cc], .int .i64 n] w fun e w' => Below w.heap.size w w' ∧ ∃ is' gs o, NoteP is ls n out is' gs o ∧ NoteOut w.heap.size w' e is' gs o := by
  by_cases hg : progOk is = true ∧ 1 ≤ n ∧ n ≤ 8 ∧ ls.length ≤ 200 ∧ out ≠ ⟨#[]⟩
  · obtain ⟨g1, g2, g3, g4, g5⟩ := hg
    obtain ⟨m, rfl⟩ := Int.eq_ofNat_of_zero_le (show 0 ≤ n by omega)
    refine (implNote_good a la ca ac lc cc is ls c t nc m out w hT hr hlr hl hx g4 HF g1 (by omega) (by omega) g5 hos hsd hnm).mono ?_
    rintro e w' ⟨hb, ⟨hn, v1, v2, he, ho⟩ | ⟨⟨i, hi, hn⟩, he⟩⟩
    · exact ⟨hb, _, _, _, Or.inl ⟨⟨g1, g2, g3, g4, g5, hn⟩, rfl, rfl, rfl⟩, v1, v2, he, ho⟩
    · exact ⟨hb, _, _, _, Or.inr ⟨fun h => hn (h.2.2.2.2.2 i hi), rfl, rfl, rfl⟩, _, _, he, recOwn_none _ _⟩
  · have hbad : progOk is = false ∨ (progOk is = true ∧ (n < 1 ∨ 8 < n)) ∨ (progOk is = true ∧ 1 ≤ n ∧ n ≤ 8 ∧ 200 < ls.length) ∨ (progOk is = true ∧ 1 ≤ n ∧ n ≤ 8 ∧ ls.length ≤ 200 ∧ out = ⟨#[]⟩) := by
      rcases Bool.eq_false_or_eq_true (progOk is) with h1 | h1
      · rcases Decidable.em (1 ≤ n ∧ n ≤ 8) with h2 | h2
        · rcases Nat.lt_or_ge 200 ls.length with h3 | h3
          · exact Or.inr (Or.inr (Or.inl ⟨h1, h2.1, h2.2, h3⟩))
          · exact Or.inr (Or.inr (Or.inr ⟨h1, h2.1, h2.2, h3, Classical.byContradiction fun h4 => hg ⟨h1, h2.1, h2.2, h3, h4⟩⟩))
        · exact Or.inr (Or.inl ⟨h1, by omega⟩)
      · exact Or.inl h1
    refine (implNote_bad a la ca ac lc cc is ls c t nc n out w hT hr hl hx hls HF hbad).mono ?_
    rintro e w' ⟨hb, he⟩
    exact ⟨hb, _, _, _, Or.inr ⟨fun h => hg ⟨h.1, h.2.1, h.2.2.1, h.2.2.2.1, h.2.2.2.2.1⟩, rfl, rfl, rfl⟩, _, _, he, recOwn_none _ _⟩

end Go.Proofs.YtmeojnaoljgieacDoor
