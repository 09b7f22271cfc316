import Derived.Test.YtjdjhenijihpfaaGreatDoorWoA
namespace Go.Proofs.YtjdjhenijihpfaaGreatDoor
open Go.RowKit Go.Deep
set_option linter.unusedVariables false

set_option maxRecDepth 100000 in
set_option maxHeartbeats 8000000 in
theorem without_any (sa ta : Option Addr) (c1 c2 : Nat) (ss : List S2) (ts : List T2) (t : ByteArray) (w : World) (rs : RowS w sa ss) (rt : RowT w ta ts) (h1 : ss.length ≤ 200) (h2 : ts.length ≤ 200) (hkt : ∀ i, i < ts.length → 1 ≤ (tx ts i).code.length ∧ (tx ts i).code.length ≤ 1048576) :
    Calls Tryz.prog 49 #[.agg #[.slice sa ss.length c1, .slice ta ts.length c2], .string t] w fun e w' => Below w.heap.size w w' ∧ ∃ v1 v2, e = .returned (.agg #[v1, v2]) ∧ OwnS w' w.heap.size w'.heap.size v1 (fltS t ss) ∧ OwnT w' w.heap.size w'.heap.size v2 (fltT t ts) := by
  obtain ⟨P, eP⟩ : ∃ P, w.heap.size + 1 + 1 = P := ⟨_, rfl⟩
  obtain ⟨w5, ew5⟩ : ∃ w5, ((w.alloc (.cells #[.slice sa ss.length c1, .slice ta ts.length c2] 26)).alloc (.cells #[.slice none 0 0, .slice none 0 0] 26)).alloc (.cells #[.slice none 0 0, .slice none 0 0] 26) = w5 := ⟨_, rfl⟩
  have hw5 : w5.heap.size = P + 1 := by rw [← ew5, ← eP]; simp
  have hB5 : Below w.heap.size w w5 := by rw [← ew5]; exact (((Below.refl _ _).alloc (Nat.le_refl _) _).alloc (by simp) _).alloc (by simp; omega) _
  have s0 : w5.cell? ⟨w.heap.size, 0, none⟩ = some (.slice sa ss.length c1) := by rw [← ew5]; simp [go_sem]
  have s1 : w5.cell? ⟨w.heap.size, 1, none⟩ = some (.slice ta ts.length c2) := by rw [← ew5]; simp [go_sem]
  have HW0 : Hid (WS w5 P (.slice none 0 0) (.slice none 0 0) (fltS t (ss.take 0)) []) := WS.zero (by
    have h := heapW_new ((w.alloc (.cells #[.slice sa ss.length c1, .slice ta ts.length c2] 26)).alloc (.cells #[.slice none 0 0, .slice none 0 0] 26)) (.cells #[.slice none 0 0, .slice none 0 0] 26)
    rw [ew5, show ((w.alloc (.cells #[.slice sa ss.length c1, .slice ta ts.length c2] 26)).alloc (.cells #[.slice none 0 0, .slice none 0 0] 26)).heap.size = P from by rw [← eP]; simp] at h
    exact h)
  have KB5 : Hid (w5.heap[w.heap.size + 1]? = some (.cells #[.slice none 0 0, .slice none 0 0] 26 (0, 0))) := by
    have h := heapW_new (w.alloc (.cells #[.slice sa ss.length c1, .slice ta ts.length c2] 26)) (.cells #[.slice none 0 0, .slice none 0 0] 26)
    rw [show (w.alloc (.cells #[.slice sa ss.length c1, .slice ta ts.length c2] 26)).heap.size = w.heap.size + 1 from by simp] at h
    show _ = _
    rw [← ew5, Lib.alloc_old _ _ _ (by simp)]
    exact h
  have HRS : Hid (RowS w sa ss) := rs
  have HRT : Hid (RowT w ta ts) := rt
  have HKT : Hid (∀ i, i < ts.length → 1 ≤ (tx ts i).code.length ∧ (tx ts i).code.length ≤ 1048576) := hkt
  have hwP : w.heap.size + 1 < P := by omega
  clear rs rt hkt
  obtain ⟨i0, hi, hz0, hz1, hz2⟩ := info_parts Tryz.info103b
  go_enter Tryz.func49, Tryz.ntmps49
  go_wp2
  clear ew5 eP
  have HW5 : Hid (w5.heap.size = P + 1) := hw5
  clear hw5
  go_loopw [13] (fun i wr => ∃ (k : Nat) (v1 : Value), k ≤ ss.length ∧ i = .int .i64 k ∧ Hid (WS wr P v1 (.slice none 0 0) (fltS t (ss.take k)) []) ∧ Below P w5 wr ∧ P + 1 ≤ wr.heap.size) (fun i _ => ss.length - (intOf i).toNat)
  case atStart => exact ⟨0, _, Nat.zero_le _, rfl, HW0.out, Below.refl _ _, by rw [HW5.out]; exact Nat.le_refl _⟩
  case round =>
    obtain ⟨k, v1, hk, rfl, HW, hbr, hsz⟩ := hrel
    have hw : Below w.heap.size w wr := hB5.trans (hbr.mono (by omega))
    by_cases hlt : k < ss.length
    · obtain ⟨b, off, rfl, c1', c2'⟩ := (HRS.out.below hw) k hlt
      have HFN : Hid ((sx ss k).name = t → fltS t (ss.take (k + 1)) = fltS t (ss.take k)) := fltS_no hlt
      have HFA : Hid ((sx ss k).name ≠ t → fltS t (ss.take (k + 1)) = fltS t (ss.take k) ++ [sx ss k]) := fltS_yes hlt
      have hln : (fltS t (ss.take k)).length ≤ 300 := by have := fltS_take t ss k hk; omega
      obtain ⟨s, es⟩ : ∃ s, sx ss k = s := ⟨_, rfl⟩
      rw [es] at c1' c2' HFN HFA
      clear es
      have hkI : (k : Int) < (ss.length : Int) := by omega
      by_cases hno : s.name = t
      · have heq := str_eq hno
        have HF2 : Hid (fltS t (ss.take (k + 1)) = fltS t (ss.take k)) := HFN.out hno
        have HWA : Hid (WS (wr.alloc (.cells #[.string s.name, .string s.text] 60)) P v1 (.slice none 0 0) (fltS t (ss.take k)) []) := HW.out.below ((Below.refl _ _).alloc (Nat.le_refl _) _)
        have hbA : Below P w5 (wr.alloc (.cells #[.string s.name, .string s.text] 60)) := hbr.alloc (by omega) _
        clear hno HFN HFA
        go_wp2
        go_roundw
        case rel => exact ⟨k + 1, _, by omega, by go_num, (by rw [HF2.out]; exact HWA.out), hbA, by simp; omega⟩
        case measure => simp [intOf]; omega
      · have heq := str_ne hno
        have HFY : Hid (fltS t (ss.take (k + 1)) = fltS t (ss.take k) ++ [s]) := HFA.out hno
        clear hno HFN HFA
        obtain ⟨L, eL⟩ : ∃ L, fltS t (ss.take k) = L := ⟨_, rfl⟩
        rw [eL] at HFY HW hln
        clear eL
        obtain ⟨ys, hys, hfy⟩ := HW.out.s
        obtain ⟨ao, cp, rfl⟩ : ∃ ao cp, v1 = .slice ao L.length cp := by
          rcases own_cases hys with ⟨hv, h0⟩ | ⟨g', c', hv⟩
          · exact ⟨none, 0, by rw [h0]; exact hv⟩
          · exact ⟨_, _, hv⟩
        have HFI : Hid (FilledS L L.length ys) := hfy
        have dP : (wr.alloc (.cells #[.string s.name, .string s.text] 60)).cell? ⟨P, 0, none⟩ = some (.slice ao L.length cp) := cellW HW.out.cell.1
        have hb2 : Below wr.heap.size wr ((wr.alloc (.cells #[.string s.name, .string s.text] 60)).alloc (.cells #[.string s.name, .string s.text] 60)) := ((Below.refl _ _).alloc (Nat.le_refl _) _).alloc (by simp) _
        have hown1 := ownsRow_below hys hb2
        have HWW : Hid (WS ((wr.alloc (.cells #[.string s.name, .string s.text] 60)).alloc (.cells #[.string s.name, .string s.text] 60)) P (.slice ao L.length cp) (.slice none 0 0) L []) := HW.out.below hb2
        have HB2 : Hid (Below P w5 ((wr.alloc (.cells #[.string s.name, .string s.text] 60)).alloc (.cells #[.string s.name, .string s.text] 60))) := hbr.trans (hb2.mono (by omega))
        have hnw : ((wr.alloc (.cells #[.string s.name, .string s.text] 60)).alloc (.cells #[.string s.name, .string s.text] 60)).heap[wr.heap.size + 1]? = some (.cells #[.string s.name, .string s.text] 60 (0, 0)) := by
          have h := heapW_new (wr.alloc (.cells #[.string s.name, .string s.text] 60)) (.cells #[.string s.name, .string s.text] 60)
          rw [show (wr.alloc (.cells #[.string s.name, .string s.text] 60)).heap.size = wr.heap.size + 1 from by simp] at h
          exact h
        have HNW : Hid (((wr.alloc (.cells #[.string s.name, .string s.text] 60)).alloc (.cells #[.string s.name, .string s.text] 60)).heap[wr.heap.size + 1]? = some (.cells #[.string s.name, .string s.text] 60 (0, 0))) := hnw
        have HO1 : Hid (((wr.alloc (.cells #[.string s.name, .string s.text] 60)).alloc (.cells #[.string s.name, .string s.text] 60)).ownsRow (P + 1) 60 2 (.slice ao L.length cp) L.length ys) := hown1
        have HSZ : Hid (((wr.alloc (.cells #[.string s.name, .string s.text] 60)).alloc (.cells #[.string s.name, .string s.text] 60)).heap.size = wr.heap.size + 1 + 1) := by show _ = _; simp
        clear hys hfy hown1 hnw hb2 HW hbr
        go_wp2_with (first | (at_builtin; refine wpList_append_own _ rfl (.tmp 22) (.tmp 24) 23 rfl (P + 1) 60 i0 (.agg #[.string ⟨#[]⟩, .string ⟨#[]⟩]) 2 32 Tryz.underlying23 hi hz0 hz1 hz2 rfl (by decide) _ _ _ rfl HO1.out ⟨wr.heap.size + 1, 0, none⟩ 1 1 [.string s.name, .string s.text] rfl rfl ?_ (by intro u hu; simp at hu; rcases hu with rfl | rfl <;> rfl) (by unfold maxLen; omega) (by omega) (by rw [HSZ.out]; omega) ?_; (focus exact (World.news_of_block (cs := #[.string s.name, .string s.text]) (t := 60) (fr := (0, 0)) HNW.out)); intro v' w2 hown' hgrow hnil; clear hnil; obtain ⟨g', cp', rfl⟩ := own_first hown' (by omega); have hkb : w2.heap[P]? = some (.cells #[.slice ao L.length cp, .slice none 0 0] 26 (0, 0)) := (by rw [hgrow.block P (blkW_lt HWW.out.blk) (fun e => by have := (HO1.out.lt P e.symm).1; omega)]; exact HWW.out.blk); have x0 : w2.cell? ⟨P, 0, none⟩ = some (.slice ao L.length cp) := (by rw [Lib.cell_of_heap hkb]; rfl); have xf : w2.frozen? ⟨P, 0, none⟩ = false := Lib.frozen_of_heap hkb 0; have HNP : Hid (WS (w2.setCell ⟨P, 0, none⟩ (.slice (some ⟨g', 0, none⟩) (L.length + 1) cp')) P (.slice (some ⟨g', 0, none⟩) (L.length + 1) cp') (.slice none 0 0) (L ++ [s]) []) := WS.putS HWW.out HO1.out HFI.out hgrow hown'; have HB7 : Hid (Below P w5 w2) := HB2.out.grown hgrow (by rw [HSZ.out]; omega) (fun m hm => by have := (HO1.out.lt m hm).1; omega); have hs7 : P + 1 ≤ w2.heap.size := (by have h2 := hgrow.size; rw [HSZ.out] at h2; omega); clear hgrow hown' hkb))
        exact ⟨⟨k + 1, _, by omega, by go_num, (by rw [HFY.out]; exact HNP.out), HB7.out.setCell (p := ⟨P, 0, none⟩) (Nat.le_refl _) _, by simpa using hs7⟩, by simp [intOf]; omega⟩
    · have ek : k = ss.length := by omega
      subst ek
      rw [List.take_of_length_le (Nat.le_refl _)] at HW
      have t1 : wr.cell? ⟨w.heap.size, 1, none⟩ = some (.slice ta ts.length c2) := by rw [hbr.cell (p := ⟨w.heap.size, 1, none⟩) (by simp; omega)]; exact s1
      have HW1 : Hid (WS wr P v1 (.slice none 0 0) (fltS t ss) (fltT t (ts.take 0))) := HW.out
      have HB1 : Hid (Below P w5 wr) := hbr
      have hsz1 := hsz
      clear HW hbr hw hsz HW0 s0 s1 HRS
      go_wp2
      go_loopw [31] (fun i wr => ∃ (k : Nat) (v2 : Value), k ≤ ts.length ∧ i = .int .i64 k ∧ Hid (WS wr P v1 v2 (fltS t ss) (fltT t (ts.take k))) ∧ Below P w5 wr ∧ P + 1 ≤ wr.heap.size) (fun i _ => ts.length - (intOf i).toNat)
      case atStart => exact ⟨0, _, Nat.zero_le _, rfl, HW1.out, HB1.out, hsz1⟩
      case round =>
        obtain ⟨k, v2, hk, rfl, HW, hbr, hsz⟩ := hrel
        have hw : Below w.heap.size w wr := hB5.trans (hbr.mono (by omega))
        by_cases hlt : k < ts.length
        · obtain ⟨b, off, rfl, c1', x, p, c2', c3'⟩ := (HRT.out.below hw) k hlt
          obtain ⟨hk1, hk2⟩ := HKT.out k hlt
          have HFN : Hid ((tx ts k).name = t → fltT t (ts.take (k + 1)) = fltT t (ts.take k)) := fltT_no hlt
          have HFA : Hid ((tx ts k).name ≠ t → fltT t (ts.take (k + 1)) = fltT t (ts.take k) ++ [tx ts k]) := fltT_yes hlt
          have hln : (fltT t (ts.take k)).length ≤ 300 := by have := fltT_take t ts k hk; omega
          obtain ⟨s, es⟩ : ∃ s, tx ts k = s := ⟨_, rfl⟩
          rw [es] at c1' c2' c3' hk1 hk2 HFN HFA
          clear es
          have hkI : (k : Int) < (ts.length : Int) := by omega
          by_cases hno : s.name = t
          · have heq := str_eq hno
            have HF2 : Hid (fltT t (ts.take (k + 1)) = fltT t (ts.take k)) := HFN.out hno
            have HWA : Hid (WS (wr.alloc (.cells #[.string s.name, .slice x s.code.length p] 64)) P v1 v2 (fltS t ss) (fltT t (ts.take k))) := HW.out.below ((Below.refl _ _).alloc (Nat.le_refl _) _)
            have hbA : Below P w5 (wr.alloc (.cells #[.string s.name, .slice x s.code.length p] 64)) := hbr.alloc (by omega) _
            clear hno HFN HFA c3'
            go_wp2
            go_roundw
            case rel => exact ⟨k + 1, _, by omega, by go_num, (by rw [HF2.out]; exact HWA.out), hbA, by simp; omega⟩
            case measure => simp [intOf]; omega
          · have heq := str_ne hno
            have HFY : Hid (fltT t (ts.take (k + 1)) = fltT t (ts.take k) ++ [s]) := HFA.out hno
            clear hno HFN HFA
            obtain ⟨L, eL⟩ : ∃ L, fltT t (ts.take k) = L := ⟨_, rfl⟩
            rw [eL] at HFY HW hln
            clear eL
            obtain ⟨W, eW⟩ : ∃ W, wr.alloc (.cells #[.string s.name, .slice x s.code.length p] 64) = W := ⟨_, rfl⟩
            obtain ⟨q, eq⟩ : ∃ q, wr.heap.size = q := ⟨_, rfl⟩
            have d0 : W.cell? ⟨q, 0, none⟩ = some (.string s.name) := by rw [← eW, ← eq]; simp [go_sem]
            have d1 : W.cell? ⟨q, 1, none⟩ = some (.slice x s.code.length p) := by rw [← eW, ← eq]; simp [go_sem]
            have hbW : Below wr.heap.size wr W := by rw [← eW]; exact (Below.refl _ _).alloc (Nat.le_refl _) _
            have HWW : Hid (WS W P v1 v2 (fltS t ss) L) := HW.out.below hbW
            have dP := HWW.out.cell.2
            have hWq : W.heap.size = q + 1 := by rw [← eW, ← eq]; simp
            have hWq1 : q + 1 ≤ W.heap.size := by omega
            have hPq : P < q := by omega
            obtain ⟨ys0, cv0, hy0, _⟩ := HW.out.t
            have HVQ : Hid (some q ≠ v2.ownBlock) := fun e => by have := (hy0.lt q e.symm).2; omega
            have HVP : Hid (some P ≠ v2.ownBlock) := fun e => by have := (hy0.lt P e.symm).1; omega
            have hbP : Below P w5 W := hbr.trans (hbW.mono (by omega))
            have HCP : Hid (∀ W' : World, Below W.heap.size W W' → Calls Tryz.prog 44 #[.agg #[.slice x s.code.length p]] W' fun e w' => Below W'.heap.size W' w' ∧ ∃ g cp, e = .returned (.agg #[.slice (some ⟨g, 0, none⟩) s.code.length cp]) ∧ w'.ownsRow W'.heap.size 84 3 (.slice (some ⟨g, 0, none⟩) s.code.length cp) s.code.length (insV s.code)) := fun W' hW' => copyProgram_any x p s.code W' ((c3'.below hbW).below hW') hk1 hk2
            have HQ : Hid (W.heap.size = q + 1) := hWq
            clear hWq hy0 HW hbr hbW c3' hw hsz
            obtain ⟨ys, cv, hys, hpt⟩ := HWW.out.t
            have HYS : Hid (W.ownsRow (P + 1) 64 2 v2 L.length ys) := hys
            have HPT : Hid (PartT W (P + 1) L L.length ys cv) := hpt
            clear hys hpt
            go_wp2_with fail
            refine Lt.begin 11 (fun w' => w'.cell? ⟨P, 1, none⟩ = some v2 ∧ w'.cell? ⟨q, 0, none⟩ = some (.string s.name) ∧ w'.cell? ⟨q, 1, none⟩ = some (.slice x s.code.length p)) (by kernel_rfl) ?_
            have hS0 : W.drew.cell? ⟨P, 1, none⟩ = some v2 ∧ W.drew.cell? ⟨q, 0, none⟩ = some (.string s.name) ∧ W.drew.cell? ⟨q, 1, none⟩ = some (.slice x s.code.length p) := by simp [*]
            refine Lt.take (i := 0) (oi := { dst := some 39, op := Op.fieldAddr 26 (Operand.tmp 5) 1, type := 0, pos := "l3_space.go:200", after := #[], guard := none }) (v := ?_) rfl (by kernel_rfl) (by kernel_rfl) (by kernel_rfl) (by kernel_rfl) (fun _ _ _ h => h) hS0 (Or.inl ⟨by rfl, ?_⟩) ?_
            rotate_left 1
            · intro w hSw
              try dsimp only at hSw
              go_simp
              first | done | with_reducible rfl
            simp only [Act.put, List.setIfInBounds_toArray, List.set_cons_zero, List.set_cons_succ]
            refine Lt.take (i := 1) (oi := { dst := some 40, op := Op.load 24 (Operand.tmp 39), type := 24, pos := "l3_space.go:200", after := #[{ on := 0, ground := Ground.data }], guard := none }) (v := ?_) rfl (by kernel_rfl) (by kernel_rfl) (by kernel_rfl) (by kernel_rfl) (fun _ _ _ h => h) hS0 (Or.inl ⟨by rfl, ?_⟩) ?_
            rotate_left 1
            · intro w hSw
              try dsimp only at hSw
              go_simp
              first | done | with_reducible rfl
            simp only [Act.put, List.setIfInBounds_toArray, List.set_cons_zero, List.set_cons_succ]
            refine Lt.take (i := 2) (oi := { dst := some 41, op := Op.fieldAddr 64 (Operand.tmp 9) 0, type := 0, pos := "l3_space.go:200", after := #[], guard := none }) (v := ?_) rfl (by kernel_rfl) (by kernel_rfl) (by kernel_rfl) (by kernel_rfl) (fun _ _ _ h => h) hS0 (Or.inl ⟨by rfl, ?_⟩) ?_
            rotate_left 1
            · intro w hSw
              try dsimp only at hSw
              go_simp
              first | done | with_reducible rfl
            simp only [Act.put, List.setIfInBounds_toArray, List.set_cons_zero, List.set_cons_succ]
            refine Lt.take (i := 3) (oi := { dst := some 42, op := Op.load 9 (Operand.tmp 41), type := 9, pos := "l3_space.go:200", after := #[{ on := 2, ground := Ground.data }], guard := none }) (v := ?_) rfl (by kernel_rfl) (by kernel_rfl) (by kernel_rfl) (by kernel_rfl) (fun _ _ _ h => h) hS0 (Or.inl ⟨by rfl, ?_⟩) ?_
            rotate_left 1
            · intro w hSw
              try dsimp only at hSw
              go_simp
              first | done | with_reducible rfl
            simp only [Act.put, List.setIfInBounds_toArray, List.set_cons_zero, List.set_cons_succ]
            refine Lt.take (i := 4) (oi := { dst := some 43, op := Op.fieldAddr 64 (Operand.tmp 9) 1, type := 0, pos := "l3_space.go:200", after := #[], guard := none }) (v := ?_) rfl (by kernel_rfl) (by kernel_rfl) (by kernel_rfl) (by kernel_rfl) (fun _ _ _ h => h) hS0 (Or.inl ⟨by rfl, ?_⟩) ?_
            rotate_left 1
            · intro w hSw
              try dsimp only at hSw
              go_simp
              first | done | with_reducible rfl
            simp only [Act.put, List.setIfInBounds_toArray, List.set_cons_zero, List.set_cons_succ]
            refine Lt.take (i := 5) (oi := { dst := some 44, op := Op.load 31 (Operand.tmp 43), type := 31, pos := "l3_space.go:200", after := #[{ on := 4, ground := Ground.data }], guard := none }) (v := ?_) rfl (by kernel_rfl) (by kernel_rfl) (by kernel_rfl) (by kernel_rfl) (fun _ _ _ h => h) hS0 (Or.inl ⟨by rfl, ?_⟩) ?_
            rotate_left 1
            · intro w hSw
              try dsimp only at hSw
              go_simp
              first | done | with_reducible rfl
            simp only [Act.put, List.setIfInBounds_toArray, List.set_cons_zero, List.set_cons_succ]
            refine Lt.step (i := 6) (o := { dst := some 45, op := Op.call { callee := Callee.value (Operand.func 44), args := #[Operand.tmp 44], argTypes := #[31] }, type := 31, pos := "l3_space.go:200", after := #[{ on := 5, ground := Ground.data }], guard := none }) (by kernel_rfl) rfl (fun K hK => ?_)
            go_simp
            refine (HCP.out _ ((Below.refl _ _).drew)).mono ?_
            rintro e w6 ⟨hb6, gc, cpc, rfl, hoc⟩
            have hb7 : Below W.heap.size W w6 := (Below.drew (Below.refl _ _)).trans (hb6.mono (by simp))
            have HOC : Hid (w6.ownsRow W.heap.size 84 3 (.slice (some ⟨gc, 0, none⟩) s.code.length cpc) s.code.length (insV s.code)) := own_base hoc (by simp)
            refine hK.out _ _ (fun _ => ⟨cell_below hb7 dP, cell_below hb7 d0, cell_below hb7 d1⟩) (fun hS6 => ?_)
            replace hS6 := hS6 (by decide)
            clear hK K hS0 hb6 hoc
            refine Lt.take (i := 7) (oi := { dst := some 46, op := Op.build 64 #[(0, Operand.tmp 42), (1, Operand.tmp 45)], type := 64, pos := "l3_space.go:200", after := #[{ on := 3, ground := Ground.data }, { on := 6, ground := Ground.data }], guard := none }) (v := ?_) rfl (by kernel_rfl) (by kernel_rfl) (by kernel_rfl) (by kernel_rfl) (fun _ _ _ h => h) hS6 (Or.inl ⟨by rfl, ?_⟩) ?_
            rotate_left 1
            · intro w hSw
              try dsimp only at hSw
              go_simp
              first | done | with_reducible rfl
            simp only [Act.put, List.setIfInBounds_toArray, List.set_cons_zero, List.set_cons_succ]
            refine Lt.step (i := 8) (o := { dst := some 47, op := Op.buildSlice 24 1 #[(0, Operand.tmp 46)], type := 24, pos := "l3_space.go:200", after := #[{ on := 7, ground := Ground.data }], guard := none }) (by kernel_rfl) rfl (fun K hK => ?_)
            go_simp
            refine hK.out _ _ (fun _ => ⟨cellW hS6.1, cellW hS6.2.1, cellW hS6.2.2⟩) (fun hS8 => ?_)
            replace hS8 := hS8 (by decide)
            clear hK K hS6
            refine Lt.step (i := 9) (o := { dst := some 48, op := Op.call { callee := Callee.builtin Builtin.append, args := #[Operand.tmp 40, Operand.tmp 47], argTypes := #[24, 24] }, type := 24, pos := "l3_space.go:200", after := #[{ on := 1, ground := Ground.data }, { on := 8, ground := Ground.data }, { on := 6, ground := Ground.chain }], guard := none }) (by kernel_rfl) rfl (fun K hK => ?_)
            refine step_appT rfl (by rfl) (P + 1) v2 _ ys (by rfl) ((ownsRow_below HYS.out hb7).alloc _) w6.heap.size s.name (.slice (some ⟨gc, 0, none⟩) s.code.length cpc) rfl (by rfl) (heapW_new _ _) (by have := hb7.size; simp; omega) hln ?_
            intro g' cap' w7 hown7 hgrow
            have hsz6 := hb7.size
            have x0 : w7.cell? ⟨P, 1, none⟩ = some v2 := by rw [hgrow.cell_far ⟨P, 1, none⟩ (by simp; omega) HVP.out]; exact hS8.1
            have x1 : w7.cell? ⟨q, 0, none⟩ = some (.string s.name) := by rw [hgrow.cell_far ⟨q, 0, none⟩ (by simp; omega) HVQ.out]; exact hS8.2.1
            have x2 : w7.cell? ⟨q, 1, none⟩ = some (.slice x s.code.length p) := by rw [hgrow.cell_far ⟨q, 1, none⟩ (by simp; omega) HVQ.out]; exact hS8.2.2
            have HNP : Hid (WS (w7.setCell ⟨P, 1, none⟩ (.slice (some ⟨g', 0, none⟩) (L.length + 1) cap')) P v1 (.slice (some ⟨g', 0, none⟩) (L.length + 1) cap') (fltS t ss) (L ++ [s])) := WS.putT HWW.out (hb7.alloc (by omega) _) (by omega) HYS.out HPT.out (HOC.out.alloc _) (insV_filled _) hgrow hown7
            have hbP7 : Below P w5 w7 := ((hbP.trans (hb7.mono (by omega))).alloc (by omega) _).grown hgrow (by simp; omega) (fun m hm => by have := (HYS.out.lt m hm).1; omega)
            have hs7 : P + 1 ≤ w7.heap.size := by have h2 := hgrow.size; simp at h2; omega
            have fz : w7.frozen? ⟨P, 1, none⟩ = false := by rw [hgrow.frozen_far ⟨P, 1, none⟩ (by simp; omega) HVP.out]; exact Lib.frozen_of_heap (by rw [Lib.alloc_old _ _ _ (by omega)]; exact (HWW.out.below hb7).blk) 1
            refine hK.out _ _ (fun _ => ⟨x0, x1, x2⟩) (fun hS9 => ?_)
            replace hS9 := hS9 (by decide)
            clear hK K hS8 hgrow hown7
            simp only [Act.put, List.setIfInBounds_toArray, List.set_cons_zero, List.set_cons_succ]
            refine Lt.take (i := 10) (oi := { dst := some 49, op := Op.fieldAddr 26 (Operand.tmp 5) 1, type := 0, pos := "l3_space.go:200", after := #[{ on := 0, ground := Ground.phase }, { on := 1, ground := Ground.phase }, { on := 2, ground := Ground.phase }, { on := 3, ground := Ground.phase }, { on := 4, ground := Ground.phase }, { on := 5, ground := Ground.phase }, { on := 6, ground := Ground.phase }, { on := 7, ground := Ground.phase }, { on := 8, ground := Ground.phase }, { on := 9, ground := Ground.phase }], guard := none }) (v := ?_) rfl (by kernel_rfl) (by kernel_rfl) (by kernel_rfl) (by kernel_rfl) (fun _ _ _ h => h) hS9 (Or.inl ⟨by rfl, ?_⟩) ?_
            rotate_left 1
            · intro w hSw
              try dsimp only at hSw
              go_simp
              first | done | with_reducible rfl
            simp only [Act.put, List.setIfInBounds_toArray, List.set_cons_zero, List.set_cons_succ]
            refine Lt.step (i := 11) (o := { dst := none, op := Op.store 24 (Operand.tmp 49) (Operand.tmp 48), type := 0, pos := "l3_space.go:200", after := #[{ on := 10, ground := Ground.data }, { on := 9, ground := Ground.data }, { on := 9, ground := Ground.chain }, { on := 0, ground := Ground.phase }, { on := 1, ground := Ground.phase }, { on := 2, ground := Ground.phase }, { on := 3, ground := Ground.phase }, { on := 4, ground := Ground.phase }, { on := 5, ground := Ground.phase }, { on := 6, ground := Ground.phase }, { on := 7, ground := Ground.phase }, { on := 8, ground := Ground.phase }, { on := 9, ground := Ground.phase }], guard := none }) (by kernel_rfl) rfl (fun K hK => ?_)
            go_simp
            refine hK.out _ _ (fun h => absurd rfl h) (fun _ => ?_)
            clear hK K hS9
            refine Lt.done (by kernel_rfl) ?_ _
            go_wp2
            go_roundw
            case rel => exact ⟨k + 1, _, by omega, by go_num, (by rw [HFY.out]; exact HNP.out), hbP7.setCell (p := ⟨P, 1, none⟩) (Nat.le_refl _) _, by simpa using hs7⟩
            case measure => simp [intOf]; omega
        · have ek : k = ts.length := by omega
          subst ek
          rw [List.take_of_length_le (Nat.le_refl _)] at HW
          have kbr : wr.heap[w.heap.size + 1]? = some (.cells #[.slice none 0 0, .slice none 0 0] 26 (0, 0)) := by rw [hbr.block _ hwP]; exact KB5.out
          have r0 : wr.cell? ⟨w.heap.size + 1, 0, none⟩ = some (.slice none 0 0) := by rw [Lib.cell_of_heap kbr]; rfl
          have r1 : wr.cell? ⟨w.heap.size + 1, 1, none⟩ = some (.slice none 0 0) := by rw [Lib.cell_of_heap kbr]; rfl
          have fr : ∀ j, wr.frozen? ⟨w.heap.size + 1, j, none⟩ = false := fun j => Lib.frozen_of_heap kbr j
          obtain ⟨d0, d1⟩ := HW.out.cell
          obtain ⟨o1, o2⟩ := HW.out.own (lo := P + 1) (hi := wr.heap.size) (Nat.le_refl _) (Nat.le_refl _)
          have HO1 : Hid (OwnS wr (P + 1) wr.heap.size v1 (fltS t ss)) := o1
          have HO2 : Hid (OwnT wr (P + 1) wr.heap.size v2 (fltT t ts)) := o2
          obtain ⟨a1, p1, rfl, _⟩ := o1.sl
          obtain ⟨a2, p2, rfl, _⟩ := o2.sl
          have hR : w.heap.size ≤ w.heap.size + 1 := by omega
          clear kbr hbr o1 o2 HW HW1 HB1
          go_wp2
          refine bodyPost_ret (v := .agg #[.slice a1 (fltS t ss).length p1, .slice a2 (fltT t ts).length p2]) (by simp [results, Tryz.results49, go_sem, r0, r1]) rfl ⟨(hw.setCell (p := ⟨w.heap.size + 1, 0, none⟩) hR _).setCell (p := ⟨w.heap.size + 1, 1, none⟩) hR _, _, _, rfl, ?_, ?_⟩
          · exact ((HO1.out.set (by omega) _).set (by omega) _).wide (by omega) (by simp)
          · exact ((HO2.out.set (by omega) _).set (by omega) _).wide (by omega) (by simp)

end Go.Proofs.YtjdjhenijihpfaaGreatDoor
