import Derived.Test.YtjdjhenijihpfaaGreatDoorWoA
namespace Go.Proofs.YtjdjhenijihpfaaGreatDoor
open Go.RowKit Go.Deep
set_option linter.unusedVariables false

/-- What l3Program makes of a code. -/
def CopyP (a : Option Addr) (cap : Nat) (is : List I3) (W : World) : Prop := Calls Tryz.prog 46 #[.agg #[.slice a is.length cap]] W fun e w' => Below W.heap.size W w' ∧ ∃ g cp, e = .returned (.agg #[.slice (some ⟨g, 0, none⟩) is.length cp]) ∧ w'.ownsRow W.heap.size 84 3 (.slice (some ⟨g, 0, none⟩) is.length cp) is.length (insV is)
/-- A row of targets whose codes can be copied. -/
def RowC (w : World) (a : Option Addr) (is : List T2) : Prop :=
  ∀ i, i < is.length → ∃ b off, a = some ⟨b, off, none⟩ ∧ w.cell? ⟨b, off + i * 2, none⟩ = some (.string (tx is i).name) ∧ ∃ a' cap', w.cell? ⟨b, off + i * 2 + 1, none⟩ = some (.slice a' (tx is i).code.length cap') ∧ ∀ W, Below w.heap.size w W → CopyP a' cap' (tx is i).code W
theorem RowT.rowC {w : World} {a : Option Addr} {ts : List T2} (h : RowT w a ts) (hk : ∀ i, i < ts.length → 1 ≤ (tx ts i).code.length ∧ (tx ts i).code.length ≤ 1048576) : RowC w a ts := fun i hi => by
  obtain ⟨b, off, ha, h1, a', cap', h2, h3⟩ := h i hi
  exact ⟨b, off, ha, h1, a', cap', h2, fun W hW => l3Program_any a' cap' _ W (h3.below hW) (hk i hi).1 (hk i hi).2⟩


set_option maxRecDepth 100000 in
set_option maxHeartbeats 8000000 in
theorem l3Without_gen (sa ta : Option Addr) (c1 c2 : Nat) (ss : List S2) (ts : List T2) (t : ByteArray) (w : World) (rs : RowS w sa ss) (rt : RowC w ta ts) (h1 : ss.length ≤ 300) (h2 : ts.length ≤ 300) :
    Calls Tryz.prog 30 #[.agg #[.slice sa ss.length c1, .slice ta ts.length c2], .string t] w fun e w' => Below w.heap.size w w' ∧ ∃ v1 v2, e = .returned (.agg #[v1, v2]) ∧ OwnS w' w.heap.size w'.heap.size v1 (fltS t ss) ∧ OwnT w' w.heap.size w'.heap.size v2 (fltT t ts) := by
  obtain ⟨P, eP⟩ : ∃ P, w.heap.size + 1 + 1 = P := ⟨_, rfl⟩
  obtain ⟨w5, ew5⟩ : ∃ w5, ((w.alloc (.cells #[.slice sa ss.length c1, .slice ta ts.length c2] 26)).alloc (.cells #[.slice none 0 0, .slice none 0 0] 26)).alloc (.cells #[.slice none 0 0, .slice none 0 0] 26) = w5 := ⟨_, rfl⟩
  have hw5 : w5.heap.size = P + 1 := by rw [← ew5, ← eP]; simp
  have hB5 : Below w.heap.size w w5 := by rw [← ew5]; exact (((Below.refl _ _).alloc (Nat.le_refl _) _).alloc (by simp) _).alloc (by simp; omega) _
  have s0 : w5.cell? ⟨w.heap.size, 0, none⟩ = some (.slice sa ss.length c1) := by rw [← ew5]; simp [go_sem]
  have s1 : w5.cell? ⟨w.heap.size, 1, none⟩ = some (.slice ta ts.length c2) := by rw [← ew5]; simp [go_sem]
  have HW0 : Hid (WS w5 P (.slice none 0 0) (.slice none 0 0) (fltS t (ss.take 0)) []) := WS.zero (by
    have h := heapW_new ((w.alloc (.cells #[.slice sa ss.length c1, .slice ta ts.length c2] 26)).alloc (.cells #[.slice none 0 0, .slice none 0 0] 26)) (.cells #[.slice none 0 0, .slice none 0 0] 26)
    rw [ew5, show ((w.alloc (.cells #[.slice sa ss.length c1, .slice ta ts.length c2] 26)).alloc (.cells #[.slice none 0 0, .slice none 0 0] 26)).heap.size = P from by rw [← eP]; simp] at h
    exact h)
  have KB5 : Hid (w5.heap[w.heap.size + 1]? = some (.cells #[.slice none 0 0, .slice none 0 0] 26 (0, 0))) := by
    have h := heapW_new (w.alloc (.cells #[.slice sa ss.length c1, .slice ta ts.length c2] 26)) (.cells #[.slice none 0 0, .slice none 0 0] 26)
    rw [show (w.alloc (.cells #[.slice sa ss.length c1, .slice ta ts.length c2] 26)).heap.size = w.heap.size + 1 from by simp] at h
    show _ = _
    rw [← ew5, Lib.alloc_old _ _ _ (by simp)]
    exact h
  have HRS : Hid (RowS w sa ss) := rs
  have HRT : Hid (RowC w ta ts) := rt
  have hwP : w.heap.size + 1 < P := by omega
  clear rs rt
  have EW5 : Hid (((w.alloc (.cells #[.slice sa ss.length c1, .slice ta ts.length c2] 26)).alloc (.cells #[.slice none 0 0, .slice none 0 0] 26)).alloc (.cells #[.slice none 0 0, .slice none 0 0] 26) = w5) := ew5
  clear ew5
  go_enter Tryz.func30, Tryz.ntmps30
  go_wp2
  rw [EW5.out]
  clear EW5 eP
  have HW5 : Hid (w5.heap.size = P + 1) := hw5
  clear hw5
  go_loopw [6] (fun i wr => ∃ (k : Nat) (v1 : Value), k ≤ ss.length ∧ i = .int .i64 k ∧ Hid (WS wr P v1 (.slice none 0 0) (fltS t (ss.take k)) []) ∧ Below P w5 wr ∧ P + 1 ≤ wr.heap.size) (fun i _ => ss.length - (intOf i).toNat)
  case atStart => exact ⟨0, _, Nat.zero_le _, rfl, HW0.out, Below.refl _ _, by rw [HW5.out]; exact Nat.le_refl _⟩
  case round =>
    obtain ⟨k, v1, hk, rfl, HW, hbr, hsz⟩ := hrel
    have hw : Below w.heap.size w wr := hB5.trans (hbr.mono (by omega))
    have dZ : wr.cell? ⟨w.heap.size, 0, none⟩ = some (.slice sa ss.length c1) := by rw [hbr.cell (p := ⟨w.heap.size, 0, none⟩) (by simp; omega)]; exact s0
    by_cases hlt : k < ss.length
    · obtain ⟨b, off, rfl, y1, y2⟩ := HRS.out k hlt
      have hbl : b < w.heap.size := World.block_lt_of_cell? _ _ y1
      have c1' := cell_below hw y1
      have c2' := cell_below hw y2
      have HFN : Hid ((sx ss k).name = t → fltS t (ss.take (k + 1)) = fltS t (ss.take k)) := fltS_no hlt
      have HFA : Hid ((sx ss k).name ≠ t → fltS t (ss.take (k + 1)) = fltS t (ss.take k) ++ [sx ss k]) := fltS_yes hlt
      have hln : (fltS t (ss.take k)).length ≤ 300 := by have := fltS_take t ss k hk; omega
      obtain ⟨s, es⟩ : ∃ s, sx ss k = s := ⟨_, rfl⟩
      rw [es] at c1' c2' HFN HFA
      clear es y1 y2
      have hkI : (k : Int) < (ss.length : Int) := by omega
      have hk0 : (0 : Int) ≤ (k : Int) := by omega
      by_cases hno : s.name = t
      · have heq := str_eq hno
        have HF2 : Hid (fltS t (ss.take (k + 1)) = fltS t (ss.take k)) := HFN.out hno
        clear hno HFN HFA
        go_wp2
        go_roundw
        case rel => exact ⟨k + 1, _, by omega, by go_num, (by rw [HF2.out]; exact HW.out), hbr, hsz⟩
        case measure => simp [intOf]; omega
      · have heq := str_ne hno
        have HFY : Hid (fltS t (ss.take (k + 1)) = fltS t (ss.take k) ++ [s]) := HFA.out hno
        clear hno HFN HFA
        obtain ⟨L, eL⟩ : ∃ L, fltS t (ss.take k) = L := ⟨_, rfl⟩
        rw [eL] at HFY HW hln
        clear eL
        obtain ⟨ys, hys, hfy⟩ := HW.out.s
        have HYS : Hid (wr.ownsRow (P + 1) 60 2 v1 L.length ys) := hys
        have HFI : Hid (FilledS L L.length ys) := hfy
        have dP := HW.out.cell.1
        clear hys hfy
        go_wp2_with fail
        refine Lt.begin 10 (fun w' => w'.cell? ⟨P, 0, none⟩ = some v1 ∧ w'.cell? ⟨w.heap.size, 0, none⟩ = some (.slice (some ⟨b, off, none⟩) ss.length c1) ∧ w'.cell? ⟨b, off + k * 2, none⟩ = some (.string s.name) ∧ w'.cell? ⟨b, off + k * 2 + 1, none⟩ = some (.string s.text)) (by kernel_rfl) ?_
        have hS0 : wr.drew.cell? ⟨P, 0, none⟩ = some v1 ∧ wr.drew.cell? ⟨w.heap.size, 0, none⟩ = some (.slice (some ⟨b, off, none⟩) ss.length c1) ∧ wr.drew.cell? ⟨b, off + k * 2, none⟩ = some (.string s.name) ∧ wr.drew.cell? ⟨b, off + k * 2 + 1, none⟩ = some (.string s.text) := by simp [*]
        refine Lt.take (i := 0) (oi := { dst := some 24, op := Op.fieldAddr 26 (Operand.tmp 5) 0, type := 0, pos := "l3_space.go:77", after := #[], guard := none }) (v := ?_) rfl (by kernel_rfl) (by kernel_rfl) (by kernel_rfl) (by kernel_rfl) (fun _ _ _ h => h) hS0 (Or.inl ⟨by rfl, ?_⟩) ?_
        rotate_left 1
        · intro w hSw
          try dsimp only at hSw
          go_simp
          first | done | with_reducible rfl
        simp only [Act.put, List.setIfInBounds_toArray, List.set_cons_zero, List.set_cons_succ]
        refine Lt.take (i := 1) (oi := { dst := some 25, op := Op.load 23 (Operand.tmp 24), type := 23, pos := "l3_space.go:77", after := #[{ on := 0, ground := Ground.data }], guard := none }) (v := ?_) rfl (by kernel_rfl) (by kernel_rfl) (by kernel_rfl) (by kernel_rfl) (fun _ _ _ h => h) hS0 (Or.inl ⟨by rfl, ?_⟩) ?_
        rotate_left 1
        · intro w hSw
          try dsimp only at hSw
          go_simp
          first | done | with_reducible rfl
        simp only [Act.put, List.setIfInBounds_toArray, List.set_cons_zero, List.set_cons_succ]
        refine Lt.take (i := 2) (oi := { dst := some 26, op := Op.fieldAddr 26 (Operand.tmp 2) 0, type := 0, pos := "l3_space.go:77", after := #[], guard := none }) (v := ?_) rfl (by kernel_rfl) (by kernel_rfl) (by kernel_rfl) (by kernel_rfl) (fun _ _ _ h => h) hS0 (Or.inl ⟨by rfl, ?_⟩) ?_
        rotate_left 1
        · intro w hSw
          try dsimp only at hSw
          go_simp
          first | done | with_reducible rfl
        simp only [Act.put, List.setIfInBounds_toArray, List.set_cons_zero, List.set_cons_succ]
        refine Lt.take (i := 3) (oi := { dst := some 27, op := Op.load 23 (Operand.tmp 26), type := 23, pos := "l3_space.go:77", after := #[{ on := 2, ground := Ground.data }], guard := none }) (v := ?_) rfl (by kernel_rfl) (by kernel_rfl) (by kernel_rfl) (by kernel_rfl) (fun _ _ _ h => h) hS0 (Or.inl ⟨by rfl, ?_⟩) ?_
        rotate_left 1
        · intro w hSw
          try dsimp only at hSw
          go_simp
          first | done | with_reducible rfl
        simp only [Act.put, List.setIfInBounds_toArray, List.set_cons_zero, List.set_cons_succ]
        refine Lt.take (i := 4) (oi := { dst := some 28, op := Op.move (Operand.tmp 6), type := 3, pos := "l3_space.go:77", after := #[], guard := none }) (v := ?_) rfl (by kernel_rfl) (by kernel_rfl) (by kernel_rfl) (by kernel_rfl) (fun _ _ _ h => h) hS0 (Or.inl ⟨by rfl, ?_⟩) ?_
        rotate_left 1
        · intro w hSw
          try dsimp only at hSw
          go_simp
          first | done | with_reducible rfl
        simp only [Act.put, List.setIfInBounds_toArray, List.set_cons_zero, List.set_cons_succ]
        refine Lt.take (i := 5) (oi := { dst := some 29, op := Op.indexAddr 23 (Operand.tmp 27) (Operand.tmp 28), type := 0, pos := "l3_space.go:77", after := #[{ on := 3, ground := Ground.data }, { on := 4, ground := Ground.data }], guard := none }) (v := ?_) rfl (by kernel_rfl) (by kernel_rfl) (by kernel_rfl) (by kernel_rfl) (fun _ _ _ h => h) hS0 (Or.inl ⟨by rfl, ?_⟩) ?_
        rotate_left 1
        · intro w hSw
          try dsimp only at hSw
          go_simp
          first | done | with_reducible rfl
        simp only [Act.put, List.setIfInBounds_toArray, List.set_cons_zero, List.set_cons_succ]
        refine Lt.take (i := 6) (oi := { dst := some 30, op := Op.load 60 (Operand.tmp 29), type := 60, pos := "l3_space.go:77", after := #[{ on := 5, ground := Ground.data }], guard := none }) (v := ?_) rfl (by kernel_rfl) (by kernel_rfl) (by kernel_rfl) (by kernel_rfl) (fun _ _ _ h => h) hS0 (Or.inl ⟨by rfl, ?_⟩) ?_
        rotate_left 1
        · intro w hSw
          try dsimp only at hSw
          go_simp
          first | done | with_reducible rfl
        simp only [Act.put, List.setIfInBounds_toArray, List.set_cons_zero, List.set_cons_succ]
        obtain ⟨w6, ew6⟩ : ∃ w6, wr.drew = w6 := ⟨_, rfl⟩
        have hb7 : Below wr.heap.size wr w6 := by rw [← ew6]; exact (Below.refl _ _).drew
        rw [ew6] at hS0 ⊢
        clear ew6
        refine Lt.step (i := 7) (o := { dst := some 31, op := Op.buildSlice 23 1 #[(0, Operand.tmp 30)], type := 23, pos := "l3_space.go:77", after := #[{ on := 6, ground := Ground.data }], guard := none }) (by kernel_rfl) rfl (fun K hK => ?_)
        go_simp
        refine hK.out _ _ (fun _ => ⟨cellW hS0.1, cellW hS0.2.1, cellW hS0.2.2.1, cellW hS0.2.2.2⟩) (fun hS8 => ?_)
        replace hS8 := hS8 (by decide)
        clear hK K hS0
        refine Lt.step (i := 8) (o := { dst := some 32, op := Op.call { callee := Callee.builtin Builtin.append, args := #[Operand.tmp 25, Operand.tmp 31], argTypes := #[23, 23] }, type := 23, pos := "l3_space.go:77", after := #[{ on := 1, ground := Ground.data }, { on := 7, ground := Ground.data }], guard := none }) (by kernel_rfl) rfl (fun K hK => ?_)
        refine step_appS rfl (by rfl) (P + 1) v1 _ ys (by rfl) ((ownsRow_below HYS.out hb7).alloc _) w6.heap.size s.name s.text (by rfl) (heapW_new _ _) (by have := hb7.size; simp; omega) hln ?_
        intro g' cap' w7 hown7 hgrow
        have hsz6 := hb7.size
        have KC : ∀ (p : Addr) (u : Value), p.block ≤ P → World.cell? (w6.alloc _) p = some u → w7.cell? p = some u := fun p u hp h => by
          rw [hgrow.cell_far p (World.block_lt_of_cell? _ _ h) (fun e => by have := (HYS.out.lt _ e.symm).1; omega)]; exact h
        have x0 := KC ⟨P, 0, none⟩ _ (Nat.le_refl _) hS8.1
        have x1 := KC ⟨w.heap.size, 0, none⟩ _ (by show w.heap.size ≤ P; omega) hS8.2.1
        have x2 := KC _ _ (by show b ≤ P; omega) hS8.2.2.1
        have x3 := KC _ _ (by show b ≤ P; omega) hS8.2.2.2
        have HNP : Hid (WS (w7.setCell ⟨P, 0, none⟩ (.slice (some ⟨g', 0, none⟩) (L.length + 1) cap')) P (.slice (some ⟨g', 0, none⟩) (L.length + 1) cap') (.slice none 0 0) (L ++ [s]) []) := WS.putS (HW.out.below (hb7.alloc hb7.size _)) ((ownsRow_below HYS.out hb7).alloc _) HFI.out hgrow hown7
        have hbP7 : Below P w5 w7 := ((hbr.trans (hb7.mono (by omega))).alloc (by omega) _).grown hgrow (by simp; omega) (fun m hm => by have := (HYS.out.lt m hm).1; omega)
        have hs7 : P + 1 ≤ w7.heap.size := by have h2 := hgrow.size; simp at h2; omega
        have fz : w7.frozen? ⟨P, 0, none⟩ = false := by rw [hgrow.frozen_far ⟨P, 0, none⟩ (by simp; omega) (fun e => by have h := (HYS.out.lt _ e.symm).1; exact absurd h (Nat.not_succ_le_self _))]; exact Lib.frozen_of_heap (by rw [Lib.alloc_old _ _ _ (by omega)]; exact (HW.out.below hb7).blk) 0
        refine hK.out _ _ (fun _ => ⟨x0, x1, x2, x3⟩) (fun hS9 => ?_)
        replace hS9 := hS9 (by decide)
        clear hK K hS8 hgrow hown7 KC
        simp only [Act.put, List.setIfInBounds_toArray, List.set_cons_zero, List.set_cons_succ]
        refine Lt.take (i := 9) (oi := { dst := some 33, op := Op.fieldAddr 26 (Operand.tmp 5) 0, type := 0, pos := "l3_space.go:77", after := #[{ on := 0, ground := Ground.phase }, { on := 1, ground := Ground.phase }, { on := 2, ground := Ground.phase }, { on := 3, ground := Ground.phase }, { on := 4, ground := Ground.phase }, { on := 5, ground := Ground.phase }, { on := 6, ground := Ground.phase }, { on := 7, ground := Ground.phase }, { on := 8, ground := Ground.phase }], guard := none }) (v := ?_) rfl (by kernel_rfl) (by kernel_rfl) (by kernel_rfl) (by kernel_rfl) (fun _ _ _ h => h) hS9 (Or.inl ⟨by rfl, ?_⟩) ?_
        rotate_left 1
        · intro w hSw
          try dsimp only at hSw
          go_simp
          first | done | with_reducible rfl
        simp only [Act.put, List.setIfInBounds_toArray, List.set_cons_zero, List.set_cons_succ]
        refine Lt.step (i := 10) (o := { dst := none, op := Op.store 23 (Operand.tmp 33) (Operand.tmp 32), type := 0, pos := "l3_space.go:77", after := #[{ on := 9, ground := Ground.data }, { on := 8, ground := Ground.data }, { on := 8, ground := Ground.chain }, { on := 0, ground := Ground.phase }, { on := 1, ground := Ground.phase }, { on := 2, ground := Ground.phase }, { on := 3, ground := Ground.phase }, { on := 4, ground := Ground.phase }, { on := 5, ground := Ground.phase }, { on := 6, ground := Ground.phase }, { on := 7, ground := Ground.phase }, { on := 8, ground := Ground.phase }], guard := none }) (by kernel_rfl) rfl (fun K hK => ?_)
        go_simp
        refine hK.out _ _ (fun h => absurd rfl h) (fun _ => ?_)
        clear hK K hS9
        refine Lt.done (by kernel_rfl) ?_ _
        go_wp2
        go_roundw
        case rel => exact ⟨k + 1, _, by omega, by go_num, (by rw [HFY.out]; exact HNP.out), hbP7.setCell (p := ⟨P, 0, none⟩) (Nat.le_refl _) _, by simpa using hs7⟩
        case measure => simp [intOf]; omega
    · have ek : k = ss.length := by omega
      subst ek
      rw [List.take_of_length_le (Nat.le_refl _)] at HW
      have HW1 : Hid (WS wr P v1 (.slice none 0 0) (fltS t ss) (fltT t (ts.take 0))) := HW.out
      have HB1 : Hid (Below P w5 wr) := hbr
      have hsz1 := hsz
      clear HW hbr hw hsz HW0 s0 HRS
      go_wp2
      clear dZ
      go_loopw [7] (fun i wr => ∃ (k : Nat) (v2 : Value), k ≤ ts.length ∧ i = .int .i64 k ∧ Hid (WS wr P v1 v2 (fltS t ss) (fltT t (ts.take k))) ∧ Below P w5 wr ∧ P + 1 ≤ wr.heap.size) (fun i _ => ts.length - (intOf i).toNat)
      case atStart => exact ⟨0, _, Nat.zero_le _, rfl, HW1.out, HB1.out, hsz1⟩
      case round =>
        obtain ⟨k, v2, hk, rfl, HW, hbr, hsz⟩ := hrel
        have hw : Below w.heap.size w wr := hB5.trans (hbr.mono (by omega))
        have dZ : wr.cell? ⟨w.heap.size, 1, none⟩ = some (.slice ta ts.length c2) := by rw [hbr.cell (p := ⟨w.heap.size, 1, none⟩) (by simp; omega)]; exact s1
        by_cases hlt : k < ts.length
        · obtain ⟨b, off, rfl, y1, x, p, y2, y3⟩ := HRT.out k hlt
          have hbl : b < w.heap.size := World.block_lt_of_cell? _ _ y1
          have c1' := cell_below hw y1
          have c2' := cell_below hw y2
          have c3' : ∀ W' : World, Below wr.heap.size wr W' → CopyP x p (tx ts k).code W' := fun W' hW' => y3 W' (bt hw hW')
          have HFN : Hid ((tx ts k).name = t → fltT t (ts.take (k + 1)) = fltT t (ts.take k)) := fltT_no hlt
          have HFA : Hid ((tx ts k).name ≠ t → fltT t (ts.take (k + 1)) = fltT t (ts.take k) ++ [tx ts k]) := fltT_yes hlt
          have hln : (fltT t (ts.take k)).length ≤ 300 := by have := fltT_take t ts k hk; omega
          obtain ⟨s, es⟩ : ∃ s, tx ts k = s := ⟨_, rfl⟩
          rw [es] at c1' c2' c3' HFN HFA
          clear es y1 y2 y3
          have hkI : (k : Int) < (ts.length : Int) := by omega
          have hk0 : (0 : Int) ≤ (k : Int) := by omega
          by_cases hno : s.name = t
          · have heq := str_eq hno
            have HF2 : Hid (fltT t (ts.take (k + 1)) = fltT t (ts.take k)) := HFN.out hno
            clear hno HFN HFA c3'
            go_wp2
            go_roundw
            case rel => exact ⟨k + 1, _, by omega, by go_num, (by rw [HF2.out]; exact HW.out), hbr, hsz⟩
            case measure => simp [intOf]; omega
          · have heq := str_ne hno
            have HFY : Hid (fltT t (ts.take (k + 1)) = fltT t (ts.take k) ++ [s]) := HFA.out hno
            clear hno HFN HFA
            obtain ⟨L, eL⟩ : ∃ L, fltT t (ts.take k) = L := ⟨_, rfl⟩
            rw [eL] at HFY HW hln
            clear eL
            obtain ⟨ys, cv, hys, hpt⟩ := HW.out.t
            have HYS : Hid (wr.ownsRow (P + 1) 64 2 v2 L.length ys) := hys
            have HPT : Hid (PartT wr (P + 1) L L.length ys cv) := hpt
            have dP := HW.out.cell.2
            have HCP : Hid (∀ W' : World, Below wr.heap.size wr W' → Calls Tryz.prog 46 #[.agg #[.slice x s.code.length p]] W' fun e w' => Below W'.heap.size W' w' ∧ ∃ g cp, e = .returned (.agg #[.slice (some ⟨g, 0, none⟩) s.code.length cp]) ∧ w'.ownsRow W'.heap.size 84 3 (.slice (some ⟨g, 0, none⟩) s.code.length cp) s.code.length (insV s.code)) := c3'
            clear hys hpt c3'
            go_wp2_with fail
            refine Lt.begin 19 (fun w' => w'.cell? ⟨P, 1, none⟩ = some v2 ∧ w'.cell? ⟨w.heap.size, 1, none⟩ = some (.slice (some ⟨b, off, none⟩) ts.length c2) ∧ w'.cell? ⟨b, off + k * 2, none⟩ = some (.string s.name) ∧ w'.cell? ⟨b, off + k * 2 + 1, none⟩ = some (.slice x s.code.length p)) (by kernel_rfl) ?_
            have hS0 : wr.drew.cell? ⟨P, 1, none⟩ = some v2 ∧ wr.drew.cell? ⟨w.heap.size, 1, none⟩ = some (.slice (some ⟨b, off, none⟩) ts.length c2) ∧ wr.drew.cell? ⟨b, off + k * 2, none⟩ = some (.string s.name) ∧ wr.drew.cell? ⟨b, off + k * 2 + 1, none⟩ = some (.slice x s.code.length p) := by simp [*]
            refine Lt.take (i := 0) (oi := { dst := some 49, op := Op.fieldAddr 26 (Operand.tmp 5) 1, type := 0, pos := "l3_space.go:82", after := #[], guard := none }) (v := ?_) rfl (by kernel_rfl) (by kernel_rfl) (by kernel_rfl) (by kernel_rfl) (fun _ _ _ h => h) hS0 (Or.inl ⟨by rfl, ?_⟩) ?_
            rotate_left 1
            · intro w hSw
              try dsimp only at hSw
              go_simp
              first | done | with_reducible rfl
            simp only [Act.put, List.setIfInBounds_toArray, List.set_cons_zero, List.set_cons_succ]
            refine Lt.take (i := 1) (oi := { dst := some 50, op := Op.load 24 (Operand.tmp 49), type := 24, pos := "l3_space.go:82", after := #[{ on := 0, ground := Ground.data }], guard := none }) (v := ?_) rfl (by kernel_rfl) (by kernel_rfl) (by kernel_rfl) (by kernel_rfl) (fun _ _ _ h => h) hS0 (Or.inl ⟨by rfl, ?_⟩) ?_
            rotate_left 1
            · intro w hSw
              try dsimp only at hSw
              go_simp
              first | done | with_reducible rfl
            simp only [Act.put, List.setIfInBounds_toArray, List.set_cons_zero, List.set_cons_succ]
            refine Lt.take (i := 2) (oi := { dst := some 51, op := Op.fieldAddr 26 (Operand.tmp 2) 1, type := 0, pos := "l3_space.go:82", after := #[], guard := none }) (v := ?_) rfl (by kernel_rfl) (by kernel_rfl) (by kernel_rfl) (by kernel_rfl) (fun _ _ _ h => h) hS0 (Or.inl ⟨by rfl, ?_⟩) ?_
            rotate_left 1
            · intro w hSw
              try dsimp only at hSw
              go_simp
              first | done | with_reducible rfl
            simp only [Act.put, List.setIfInBounds_toArray, List.set_cons_zero, List.set_cons_succ]
            refine Lt.take (i := 3) (oi := { dst := some 52, op := Op.load 24 (Operand.tmp 51), type := 24, pos := "l3_space.go:82", after := #[{ on := 2, ground := Ground.data }], guard := none }) (v := ?_) rfl (by kernel_rfl) (by kernel_rfl) (by kernel_rfl) (by kernel_rfl) (fun _ _ _ h => h) hS0 (Or.inl ⟨by rfl, ?_⟩) ?_
            rotate_left 1
            · intro w hSw
              try dsimp only at hSw
              go_simp
              first | done | with_reducible rfl
            simp only [Act.put, List.setIfInBounds_toArray, List.set_cons_zero, List.set_cons_succ]
            refine Lt.take (i := 4) (oi := { dst := some 53, op := Op.move (Operand.tmp 7), type := 3, pos := "l3_space.go:82", after := #[], guard := none }) (v := ?_) rfl (by kernel_rfl) (by kernel_rfl) (by kernel_rfl) (by kernel_rfl) (fun _ _ _ h => h) hS0 (Or.inl ⟨by rfl, ?_⟩) ?_
            rotate_left 1
            · intro w hSw
              try dsimp only at hSw
              go_simp
              first | done | with_reducible rfl
            simp only [Act.put, List.setIfInBounds_toArray, List.set_cons_zero, List.set_cons_succ]
            refine Lt.take (i := 5) (oi := { dst := some 54, op := Op.indexAddr 24 (Operand.tmp 52) (Operand.tmp 53), type := 0, pos := "l3_space.go:82", after := #[{ on := 3, ground := Ground.data }, { on := 4, ground := Ground.data }], guard := none }) (v := ?_) rfl (by kernel_rfl) (by kernel_rfl) (by kernel_rfl) (by kernel_rfl) (fun _ _ _ h => h) hS0 (Or.inl ⟨by rfl, ?_⟩) ?_
            rotate_left 1
            · intro w hSw
              try dsimp only at hSw
              go_simp
              first | done | with_reducible rfl
            simp only [Act.put, List.setIfInBounds_toArray, List.set_cons_zero, List.set_cons_succ]
            refine Lt.take (i := 6) (oi := { dst := some 55, op := Op.fieldAddr 64 (Operand.tmp 54) 0, type := 0, pos := "l3_space.go:82", after := #[{ on := 5, ground := Ground.data }], guard := none }) (v := ?_) rfl (by kernel_rfl) (by kernel_rfl) (by kernel_rfl) (by kernel_rfl) (fun _ _ _ h => h) hS0 (Or.inl ⟨by rfl, ?_⟩) ?_
            rotate_left 1
            · intro w hSw
              try dsimp only at hSw
              go_simp
              first | done | with_reducible rfl
            simp only [Act.put, List.setIfInBounds_toArray, List.set_cons_zero, List.set_cons_succ]
            refine Lt.take (i := 7) (oi := { dst := some 56, op := Op.load 9 (Operand.tmp 55), type := 9, pos := "l3_space.go:82", after := #[{ on := 6, ground := Ground.data }], guard := none }) (v := ?_) rfl (by kernel_rfl) (by kernel_rfl) (by kernel_rfl) (by kernel_rfl) (fun _ _ _ h => h) hS0 (Or.inl ⟨by rfl, ?_⟩) ?_
            rotate_left 1
            · intro w hSw
              try dsimp only at hSw
              go_simp
              first | done | with_reducible rfl
            simp only [Act.put, List.setIfInBounds_toArray, List.set_cons_zero, List.set_cons_succ]
            refine Lt.take (i := 8) (oi := { dst := some 57, op := Op.fieldAddr 26 (Operand.tmp 2) 1, type := 0, pos := "l3_space.go:82", after := #[], guard := none }) (v := ?_) rfl (by kernel_rfl) (by kernel_rfl) (by kernel_rfl) (by kernel_rfl) (fun _ _ _ h => h) hS0 (Or.inl ⟨by rfl, ?_⟩) ?_
            rotate_left 1
            · intro w hSw
              try dsimp only at hSw
              go_simp
              first | done | with_reducible rfl
            simp only [Act.put, List.setIfInBounds_toArray, List.set_cons_zero, List.set_cons_succ]
            refine Lt.take (i := 9) (oi := { dst := some 58, op := Op.load 24 (Operand.tmp 57), type := 24, pos := "l3_space.go:82", after := #[{ on := 8, ground := Ground.data }], guard := none }) (v := ?_) rfl (by kernel_rfl) (by kernel_rfl) (by kernel_rfl) (by kernel_rfl) (fun _ _ _ h => h) hS0 (Or.inl ⟨by rfl, ?_⟩) ?_
            rotate_left 1
            · intro w hSw
              try dsimp only at hSw
              go_simp
              first | done | with_reducible rfl
            simp only [Act.put, List.setIfInBounds_toArray, List.set_cons_zero, List.set_cons_succ]
            refine Lt.take (i := 10) (oi := { dst := some 59, op := Op.move (Operand.tmp 7), type := 3, pos := "l3_space.go:82", after := #[], guard := none }) (v := ?_) rfl (by kernel_rfl) (by kernel_rfl) (by kernel_rfl) (by kernel_rfl) (fun _ _ _ h => h) hS0 (Or.inl ⟨by rfl, ?_⟩) ?_
            rotate_left 1
            · intro w hSw
              try dsimp only at hSw
              go_simp
              first | done | with_reducible rfl
            simp only [Act.put, List.setIfInBounds_toArray, List.set_cons_zero, List.set_cons_succ]
            refine Lt.take (i := 11) (oi := { dst := some 60, op := Op.indexAddr 24 (Operand.tmp 58) (Operand.tmp 59), type := 0, pos := "l3_space.go:82", after := #[{ on := 9, ground := Ground.data }, { on := 10, ground := Ground.data }], guard := none }) (v := ?_) rfl (by kernel_rfl) (by kernel_rfl) (by kernel_rfl) (by kernel_rfl) (fun _ _ _ h => h) hS0 (Or.inl ⟨by rfl, ?_⟩) ?_
            rotate_left 1
            · intro w hSw
              try dsimp only at hSw
              go_simp
              first | done | with_reducible rfl
            simp only [Act.put, List.setIfInBounds_toArray, List.set_cons_zero, List.set_cons_succ]
            refine Lt.take (i := 12) (oi := { dst := some 61, op := Op.fieldAddr 64 (Operand.tmp 60) 1, type := 0, pos := "l3_space.go:82", after := #[{ on := 11, ground := Ground.data }], guard := none }) (v := ?_) rfl (by kernel_rfl) (by kernel_rfl) (by kernel_rfl) (by kernel_rfl) (fun _ _ _ h => h) hS0 (Or.inl ⟨by rfl, ?_⟩) ?_
            rotate_left 1
            · intro w hSw
              try dsimp only at hSw
              go_simp
              first | done | with_reducible rfl
            simp only [Act.put, List.setIfInBounds_toArray, List.set_cons_zero, List.set_cons_succ]
            refine Lt.take (i := 13) (oi := { dst := some 62, op := Op.load 31 (Operand.tmp 61), type := 31, pos := "l3_space.go:82", after := #[{ on := 12, ground := Ground.data }], guard := none }) (v := ?_) rfl (by kernel_rfl) (by kernel_rfl) (by kernel_rfl) (by kernel_rfl) (fun _ _ _ h => h) hS0 (Or.inl ⟨by rfl, ?_⟩) ?_
            rotate_left 1
            · intro w hSw
              try dsimp only at hSw
              go_simp
              first | done | with_reducible rfl
            simp only [Act.put, List.setIfInBounds_toArray, List.set_cons_zero, List.set_cons_succ]
            refine Lt.step (i := 14) (o := { dst := some 63, op := Op.call { callee := Callee.value (Operand.func 46), args := #[Operand.tmp 62], argTypes := #[31] }, type := 31, pos := "l3_space.go:82", after := #[{ on := 13, ground := Ground.data }], guard := none }) (by kernel_rfl) rfl (fun K hK => ?_)
            go_simp
            refine (HCP.out _ ((Below.refl _ _).drew)).mono ?_
            rintro e w6 ⟨hb6, gc, cpc, rfl, hoc⟩
            have hb7 : Below wr.heap.size wr w6 := (Below.drew (Below.refl _ _)).trans (hb6.mono (by simp))
            have HOC : Hid (w6.ownsRow wr.heap.size 84 3 (.slice (some ⟨gc, 0, none⟩) s.code.length cpc) s.code.length (insV s.code)) := own_base hoc (by simp)
            refine hK.out _ _ (fun _ => ⟨cell_below hb7 dP, cell_below hb7 dZ, cell_below hb7 c1', cell_below hb7 c2'⟩) (fun hS6 => ?_)
            replace hS6 := hS6 (by decide)
            clear hK K hS0 hb6 hoc
            refine Lt.take (i := 15) (oi := { dst := some 64, op := Op.build 64 #[(0, Operand.tmp 56), (1, Operand.tmp 63)], type := 64, pos := "l3_space.go:82", after := #[{ on := 7, ground := Ground.data }, { on := 14, ground := Ground.data }], guard := none }) (v := ?_) rfl (by kernel_rfl) (by kernel_rfl) (by kernel_rfl) (by kernel_rfl) (fun _ _ _ h => h) hS6 (Or.inl ⟨by rfl, ?_⟩) ?_
            rotate_left 1
            · intro w hSw
              try dsimp only at hSw
              go_simp
              first | done | with_reducible rfl
            simp only [Act.put, List.setIfInBounds_toArray, List.set_cons_zero, List.set_cons_succ]
            refine Lt.step (i := 16) (o := { dst := some 65, op := Op.buildSlice 24 1 #[(0, Operand.tmp 64)], type := 24, pos := "l3_space.go:82", after := #[{ on := 15, ground := Ground.data }], guard := none }) (by kernel_rfl) rfl (fun K hK => ?_)
            go_simp
            refine hK.out _ _ (fun _ => ⟨cellW hS6.1, cellW hS6.2.1, cellW hS6.2.2.1, cellW hS6.2.2.2⟩) (fun hS8 => ?_)
            replace hS8 := hS8 (by decide)
            clear hK K hS6
            refine Lt.step (i := 17) (o := { dst := some 66, op := Op.call { callee := Callee.builtin Builtin.append, args := #[Operand.tmp 50, Operand.tmp 65], argTypes := #[24, 24] }, type := 24, pos := "l3_space.go:82", after := #[{ on := 1, ground := Ground.data }, { on := 16, ground := Ground.data }, { on := 14, ground := Ground.chain }], guard := none }) (by kernel_rfl) rfl (fun K hK => ?_)
            refine step_appT rfl (by rfl) (P + 1) v2 _ ys (by rfl) ((ownsRow_below HYS.out hb7).alloc _) w6.heap.size s.name (.slice (some ⟨gc, 0, none⟩) s.code.length cpc) rfl (by rfl) (heapW_new _ _) (by have := hb7.size; simp; omega) hln ?_
            intro g' cap' w7 hown7 hgrow
            have hsz6 := hb7.size
            have KC : ∀ (p : Addr) (u : Value), p.block ≤ P → World.cell? (w6.alloc _) p = some u → w7.cell? p = some u := fun p u hp h => by
              rw [hgrow.cell_far p (World.block_lt_of_cell? _ _ h) (fun e => by have := (HYS.out.lt _ e.symm).1; omega)]; exact h
            have x0 := KC ⟨P, 1, none⟩ _ (Nat.le_refl _) hS8.1
            have x1 := KC ⟨w.heap.size, 1, none⟩ _ (by show w.heap.size ≤ P; omega) hS8.2.1
            have x2 := KC _ _ (by show b ≤ P; omega) hS8.2.2.1
            have x3 := KC _ _ (by show b ≤ P; omega) hS8.2.2.2
            have HNP : Hid (WS (w7.setCell ⟨P, 1, none⟩ (.slice (some ⟨g', 0, none⟩) (L.length + 1) cap')) P v1 (.slice (some ⟨g', 0, none⟩) (L.length + 1) cap') (fltS t ss) (L ++ [s])) := WS.putT HW.out (hb7.alloc (by omega) _) hsz HYS.out HPT.out (HOC.out.alloc _) (insV_filled _) hgrow hown7
            have hbP7 : Below P w5 w7 := ((hbr.trans (hb7.mono (by omega))).alloc (by omega) _).grown hgrow (by simp; omega) (fun m hm => by have := (HYS.out.lt m hm).1; omega)
            have hs7 : P + 1 ≤ w7.heap.size := by have h2 := hgrow.size; simp at h2; omega
            have fz : w7.frozen? ⟨P, 1, none⟩ = false := by rw [hgrow.frozen_far ⟨P, 1, none⟩ (by simp; omega) (fun e => by have h := (HYS.out.lt _ e.symm).1; exact absurd h (Nat.not_succ_le_self _))]; exact Lib.frozen_of_heap (by rw [Lib.alloc_old _ _ _ (by omega)]; exact (HW.out.below hb7).blk) 1
            refine hK.out _ _ (fun _ => ⟨x0, x1, x2, x3⟩) (fun hS9 => ?_)
            replace hS9 := hS9 (by decide)
            clear hK K hS8 hgrow hown7 KC
            simp only [Act.put, List.setIfInBounds_toArray, List.set_cons_zero, List.set_cons_succ]
            refine Lt.take (i := 18) (oi := { dst := some 67, op := Op.fieldAddr 26 (Operand.tmp 5) 1, type := 0, pos := "l3_space.go:82", after := #[{ on := 0, ground := Ground.phase }, { on := 1, ground := Ground.phase }, { on := 2, ground := Ground.phase }, { on := 3, ground := Ground.phase }, { on := 4, ground := Ground.phase }, { on := 5, ground := Ground.phase }, { on := 6, ground := Ground.phase }, { on := 7, ground := Ground.phase }, { on := 8, ground := Ground.phase }, { on := 9, ground := Ground.phase }, { on := 10, ground := Ground.phase }, { on := 11, ground := Ground.phase }, { on := 12, ground := Ground.phase }, { on := 13, ground := Ground.phase }, { on := 14, ground := Ground.phase }, { on := 15, ground := Ground.phase }, { on := 16, ground := Ground.phase }, { on := 17, ground := Ground.phase }], guard := none }) (v := ?_) rfl (by kernel_rfl) (by kernel_rfl) (by kernel_rfl) (by kernel_rfl) (fun _ _ _ h => h) hS9 (Or.inl ⟨by rfl, ?_⟩) ?_
            rotate_left 1
            · intro w hSw
              try dsimp only at hSw
              go_simp
              first | done | with_reducible rfl
            simp only [Act.put, List.setIfInBounds_toArray, List.set_cons_zero, List.set_cons_succ]
            refine Lt.step (i := 19) (o := { dst := none, op := Op.store 24 (Operand.tmp 67) (Operand.tmp 66), type := 0, pos := "l3_space.go:82", after := #[{ on := 18, ground := Ground.data }, { on := 17, ground := Ground.data }, { on := 17, ground := Ground.chain }, { on := 0, ground := Ground.phase }, { on := 1, ground := Ground.phase }, { on := 2, ground := Ground.phase }, { on := 3, ground := Ground.phase }, { on := 4, ground := Ground.phase }, { on := 5, ground := Ground.phase }, { on := 6, ground := Ground.phase }, { on := 7, ground := Ground.phase }, { on := 8, ground := Ground.phase }, { on := 9, ground := Ground.phase }, { on := 10, ground := Ground.phase }, { on := 11, ground := Ground.phase }, { on := 12, ground := Ground.phase }, { on := 13, ground := Ground.phase }, { on := 14, ground := Ground.phase }, { on := 15, ground := Ground.phase }, { on := 16, ground := Ground.phase }, { on := 17, ground := Ground.phase }], guard := none }) (by kernel_rfl) rfl (fun K hK => ?_)
            go_simp
            refine hK.out _ _ (fun h => absurd rfl h) (fun _ => ?_)
            clear hK K hS9
            refine Lt.done (by kernel_rfl) ?_ _
            go_wp2
            go_roundw
            case rel => exact ⟨k + 1, _, by omega, by go_num, (by rw [HFY.out]; exact HNP.out), hbP7.setCell (p := ⟨P, 1, none⟩) (Nat.le_refl _) _, by simpa using hs7⟩
            case measure => simp [intOf]; omega
        · have ek : k = ts.length := by omega
          subst ek
          rw [List.take_of_length_le (Nat.le_refl _)] at HW
          have kbr : wr.heap[w.heap.size + 1]? = some (.cells #[.slice none 0 0, .slice none 0 0] 26 (0, 0)) := by rw [hbr.block _ hwP]; exact KB5.out
          have r0 : wr.cell? ⟨w.heap.size + 1, 0, none⟩ = some (.slice none 0 0) := by rw [Lib.cell_of_heap kbr]; rfl
          have r1 : wr.cell? ⟨w.heap.size + 1, 1, none⟩ = some (.slice none 0 0) := by rw [Lib.cell_of_heap kbr]; rfl
          have fr : ∀ j, wr.frozen? ⟨w.heap.size + 1, j, none⟩ = false := fun j => Lib.frozen_of_heap kbr j
          obtain ⟨d0, d1⟩ := HW.out.cell
          obtain ⟨o1, o2⟩ := HW.out.own (lo := P + 1) (hi := wr.heap.size) (Nat.le_refl _) (Nat.le_refl _)
          have HO1 : Hid (OwnS wr (P + 1) wr.heap.size v1 (fltS t ss)) := o1
          have HO2 : Hid (OwnT wr (P + 1) wr.heap.size v2 (fltT t ts)) := o2
          obtain ⟨a1, p1, rfl, _⟩ := o1.sl
          obtain ⟨a2, p2, rfl, _⟩ := o2.sl
          have hR : w.heap.size ≤ w.heap.size + 1 := by omega
          clear kbr hbr o1 o2 HW HW1 HB1
          go_wp2
          refine bodyPost_ret (v := .agg #[.slice a1 (fltS t ss).length p1, .slice a2 (fltT t ts).length p2]) (by simp [results, Tryz.results30, go_sem, r0, r1]) rfl ⟨(hw.setCell (p := ⟨w.heap.size + 1, 0, none⟩) hR _).setCell (p := ⟨w.heap.size + 1, 1, none⟩) hR _, _, _, rfl, ?_, ?_⟩
          · exact ((HO1.out.set (by omega) _).set (by omega) _).wide (by omega) (by simp)
          · exact ((HO2.out.set (by omega) _).set (by omega) _).wide (by omega) (by simp)

theorem l3Without_any (sa ta : Option Addr) (c1 c2 : Nat) (ss : List S2) (ts : List T2) (t : ByteArray) (w : World) (rs : RowS w sa ss) (rt : RowT w ta ts) (h1 : ss.length ≤ 200) (h2 : ts.length ≤ 200) (hkt : ∀ i, i < ts.length → 1 ≤ (tx ts i).code.length ∧ (tx ts i).code.length ≤ 1048576) :
    Calls Tryz.prog 30 #[.agg #[.slice sa ss.length c1, .slice ta ts.length c2], .string t] w fun e w' => Below w.heap.size w w' ∧ ∃ v1 v2, e = .returned (.agg #[v1, v2]) ∧ OwnS w' w.heap.size w'.heap.size v1 (fltS t ss) ∧ OwnT w' w.heap.size w'.heap.size v2 (fltT t ts) :=
  l3Without_gen sa ta c1 c2 ss ts t w rs (rt.rowC hkt) (by omega) (by omega)
end Go.Proofs.YtjdjhenijihpfaaGreatDoor
