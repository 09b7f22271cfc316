import Derived.Test.YtjdjhenijihpfaaGreatDoorEdL
namespace Go.Proofs.YtjdjhenijihpfaaGreatDoor
open Go.RowKit Go.Deep
set_option linter.unusedVariables false

/-- What DrawPutTarget gives. -/
def DrT (w : World) (e : Ending) (w' : World) : Prop := Below w.heap.size w w' ∧ ∃ v1 v2 : Value, ∃ nm : ByteArray, ∃ g n c : Nat, ∃ is : List I3, ∃ k1 k2 : Nat, ∃ b1 n1 b2 n2, v1 = .slice b1 k1 n1 ∧ v2 = .slice b2 k2 n2 ∧ e = .returned (.tuple #[.agg #[v1, v2], .string nm, .agg #[.slice (some ⟨g, 0, none⟩) n c]]) ∧ nm.size ≤ 50000 ∧ n = is.length ∧ w'.ownsRow w.heap.size 84 3 (.slice (some ⟨g, 0, none⟩) n c) n (insC is) ∧ n ≤ 400 ∧ ∀ x ∈ is, x.text.size ≤ 50000

set_option maxRecDepth 100000 in
set_option maxHeartbeats 8000000 in
theorem drawPT_any (w : World) (a : Option Addr) (len cap : Nat) (h : Bytes w a len) (hlc : len ≤ cap) (hl : len ≤ 1048576) :
    Calls Tryz.prog 5 #[.slice a len cap] w fun e w' => DrT w e w' := by
  obtain ⟨w1, e1⟩ : ∃ y, (w.alloc (.cells #[.slice none 0 0, .slice none 0 0] 26)).alloc (.cells #[.slice none 0 0] 31) = y := ⟨_, rfl⟩
  have hb1 : Below w.heap.size w w1 := by rw [← e1]; exact ((Below.refl _ _).alloc (Nat.le_refl _) _).alloc (by simp) _
  have hs1 : w1.heap.size = w.heap.size + 2 := by rw [← e1]; simp
  have HQ : Hid (w1.heap[w.heap.size]? = some (.cells #[.slice none 0 0, .slice none 0 0] 26 (0, 0))) := by show _ = _; rw [← e1, Lib.alloc_old _ _ _ (by simp)]; exact heapW_new _ _
  have HQ2 : Hid (w1.heap[w.heap.size + 1]? = some (.cells #[.slice none 0 0] 31 (0, 0))) := by
    have hh := heapW_new (w.alloc (.cells #[.slice none 0 0, .slice none 0 0] 26)) (.cells #[.slice none 0 0] 31)
    rw [show (w.alloc (.cells #[.slice none 0 0, .slice none 0 0] 26)).heap.size = w.heap.size + 1 from by simp, e1] at hh
    exact hh
  have hby : Bytes w1 a len := fun i hi => by obtain ⟨b, off, v, h1, h2, h3⟩ := h i hi; exact ⟨b, off, v, h1, cell_below hb1 h2, h3⟩
  have HO := hid (l1Open_any w1 a len cap hby hlc hl)
  obtain ⟨R, eR⟩ : ∃ y, w1.heap.size = y := ⟨_, rfl⟩
  rw [eR] at HO
  have hRw : w.heap.size + 1 < R := by omega
  have HER := hid eR
  have HB1 := hid hb1
  have HBY := hid hby
  have HLC := hid hlc
  clear hby h hlc hs1 eR hb1
  go_enter Tryz.func5, Tryz.ntmps5
  go_wp2_with fail
  clear e1
  refine HO.out.mono ?_
  rintro e w2 ⟨len', rfl, hr, hsz, hb2⟩
  clear HO
  have hR2 : R < w2.heap.size := by omega
  have hBw : R + 1 ≤ w2.heap.size := by omega
  have hb2' : Below w1.heap.size w1 w2 := by rw [HER.out]; exact hb2
  have HB : Hid (Below w.heap.size w w2) := HB1.out.trans (hb2'.mono (by have := HB1.out.size; omega))
  replace HQ := hid (blk_below HQ.out hb2')
  replace HQ2 := hid (blk_below HQ2.out hb2')
  have HBY2 : Hid (Bytes w2 a len) := fun i hi => by obtain ⟨b, off, v, h1, h2, h3⟩ := HBY.out i hi; exact ⟨b, off, v, h1, cell_below hb2' h2, h3⟩
  have HR := hid hr
  clear hr hsz hb2 hb2' HER HB1 HBY
  go_wp2_with fail
  refine (drawPS_any w2 a len cap HBY2.out HLC.out hl).mono ?_
  unfold DrS
  rintro e w3 ⟨hb3, v1, v2, l1, l2, nm, tx, rfl, hd, hbd, hnm, htx⟩
  obtain ⟨a1, p1, rfl⟩ := hd.s1
  obtain ⟨a2, p2, rfl⟩ := hd.s2
  obtain ⟨w4, e4⟩ : ∃ y, w3.alloc (.cells #[.slice a1 l1.length p1, .slice a2 l2.length p2] 26) = y := ⟨_, rfl⟩
  have hb4 : Below w3.heap.size w3 w4 := by rw [← e4]; exact (Below.refl _ _).alloc (Nat.le_refl _) _
  obtain ⟨P, eP⟩ : ∃ P, w3.heap.size = P := ⟨_, rfl⟩
  have HP : Hid (w4.heap[P]? = some (.cells #[.slice a1 l1.length p1, .slice a2 l2.length p2] 26 (0, 0))) := by show _ = _; rw [← e4, ← eP]; exact heapW_new _ _
  have hPR : R < P := by have := hb3.size; omega
  have hb34 := bt hb3 hb4
  replace HB := hid (bt HB.out hb34)
  replace HQ := hid (blk_below HQ.out hb34)
  replace HQ2 := hid (blk_below HQ2.out hb34)
  replace HR := hid (HR.out.below hBw hb34)
  have hw4 : R + 1 ≤ w4.heap.size := by have := hb34.size; omega
  clear hd hbd hb3 hb4 hb34 htx HBY2 HLC
  go_wp2_with fail
  clear e4 eP
  refine Lt.begin 99 (fun w' => w'.heap[P]? = some (.cells #[.slice a1 l1.length p1, .slice a2 l2.length p2] 26 (0, 0))) (by kernel_rfl) ?_
  obtain ⟨wD, eD⟩ : ∃ y, w4.drew = y := ⟨_, rfl⟩
  rw [eD]
  have hbD : Below w4.heap.size w4 wD := by rw [← eD]; exact (Below.refl _ _).drew
  clear eD
  replace HP := hid (blk_below HP.out hbD)
  replace HQ := hid (blk_below HQ.out hbD)
  replace HQ2 := hid (blk_below HQ2.out hbD)
  replace HB := hid (bt HB.out hbD)
  replace HR := hid (HR.out.below hw4 hbD)
  have hS0 : (fun w' => w'.heap[P]? = some (.cells #[.slice a1 l1.length p1, .slice a2 l2.length p2] 26 (0, 0))) wD := HP.out
  refine Lt.take (i := 0) (oi := { dst := some 17, op := Op.load 26 (Operand.tmp 6), type := 26, pos := "l3_draw.go:155", after := #[], guard := none }) (v := ?_) rfl (by kernel_rfl) (by kernel_rfl) (by kernel_rfl) (by kernel_rfl) (fun _ _ _ h => h) hS0 (Or.inl ⟨by rfl, ?_⟩) ?_
  rotate_left 1
  · rintro w hSw
    obtain ⟨c0, c1⟩ := blk_c hSw
    go_simp
    first | done | with_reducible rfl
  simp only [Act.put, List.setIfInBounds_toArray, List.set_cons_zero, List.set_cons_succ]
  refine Lt.take (i := 1) (oi := { dst := some 18, op := Op.move (Operand.tmp 7), type := 9, pos := "l3_draw.go:155", after := #[{ on := 4, ground := Ground.gcOnly Departure.lateStores }], guard := none }) (v := ?_) rfl (by kernel_rfl) (by kernel_rfl) (by kernel_rfl) (by kernel_rfl) (fun _ _ _ h => h) hS0 (Or.inl ⟨by rfl, ?_⟩) ?_
  rotate_left 1
  · rintro w hSw
    obtain ⟨c0, c1⟩ := blk_c hSw
    go_simp
    first | done | with_reducible rfl
  simp only [Act.put, List.setIfInBounds_toArray, List.set_cons_zero, List.set_cons_succ]
  refine Lt.take (i := 2) (oi := { dst := some 19, op := Op.move (Operand.tmp 5), type := 46, pos := "l3_draw.go:155", after := #[], guard := none }) (v := ?_) rfl (by kernel_rfl) (by kernel_rfl) (by kernel_rfl) (by kernel_rfl) (fun _ _ _ h => h) hS0 (Or.inl ⟨by rfl, ?_⟩) ?_
  rotate_left 1
  · rintro w hSw
    obtain ⟨c0, c1⟩ := blk_c hSw
    go_simp
    first | done | with_reducible rfl
  simp only [Act.put, List.setIfInBounds_toArray, List.set_cons_zero, List.set_cons_succ]
  refine Lt.step (i := 3) (o := { dst := some 20, op := Op.call { callee := Callee.value (Operand.func 24), args := #[Operand.tmp 19], argTypes := #[46] }, type := 31, pos := "l3_draw.go:155", after := #[{ on := 2, ground := Ground.data }], guard := none }) (by kernel_rfl) rfl (fun K hK => ?_)
  go_simp
  refine (l2Any_any (R + 1) R a len' cap 0 wD HR.out (by have := HB.out.size; have := blkW_lt HP.out; omega) (by omega)).mono ?_
  rintro e wA ⟨g, n, c, is, rfl, hn, ho, hL, hx, hk⟩
  have hgA := hk.1
  have HO := hid (own_base (B' := w.heap.size) ho HB.out.size)
  have HN := hid hn
  have HX := hid hx
  have HBA : Hid (Below w.heap.size w wA) := HB.out.grown hgA HB.out.size (fun k hk => by cases hk; omega)
  replace HP := hid (blk_gb HP.out hgA (by omega))
  replace HQ := hid (blk_gb HQ.out hgA (by omega))
  replace HQ2 := hid (blk_gb HQ2.out hgA (by omega))
  clear hgA hk hn ho hx HR HB
  have hS1 : (fun w' => w'.heap[P]? = some (.cells #[.slice a1 l1.length p1, .slice a2 l2.length p2] 26 (0, 0))) wA := HP.out
  refine hK.out _ _ (fun _ => hS1) (fun _ => ?_)
  clear hK K 
  try simp only [Act.put, List.setIfInBounds_toArray, List.set_cons_zero, List.set_cons_succ]
  obtain ⟨r0, r1⟩ := blk_c HQ.out
  have fr := fun j => Lib.frozen_of_heap HQ.out j
  have r2 := blk_c1 HQ2.out
  have fr2 := fun j => Lib.frozen_of_heap HQ2.out j
  refine Lt.step (i := 4) (o := { dst := none, op := Op.store 26 (Operand.tmp 2) (Operand.tmp 17), type := 0, pos := "l3_draw.go:155", after := #[{ on := 0, ground := Ground.data }, { on := 3, ground := Ground.chain }, { on := 0, ground := Ground.phase }, { on := 1, ground := Ground.textOnly Departure.lateStores }, { on := 2, ground := Ground.textOnly Departure.lateStores }, { on := 3, ground := Ground.textOnly Departure.lateStoresUnsure }], guard := none }) (by kernel_rfl) rfl (fun K hK => ?_)
  go_simp
  refine hK.out _ _ (fun _ => blk_set (blk_set HP.out (by omega) _) (by omega) _) (fun _ => ?_)
  clear hK K
  try simp only [Act.put, List.setIfInBounds_toArray, List.set_cons_zero, List.set_cons_succ]
  refine Lt.step (i := 5) (o := { dst := some 3, op := Op.assign (Operand.tmp 18), type := 9, pos := "l3_draw.go:155", after := #[{ on := 1, ground := Ground.data }, { on := 4, ground := Ground.chain }, { on := 0, ground := Ground.phase }, { on := 1, ground := Ground.phase }, { on := 2, ground := Ground.textOnly Departure.lateStores }, { on := 3, ground := Ground.textOnly Departure.lateStoresUnsure }, { on := 4, ground := Ground.phase }], guard := none }) (by kernel_rfl) rfl (fun K hK => ?_)
  go_simp
  refine hK.out _ _ (fun _ => blk_set (blk_set HP.out (by omega) _) (by omega) _) (fun _ => ?_)
  clear hK K
  try simp only [Act.put, List.setIfInBounds_toArray, List.set_cons_zero, List.set_cons_succ]
  refine Lt.step (i := 6) (o := { dst := none, op := Op.store 31 (Operand.tmp 4) (Operand.tmp 20), type := 0, pos := "l3_draw.go:155", after := #[{ on := 3, ground := Ground.data }, { on := 5, ground := Ground.chain }, { on := 0, ground := Ground.phase }, { on := 1, ground := Ground.phase }, { on := 2, ground := Ground.phase }, { on := 3, ground := Ground.phase }, { on := 4, ground := Ground.phase }, { on := 5, ground := Ground.phase }], guard := none }) (by kernel_rfl) rfl (fun K hK => ?_)
  go_simp
  refine hK.out _ _ (fun _ => blk_set (blk_set (blk_set HP.out (by omega) _) (by omega) _) (by omega) _) (fun _ => ?_)
  clear hK K
  refine Lt.done (by kernel_rfl) ?_ _
  go_wp2
  refine bodyPost_ret (v := .tuple #[.agg #[.slice a1 l1.length p1, .slice a2 l2.length p2], .string nm, .agg #[.slice (some ⟨g, 0, none⟩) n c]]) (by simp [results, Tryz.results5, go_sem, r0, r1, r2]) rfl ?_
  exact ⟨(below_set2 HBA.out (Nat.le_refl _) _ _).setCell (p := ⟨w.heap.size + 1, 0, none⟩) (by simp) _, _, _, nm, g, n, c, is, _, _, _, _, _, _, rfl, rfl, rfl, hnm, HN.out, own_setT (own_setT (own_setT HO.out ⟨_, HQ.out⟩ (by decide) _) (HasT.set ⟨_, HQ.out⟩ _) (by decide) _) (HasT.set (HasT.set ⟨_, HQ2.out⟩ _) _) (by decide) _, hL, HX.out⟩
end Go.Proofs.YtjdjhenijihpfaaGreatDoor
