import Derived.Test.YtjdjhenijihpfaaGreatDoorEdR
import Derived.Test.YtjdjhenijihpfaaGreatDoorAsc
import Derived.Test.YtjdjhenijihpfaaGreatDoorEdC
namespace Go.Proofs.YtjdjhenijihpfaaGreatDoor
open Go.RowKit Go.Deep
set_option linter.unusedVariables false

/-- What under leaves: all older blocks but the maker's and its map's. -/
structure KU (W0 w : World) (h mb : Nat) (v : World) : Prop where
  bel : Below W0.heap.size W0 v
  sz : w.heap.size ≤ v.heap.size
  old : ∀ b, b < w.heap.size → b ≠ h → b ≠ mb → v.heap[b]? = w.heap[b]?
theorem KU.refl {W0 w : World} {h mb : Nat} (hb : Below W0.heap.size W0 w) : KU W0 w h mb w := ⟨hb, Nat.le_refl _, fun _ _ _ _ => rfl⟩
theorem KU.below {W0 w v v' : World} {h mb : Nat} (k : KU W0 w h mb v) (hb : Below v.heap.size v v') : KU W0 w h mb v' := ⟨bt k.bel hb, Nat.le_trans k.sz hb.size, fun b h1 h2 h3 => by rw [hb.block b (Nat.lt_of_lt_of_le h1 k.sz)]; exact k.old b h1 h2 h3⟩
theorem KU.set {W0 w v : World} {h mb b j : Nat} (k : KU W0 w h mb v) (h0 : W0.heap.size ≤ b) (h1 : b = h ∨ w.heap.size ≤ b) (u : Value) : KU W0 w h mb (v.setCell ⟨b, j, none⟩ u) := ⟨k.bel.setCell (p := ⟨b, j, none⟩) h0 u, by simpa using k.sz, fun b' q1 q2 q3 => by rw [Below.heap_setCell v ⟨b, j, none⟩ u b' (by show b' ≠ b; omega)]; exact k.old b' q1 q2 q3⟩
theorem KU.gm {W0 w v v' : World} {h mb : Nat} (k : KU W0 w h mb v) (h0 : W0.heap.size ≤ mb) (hg : v.grownBy v' (some mb)) : KU W0 w h mb v' := ⟨k.bel.grown hg k.bel.size (fun j hj => by cases hj; exact h0), Nat.le_trans k.sz hg.size, fun b q1 q2 q3 => by rw [hg.block b (Nat.lt_of_lt_of_le q1 k.sz) (fun e => by injection e with e; exact q3 e)]; exact k.old b q1 q2 q3⟩

set_option maxRecDepth 100000 in
set_option maxHeartbeats 8000000 in
theorem under_easy (W0 : World) (h mb : Nat) (sa ta : Option Addr) (c1 c2 : Nat) (ss : List S2) (ts : List T2) (nm t : ByteArray) (c : Int) (w : World) (hE : SpE W0 sa ta ss ts) (hW : Below W0.heap.size W0 w) (s : Mk0 w h mb (.slice sa ss.length c1) (.slice ta ts.length c2)) (hh : W0.heap.size ≤ h) (hmb : W0.heap.size ≤ mb) (hc : Easy ss ts nm c t) (hc2 : c = 0 ∨ c = 4) (hnm : nm.size ≤ 60) (ht : t.size ≤ 2000) :
    Calls Tryz.prog 86 #[.pointer (some ⟨h, 0, none⟩), .string nm] w fun e w' => KU W0 w h mb w' ∧ ∃ f : ByteArray, e = .returned (.agg #[.bool true, .int .i64 c, .string t, .slice none 0 0, .string f, .slice none 0 0]) := by
  have hhw : h < w.heap.size := blkW_lt s.blk
  have hmw : mb < w.heap.size := s.map.lt
  obtain ⟨w2, e2⟩ : ∃ y, (w.alloc (.cells #[.bool false, .int .i64 0, .string ⟨#[]⟩, .slice none 0 0, .string ⟨#[]⟩, .slice none 0 0] 73)).alloc (.cells #[.bool false, .int .i64 0, .string ⟨#[]⟩, .slice none 0 0, .string ⟨#[]⟩, .slice none 0 0] 73) = y := ⟨_, rfl⟩
  have hb2 : Below w.heap.size w w2 := by rw [← e2]; exact ((Below.refl _ _).alloc (Nat.le_refl _) _).alloc (by simp) _
  have HQ : Hid (w2.heap[w.heap.size]? = some (.cells #[.bool false, .int .i64 0, .string ⟨#[]⟩, .slice none 0 0, .string ⟨#[]⟩, .slice none 0 0] 73 (0, 0))) := by show _ = _; rw [← e2, Lib.alloc_old _ _ _ (by simp)]; exact heapW_new _ _
  have HX : Hid (w2.heap[w.heap.size + 1]? = some (.cells #[.bool false, .int .i64 0, .string ⟨#[]⟩, .slice none 0 0, .string ⟨#[]⟩, .slice none 0 0] 73 (0, 0))) := by
    have hx := heapW_new (w.alloc (.cells #[.bool false, .int .i64 0, .string ⟨#[]⟩, .slice none 0 0, .string ⟨#[]⟩, .slice none 0 0] 73)) (.cells #[.bool false, .int .i64 0, .string ⟨#[]⟩, .slice none 0 0, .string ⟨#[]⟩, .slice none 0 0] 73)
    rw [show (w.alloc (.cells #[.bool false, .int .i64 0, .string ⟨#[]⟩, .slice none 0 0, .string ⟨#[]⟩, .slice none 0 0] 73)).heap.size = w.heap.size + 1 from by simp, e2] at hx
    exact hx
  have hs2 : w2.heap.size = w.heap.size + 2 := by rw [← e2]; simp
  have hlook : (Instr.lookup 112 (.map (some mb)) (.string nm) true).run Tryz.prog (w.alloc (.cells #[.bool false, .int .i64 0, .string ⟨#[]⟩, .slice none 0 0, .string ⟨#[]⟩, .slice none 0 0] 73)) = .ok (.tuple #[.agg #[.bool false, .int .i64 0, .string ⟨#[]⟩, .slice none 0 0, .string ⟨#[]⟩, .slice none 0 0], .bool false]) (w.alloc (.cells #[.bool false, .int .i64 0, .string ⟨#[]⟩, .slice none 0 0, .string ⟨#[]⟩, .slice none 0 0] 73)) := (s.map.same (Lib.alloc_old _ _ _ hmw)).look (by unfold maxLen; omega)
  have k1 : (w.alloc (.cells #[.bool false, .int .i64 0, .string ⟨#[]⟩, .slice none 0 0, .string ⟨#[]⟩, .slice none 0 0] 73)).cell? ⟨h, 2, none⟩ = some (.map (some mb)) := cellW (bk6 s.blk).1.2.2.1
  obtain ⟨av, eav⟩ : ∃ y, Value.slice none 0 0 = y := ⟨_, rfl⟩
  have m3 : ((w.alloc (.cells #[.bool false, .int .i64 0, .string ⟨#[]⟩, .slice none 0 0, .string ⟨#[]⟩, .slice none 0 0] 73)).alloc (.cells #[.bool false, .int .i64 0, .string ⟨#[]⟩, .slice none 0 0, .string ⟨#[]⟩, .slice none 0 0] 73)).cell? ⟨h, 3, none⟩ = some av := by rw [← eav]; exact cellW (cellW (bk6 s.blk).1.2.2.2.1)
  have EAV := hid0 eav
  clear eav
  have HL : Hid ((w2.alloc (.cells #[.string nm] 9)).heap[w.heap.size + 1 + 1]? = some (.cells #[.string nm] 9 (0, 0))) := by have hx := heapW_new w2 (.cells #[.string nm] 9); rw [hs2] at hx; exact hx
  obtain ⟨i0, hi, hz0, hz1, hz2⟩ := info_parts Tryz.info9b
  have HM := hid0 (blk_below s.blk hb2)
  have HMP := hid0 (s.map.same (hb2.block _ hmw))
  have HK := hid0 ((KU.refl hW).below hb2 (h := h) (mb := mb))
  have HE := hid0 hE
  have HC := hid0 hc
  have HC2 := hid0 hc2
  have E2 : Hid ((w.alloc (.cells #[.bool false, .int .i64 0, .string ⟨#[]⟩, .slice none 0 0, .string ⟨#[]⟩, .slice none 0 0] 73)).alloc (.cells #[.bool false, .int .i64 0, .string ⟨#[]⟩, .slice none 0 0, .string ⟨#[]⟩, .slice none 0 0] 73) = w2) := e2
  have HS2 := hid0 hs2
  clear hb2 s hE hc hc2 hW e2 hs2
  go_enter Tryz.func86, Tryz.ntmps86
  go_wp2_with (at_builtin; rw [E2.out]; refine wpList_append_own _ rfl _ _ 39 rfl w2.heap.size 9 i0 (.string ⟨#[]⟩) 1 16 Tryz.underlying39 hi hz0 hz1 hz2 rfl (by decide) _ 0 [] rfl (by rw [← EAV.out]; exact World.ownsRow_nil _ _ _ _) ⟨w.heap.size + 1 + 1, 0, none⟩ 1 1 [.string nm] rfl rfl (World.news_of_block (cs := #[.string nm]) (t := 9) (fr := (0, 0)) HL.out) (by intro u' hu; simp at hu; rw [hu]; rfl) (by unfold maxLen; omega) (by omega) (by simp) ?_; intro v' w4 hown7 hgrow hnil; rw [← EAV.out] at hgrow; obtain ⟨g', cap', rfl⟩ := own_some hown7 (fun e => by have := (hnil.1 e).2; omega); have hb4 : Below w2.heap.size w2 w4 := ((Below.refl _ _).alloc (Nat.le_refl _) _).grown hgrow (by simp) (fun k hk => by cases hk); have HM4 := hid0 (blk_below HM.out hb4); have HQ4 := hid0 (blk_below HQ.out hb4); have HX4 := hid0 (blk_below HX.out hb4); have HMP4 := hid0 (HMP.out.same (hb4.block _ HMP.out.lt)); have HK4 := hid0 (HK.out.below hb4); obtain ⟨⟨x0, x1, x2, x3, x4, x5⟩, xf⟩ := bk6 HM4.out; clear hnil hgrow hown7 hb4 HM HQ HX HMP HK E2 HL)
  obtain ⟨w5, e5⟩ : ∃ y, w4.setCell ⟨h, 3, none⟩ (.slice (some ⟨g', 0, none⟩) (0 + 1) cap') = y := ⟨_, rfl⟩
  have HM5 : Hid (w5.heap[h]? = some (.cells #[.slice sa ss.length c1, .slice ta ts.length c2, .map (some mb), (.slice (some ⟨g', 0, none⟩) (0 + 1) cap'), .slice none 0 0, .func (.func 84) #[.pointer (some ⟨h, 0, none⟩)] #[]] 114 (0, 0))) := by show _ = _; rw [← e5, Joins.block_setCell HM4.out]; rfl
  have HK5 : Hid (KU W0 w h mb w5) := by show KU _ _ _ _ _; rw [← e5]; exact HK4.out.set hh (Or.inl rfl) _
  have HQ5 : Hid (w5.heap[w.heap.size]? = some (.cells #[.bool false, .int .i64 0, .string ⟨#[]⟩, .slice none 0 0, .string ⟨#[]⟩, .slice none 0 0] 73 (0, 0))) := by show _ = _; rw [← e5]; exact blk_set HQ4.out (by omega) _
  have HX5 : Hid (w5.heap[w.heap.size + 1]? = some (.cells #[.bool false, .int .i64 0, .string ⟨#[]⟩, .slice none 0 0, .string ⟨#[]⟩, .slice none 0 0] 73 (0, 0))) := by show _ = _; rw [← e5]; exact blk_set HX4.out (by omega) _
  have HMP5 : Hid (MapP w5 mb 0 (fun _ => none)) := by show MapP _ _ _ _; rw [← e5]; exact HMP4.out.same (Below.heap_setCell w4 ⟨h, 3, none⟩ _ mb (fun e => HMP4.out.notCells (by rw [e]; exact HM4.out)))
  clear HM4 HK4 HQ4 HX4 HMP4 x0 x1 x2 x3 x4 x5 xf m3 k1 hlook
  try rw [e5]
  clear e5
  refine (makeThing_easy W0 h sa ta c1 c2 ss ts nm t c _ _ _ _ w5 HE.out HK5.out.bel HM5.out HC.out).mono ?_
  rintro e w6 ⟨hb6, rfl⟩
  replace HM5 := hid0 (blk_below HM5.out hb6)
  replace HQ5 := hid0 (blk_below HQ5.out hb6)
  replace HX5 := hid0 (blk_below HX5.out hb6)
  replace HK5 := hid0 (HK5.out.below hb6)
  replace HMP5 := hid0 (HMP5.out.same (hb6.block _ HMP5.out.lt))
  clear hb6
  obtain ⟨⟨z0, z1, z2, z3, z4, z5⟩, zf⟩ := bk6 HX5.out
  go_wp2_with fail
  obtain ⟨w7, e7⟩ : ∃ y, ((((((w6.setCell ⟨w.heap.size + 1, 0, none⟩ (.bool false)).setCell ⟨w.heap.size + 1, 1, none⟩ (.int .i64 c)).setCell ⟨w.heap.size + 1, 2, none⟩ (.string t)).setCell ⟨w.heap.size + 1, 3, none⟩ (.slice none 0 0)).setCell ⟨w.heap.size + 1, 4, none⟩ (.string ⟨#[]⟩)).setCell ⟨w.heap.size + 1, 5, none⟩ (.slice none 0 0)).setCell ⟨w.heap.size + 1, 0, none⟩ (.bool true) = y := ⟨_, rfl⟩
  have HX7 : Hid (w7.heap[w.heap.size + 1]? = some (.cells #[.bool true, .int .i64 c, .string t, .slice none 0 0, .string ⟨#[]⟩, .slice none 0 0] 73 (0, 0))) := by show _ = _; rw [← e7, Joins.block_setCell (set6_at HX5.out _ _ _ _ _ _)]; rfl
  have hS7 : ∀ b, b ≠ w.heap.size + 1 → w7.heap[b]? = w6.heap[b]? := fun b hb => by rw [← e7, Below.heap_setCell _ ⟨w.heap.size + 1, 0, none⟩ _ b hb]; exact set6_ne hb _ _ _ _ _ _
  have HM7 := hid0 ((hS7 h (by omega)).trans HM5.out)
  have HQ7 := hid0 ((hS7 w.heap.size (by omega)).trans HQ5.out)
  have HMP7 := hid0 (HMP5.out.same (hS7 mb (by omega)))
  have hW0 : W0.heap.size ≤ w.heap.size := by omega
  have HK7 : Hid (KU W0 w h mb w7) := by show KU _ _ _ _ _; rw [← e7]; exact ((((((HK5.out.set (b := w.heap.size + 1) (by omega) (Or.inr (by omega)) _).set (b := w.heap.size + 1) (by omega) (Or.inr (by omega)) _).set (b := w.heap.size + 1) (by omega) (Or.inr (by omega)) _).set (b := w.heap.size + 1) (by omega) (Or.inr (by omega)) _).set (b := w.heap.size + 1) (by omega) (Or.inr (by omega)) _).set (b := w.heap.size + 1) (by omega) (Or.inr (by omega)) _).set (b := w.heap.size + 1) (by omega) (Or.inr (by omega)) _
  rw [e7]
  clear e7 hS7 HM5 HQ5 HX5 HK5 HMP5 z0 z1 z2 z3 z4 z5 zf
  refine (formResult_easy c HC2.out t ht w7).mono ?_
  rintro e w8 ⟨⟨f, rfl⟩, hb8⟩
  replace HM7 := hid0 (blk_below HM7.out hb8)
  replace HQ7 := hid0 (blk_below HQ7.out hb8)
  replace HX7 := hid0 (blk_below HX7.out hb8)
  replace HK7 := hid0 (HK7.out.below hb8)
  replace HMP7 := hid0 (HMP7.out.same (hb8.block _ HMP7.out.lt))
  clear hb8
  obtain ⟨⟨z0, z1, z2, z3, z4, z5⟩, zf⟩ := bk6 HX7.out
  go_wp2_with fail
  obtain ⟨w9, e9⟩ : ∃ y, w8.setCell ⟨w.heap.size + 1, 4, none⟩ (.string f) = y := ⟨_, rfl⟩
  have HX : Hid (w9.heap[w.heap.size + 1]? = some (.cells #[.bool true, .int .i64 c, .string t, .slice none 0 0, .string f, .slice none 0 0] 73 (0, 0))) := by show _ = _; rw [← e9, Joins.block_setCell HX7.out]; rfl
  have HM : Hid (w9.heap[h]? = some (.cells #[.slice sa ss.length c1, .slice ta ts.length c2, .map (some mb), (.slice (some ⟨g', 0, none⟩) (0 + 1) cap'), .slice none 0 0, .func (.func 84) #[.pointer (some ⟨h, 0, none⟩)] #[]] 114 (0, 0))) := by show _ = _; rw [← e9]; exact blk_set HM7.out (by omega) _
  have HQ : Hid (w9.heap[w.heap.size]? = some (.cells #[.bool false, .int .i64 0, .string ⟨#[]⟩, .slice none 0 0, .string ⟨#[]⟩, .slice none 0 0] 73 (0, 0))) := by show _ = _; rw [← e9]; exact blk_set HQ7.out (by omega) _
  have HMP : Hid (MapP w9 mb 0 (fun _ => none)) := by show MapP _ _ _ _; rw [← e9]; exact HMP7.out.same (Below.heap_setCell w8 ⟨w.heap.size + 1, 4, none⟩ _ mb (by show mb ≠ w.heap.size + 1; omega))
  have HK : Hid (KU W0 w h mb w9) := by show KU _ _ _ _ _; rw [← e9]; exact HK7.out.set (by omega) (Or.inr (by omega)) _
  rw [e9]
  clear e9 HM7 HQ7 HX7 HK7 HMP7 z0 z1 z2 z3 z4 z5 zf
  refine Lt.begin 6 (fun w' => w'.heap[h]? = some (.cells #[.slice sa ss.length c1, .slice ta ts.length c2, .map (some mb), (.slice (some ⟨g', 0, none⟩) (0 + 1) cap'), .slice none 0 0, .func (.func 84) #[.pointer (some ⟨h, 0, none⟩)] #[]] 114 (0, 0)) ∧ w'.heap[w.heap.size + 1]? = some (.cells #[.bool true, .int .i64 c, .string t, .slice none 0 0, .string f, .slice none 0 0] 73 (0, 0))) (by kernel_rfl) ?_
  obtain ⟨wD, eD⟩ : ∃ y, w9.drew = y := ⟨_, rfl⟩
  rw [eD]
  have hbD : Below w9.heap.size w9 wD := by rw [← eD]; exact (Below.refl _ _).drew
  clear eD
  replace HM := hid (blk_below HM.out hbD)
  replace HX := hid (blk_below HX.out hbD)
  replace HQ := hid (blk_below HQ.out hbD)
  replace HMP := hid (HMP.out.same (hbD.block _ HMP.out.lt))
  replace HK := hid (HK.out.below hbD)
  have hS0 : (fun w' => w'.heap[h]? = some (.cells #[.slice sa ss.length c1, .slice ta ts.length c2, .map (some mb), (.slice (some ⟨g', 0, none⟩) (0 + 1) cap'), .slice none 0 0, .func (.func 84) #[.pointer (some ⟨h, 0, none⟩)] #[]] 114 (0, 0)) ∧ w'.heap[w.heap.size + 1]? = some (.cells #[.bool true, .int .i64 c, .string t, .slice none 0 0, .string f, .slice none 0 0] 73 (0, 0))) wD := ⟨HM.out, HX.out⟩
  refine Lt.take (i := 0) (oi := { dst := some 37, op := Op.move (Operand.tmp 0), type := 96, pos := "l3_space.go:312", after := #[], guard := none }) (v := ?_) rfl (by kernel_rfl) (by kernel_rfl) (by kernel_rfl) (by kernel_rfl) (fun _ _ _ h => h) hS0 (Or.inl ⟨by rfl, ?_⟩) ?_
  rotate_left 1
  · rintro w ⟨hs1, hs2⟩
    obtain ⟨⟨y0, y1, y2, y3, y4, y5⟩, _⟩ := bk6 hs1
    obtain ⟨⟨z0, z1, z2, z3, z4, z5⟩, _⟩ := bk6 hs2
    go_simp
    first | done | with_reducible rfl
  simp only [Act.put, List.setIfInBounds_toArray, List.set_cons_zero, List.set_cons_succ]
  refine Lt.take (i := 1) (oi := { dst := some 38, op := Op.nilCheck (Operand.tmp 37), type := 0, pos := "l3_space.go:312", after := #[{ on := 0, ground := Ground.data }], guard := none }) (v := ?_) rfl (by kernel_rfl) (by kernel_rfl) (by kernel_rfl) (by kernel_rfl) (fun _ _ _ h => h) hS0 (Or.inl ⟨by rfl, ?_⟩) ?_
  rotate_left 1
  · rintro w ⟨hs1, hs2⟩
    obtain ⟨⟨y0, y1, y2, y3, y4, y5⟩, _⟩ := bk6 hs1
    obtain ⟨⟨z0, z1, z2, z3, z4, z5⟩, _⟩ := bk6 hs2
    go_simp
    first | done | with_reducible rfl
  simp only [Act.put, List.setIfInBounds_toArray, List.set_cons_zero, List.set_cons_succ]
  refine Lt.take (i := 2) (oi := { dst := some 39, op := Op.fieldAddr 114 (Operand.tmp 38) 1, type := 0, pos := "l3_space.go:312", after := #[{ on := 1, ground := Ground.data }], guard := none }) (v := ?_) rfl (by kernel_rfl) (by kernel_rfl) (by kernel_rfl) (by kernel_rfl) (fun _ _ _ h => h) hS0 (Or.inl ⟨by rfl, ?_⟩) ?_
  rotate_left 1
  · rintro w ⟨hs1, hs2⟩
    obtain ⟨⟨y0, y1, y2, y3, y4, y5⟩, _⟩ := bk6 hs1
    obtain ⟨⟨z0, z1, z2, z3, z4, z5⟩, _⟩ := bk6 hs2
    go_simp
    first | done | with_reducible rfl
  simp only [Act.put, List.setIfInBounds_toArray, List.set_cons_zero, List.set_cons_succ]
  refine Lt.take (i := 3) (oi := { dst := some 40, op := Op.load 112 (Operand.tmp 39), type := 112, pos := "l3_space.go:312", after := #[{ on := 2, ground := Ground.data }], guard := none }) (v := ?_) rfl (by kernel_rfl) (by kernel_rfl) (by kernel_rfl) (by kernel_rfl) (fun _ _ _ h => h) hS0 (Or.inl ⟨by rfl, ?_⟩) ?_
  rotate_left 1
  · rintro w ⟨hs1, hs2⟩
    obtain ⟨⟨y0, y1, y2, y3, y4, y5⟩, _⟩ := bk6 hs1
    obtain ⟨⟨z0, z1, z2, z3, z4, z5⟩, _⟩ := bk6 hs2
    go_simp
    first | done | with_reducible rfl
  simp only [Act.put, List.setIfInBounds_toArray, List.set_cons_zero, List.set_cons_succ]
  refine Lt.take (i := 4) (oi := { dst := some 41, op := Op.move (Operand.tmp 1), type := 9, pos := "l3_space.go:312", after := #[], guard := none }) (v := ?_) rfl (by kernel_rfl) (by kernel_rfl) (by kernel_rfl) (by kernel_rfl) (fun _ _ _ h => h) hS0 (Or.inl ⟨by rfl, ?_⟩) ?_
  rotate_left 1
  · rintro w ⟨hs1, hs2⟩
    obtain ⟨⟨y0, y1, y2, y3, y4, y5⟩, _⟩ := bk6 hs1
    obtain ⟨⟨z0, z1, z2, z3, z4, z5⟩, _⟩ := bk6 hs2
    go_simp
    first | done | with_reducible rfl
  simp only [Act.put, List.setIfInBounds_toArray, List.set_cons_zero, List.set_cons_succ]
  refine Lt.take (i := 5) (oi := { dst := some 42, op := Op.load 73 (Operand.tmp 5), type := 73, pos := "l3_space.go:312", after := #[], guard := none }) (v := ?_) rfl (by kernel_rfl) (by kernel_rfl) (by kernel_rfl) (by kernel_rfl) (fun _ _ _ h => h) hS0 (Or.inl ⟨by rfl, ?_⟩) ?_
  rotate_left 1
  · rintro w ⟨hs1, hs2⟩
    obtain ⟨⟨y0, y1, y2, y3, y4, y5⟩, _⟩ := bk6 hs1
    obtain ⟨⟨z0, z1, z2, z3, z4, z5⟩, _⟩ := bk6 hs2
    go_simp
    first | done | with_reducible rfl
  simp only [Act.put, List.setIfInBounds_toArray, List.set_cons_zero, List.set_cons_succ]
  obtain ⟨wM, hms, _, hgM⟩ := HMP.out.store (k := nm) (by unfold maxLen; omega) (by unfold maxLen; omega) (.agg #[.bool true, .int .i64 c, .string t, .slice none 0 0, .string f, .slice none 0 0])
  refine Lt.step (i := 6) (o := { dst := none, op := Op.mapUpdate 112 (Operand.tmp 40) (Operand.tmp 41) (Operand.tmp 42), type := 0, pos := "l3_space.go:312", after := #[{ on := 3, ground := Ground.data }, { on := 4, ground := Ground.data }, { on := 5, ground := Ground.data }, { on := 0, ground := Ground.phase }, { on := 1, ground := Ground.phase }, { on := 2, ground := Ground.phase }, { on := 3, ground := Ground.phase }, { on := 4, ground := Ground.phase }, { on := 5, ground := Ground.phase }], guard := none }) (by kernel_rfl) rfl (fun K hK => ?_)
  go_simp
  refine hK.out _ _ (fun h => absurd rfl h) (fun _ => ?_)
  clear hK K
  refine Lt.done (by kernel_rfl) ?_ _
  have HXM := hid0 (blk_grow HX.out hgM (fun e => by injection e with e; exact HMP.out.notCells (by rw [e]; exact HX.out)))
  have HQM := hid0 (blk_grow HQ.out hgM (fun e => by injection e with e; exact HMP.out.notCells (by rw [e]; exact HQ.out)))
  have HKM := hid0 (HK.out.gm hmb hgM)
  clear hms hgM HM HX HQ HMP HK
  obtain ⟨⟨z0, z1, z2, z3, z4, z5⟩, zf⟩ := bk6 HXM.out
  obtain ⟨⟨q0, q1, q2, q3, q4, q5⟩, qf⟩ := bk6 HQM.out
  go_wp2
  obtain ⟨⟨v0, v1, v2, v3, v4, v5⟩, _⟩ := bk6 (set6_at HQM.out (.bool true) (.int .i64 c) (.string t) (.slice none 0 0) (.string f) (.slice none 0 0))
  refine bodyPost_ret (v := .agg #[.bool true, .int .i64 c, .string t, .slice none 0 0, .string f, .slice none 0 0]) (by simp [results, Tryz.results86, go_sem, v0, v1, v2, v3, v4, v5]) rfl ?_
  exact ⟨((((((HKM.out.set (b := w.heap.size) (by omega) (Or.inr (Nat.le_refl _)) _).set (b := w.heap.size) (by omega) (Or.inr (Nat.le_refl _)) _).set (b := w.heap.size) (by omega) (Or.inr (Nat.le_refl _)) _).set (b := w.heap.size) (by omega) (Or.inr (Nat.le_refl _)) _).set (b := w.heap.size) (by omega) (Or.inr (Nat.le_refl _)) _).set (b := w.heap.size) (by omega) (Or.inr (Nat.le_refl _)) _), f, rfl⟩

theorem KU.base {W0 w W v : World} {h mb : Nat} (k : KU W0 W h mb v) (hb : Below w.heap.size w W) : KU W0 w h mb v := ⟨k.bel, Nat.le_trans hb.size k.sz, fun b h1 h2 h3 => (k.old b (Nat.lt_of_lt_of_le h1 hb.size) h2 h3).trans (hb.block b h1)⟩
set_option maxRecDepth 100000 in
set_option maxHeartbeats 4000000 in
theorem first_easy (W0 : World) (h mb : Nat) (sa ta : Option Addr) (c1 c2 : Nat) (ss : List S2) (ts : List T2) (nm t : ByteArray) (c : Int) (w : World) (hE : SpE W0 sa ta ss ts) (hW : Below W0.heap.size W0 w) (s : Mk0 w h mb (.slice sa ss.length c1) (.slice ta ts.length c2)) (hh : W0.heap.size ≤ h) (hmb : W0.heap.size ≤ mb) (hc : Easy ss ts nm c t) (hc2 : c = 0 ∨ c = 4) (hnm : nm.size ≤ 60) (ht : t.size ≤ 2000) :
    Calls Tryz.prog 68 #[.pointer (some ⟨h, 0, none⟩), .string nm] w fun e w' => KU W0 w h mb w' ∧ ∃ f : ByteArray, e = .returned (.agg #[.bool true, .int .i64 c, .string t, .slice none 0 0, .string f, .slice none 0 0]) := by
  have hhw : h < w.heap.size := blkW_lt s.blk
  have hmw : mb < w.heap.size := s.map.lt
  have hB := hW.size
  have hmf : ∀ (fn : Fn) (first cap : Array Value) (w : World), (Instr.makeFunc fn first cap).run Tryz.prog w = .ok (.func fn first cap) w := fun _ _ _ _ => rfl
  obtain ⟨W, eW⟩ : ∃ W, w.alloc (.cells #[.bool false, .int .i64 0, .string ⟨#[]⟩, .slice none 0 0, .string ⟨#[]⟩, .slice none 0 0] 73) = W := ⟨_, rfl⟩
  have hbW : Below w.heap.size w W := by rw [← eW]; exact (Below.refl _ _).alloc (Nat.le_refl _) _
  have HOB : Hid (W.heap[w.heap.size]? = some (.cells #[.bool false, .int .i64 0, .string ⟨#[]⟩, .slice none 0 0, .string ⟨#[]⟩, .slice none 0 0] 73 (0, 0))) := by
    show _ = _
    rw [← eW]; exact heapW_new _ _
  have HU := hid0 (under_easy W0 h mb sa ta c1 c2 ss ts nm t c W hE (hW.trans (hbW.mono hB)) (s.below hbW) hh hmb hc hc2 hnm ht)
  have HBW := hid0 hbW
  clear s hW hE hc hc2 hbW
  go_enter_defers Tryz.func68, Tryz.ntmps68
  go_wp2_with fail
  refine HU.out.mono ?_
  rintro e w4 ⟨hk4, f, rfl⟩
  have HO4 := hid0 ((hk4.old w.heap.size (blkW_lt HOB.out) (by omega) (by omega)).trans HOB.out)
  have HK4 := hid0 (hk4.base HBW.out)
  obtain ⟨⟨z0, z1, z2, z3, z4, z5⟩, zf⟩ := bk6 HO4.out
  clear hk4 eW HU HOB
  go_wp2_with fail
  refine leaves_cons (f := 85) (args := #[.pointer (some ⟨w.heap.size, 0, none⟩)]) (by simp) (by simp [go_sem]) ?_
  refine (catch_idle w.heap.size _).mono ?_
  rintro e u' w'' ⟨rfl, rfl, rfl⟩
  have e7 := blk_below (set6_at HO4.out (.bool true) (.int .i64 c) (.string t) (.slice none 0 0) (.string f) (.slice none 0 0)) ((Below.refl _ _).alloc (Nat.le_refl _) (.cells #[.int .i64 0, .string ⟨#[]⟩, .slice none 0 0] 115))
  obtain ⟨⟨y0, y1, y2, y3, y4, y5⟩, _⟩ := bk6 e7
  exact ⟨.agg #[.bool true, .int .i64 c, .string t, .slice none 0 0, .string f, .slice none 0 0], by simp [results, Tryz.results68, go_sem, y0, y1, y2, y3, y4, y5], ((((((HK4.out.set (b := w.heap.size) hB (Or.inr (Nat.le_refl _)) _).set (b := w.heap.size) hB (Or.inr (Nat.le_refl _)) _).set (b := w.heap.size) hB (Or.inr (Nat.le_refl _)) _).set (b := w.heap.size) hB (Or.inr (Nat.le_refl _)) _).set (b := w.heap.size) hB (Or.inr (Nat.le_refl _)) _).set (b := w.heap.size) hB (Or.inr (Nat.le_refl _)) _).below ((Below.refl _ _).alloc (Nat.le_refl _) _), f, rfl⟩

set_option maxRecDepth 100000 in
set_option maxHeartbeats 4000000 in
theorem cleanMark_easy (sa ta : Option Addr) (c1 c2 : Nat) (ss : List S2) (ts : List T2) (nm t : ByteArray) (c : Int) (w : World) (hT : Tab w) (h : SpOk w sa ss ta ts) (hsm : SpSmall ss ts) (hch : chk ss ts = 0) (hnm : NameOk nm) (hc : Easy ss ts nm c t) (hc2 : c = 0 ∨ c = 4) (ht : t.size ≤ 2000) :
    Calls Tryz.prog 40 #[.agg #[.slice sa ss.length c1, .slice ta ts.length c2], .string nm] w fun e w' => Below w.heap.size w w' ∧ ∃ f : ByteArray, e = .returned (.agg #[.bool true, .int .i64 c, .string t, .slice none 0 0, .string f, .slice none 0 0]) := by
  have hno := chk_ok hch
  have hn60 : nm.size ≤ 60 := hnm.2.1
  have HE : Hid (SpE w sa ta ss ts) := ⟨h.rs, h.rt, hsm.ls, hsm.lt, hno.a1, hno.a2⟩
  obtain ⟨W, eW⟩ : ∃ W, (w.alloc (.cells #[.slice sa ss.length c1, .slice ta ts.length c2] 26)).alloc (.cells #[.bool false, .int .i64 0, .string ⟨#[]⟩, .slice none 0 0, .string ⟨#[]⟩, .slice none 0 0] 73) = W := ⟨_, rfl⟩
  have hbW : Below w.heap.size w W := by rw [← eW]; exact ((Below.refl _ _).alloc (Nat.le_refl _) _).alloc (by simp) _
  have HP : Hid (W.heap[w.heap.size]? = some (.cells #[.slice sa ss.length c1, .slice ta ts.length c2] 26 (0, 0))) := by show _ = _; rw [← eW, Lib.alloc_old _ _ _ (by simp)]; exact heapW_new _ _
  have HQ : Hid (W.heap[w.heap.size + 1]? = some (.cells #[.bool false, .int .i64 0, .string ⟨#[]⟩, .slice none 0 0, .string ⟨#[]⟩, .slice none 0 0] 73 (0, 0))) := by
    have hx := heapW_new (w.alloc (.cells #[.slice sa ss.length c1, .slice ta ts.length c2] 26)) (.cells #[.bool false, .int .i64 0, .string ⟨#[]⟩, .slice none 0 0, .string ⟨#[]⟩, .slice none 0 0] 73)
    rw [show (w.alloc (.cells #[.slice sa ss.length c1, .slice ta ts.length c2] 26)).heap.size = w.heap.size + 1 from by simp, eW] at hx
    exact hx
  have HCK := hid0 (implCheck_any sa ta c1 c2 ss ts W (hT.below hbW) (h.below hbW) hsm)
  have HVN := hid0 (fun V => validName_any nm V (by omega))
  rw [hch] at HCK
  have HNB := hid0 (nameB_true hnm)
  have HF := hid0 (fun (V : World) (hV : Below w.heap.size w V) (h mb : Nat) (s : Mk0 V h mb (.slice sa ss.length c1) (.slice ta ts.length c2)) (hh : w.heap.size ≤ h) (hmb : w.heap.size ≤ mb) => first_easy w h mb sa ta c1 c2 ss ts nm t c V HE.out hV s hh hmb hc hc2 hn60 ht)
  have HB := hid0 hbW
  have E2 := hid0 eW
  clear h hsm hch hc hc2 hno hbW eW hT hnm HE
  obtain ⟨x0, x1⟩ := blk_c HP.out
  go_enter Tryz.func40, Tryz.ntmps40
  clear x0 x1
  go_wp2_with fail
  rw [E2.out]
  clear E2
  refine HCK.out.mono ?_
  rintro e w1 ⟨hb1, rfl⟩
  replace HP := hid0 (blk_below HP.out hb1)
  replace HQ := hid0 (blk_below HQ.out hb1)
  replace HB := hid0 (bt HB.out hb1)
  clear hb1 HCK
  go_wp2_with fail
  refine (HVN.out w1).mono ?_
  rintro e w1' ⟨rfl, rfl⟩
  rw [HNB.out]
  obtain ⟨x0, x1⟩ := blk_c HP.out
  go_wp2_with fail
  refine (cleanMaker_any sa ta ss.length ts.length c1 c2 w1).mono ?_
  rintro e w2 ⟨hm, mb, rfl, hb2, s, hh, hmb⟩
  have hs1 := HB.out.size
  have HQw : w.heap.size + 1 < w1.heap.size := blkW_lt HQ.out
  replace HQ := hid0 (blk_below HQ.out hb2)
  replace HB := hid0 (bt HB.out hb2)
  have HS := hid0 s
  clear hb2 s x0 x1
  go_wp2_with fail
  refine (HF.out w2 HB.out hm mb HS.out (by omega) (by omega)).mono ?_
  rintro e w3 ⟨hk3, f, rfl⟩
  have HQ3 := hid0 ((hk3.old (w.heap.size + 1) (blkW_lt HQ.out) (by omega) (by omega)).trans HQ.out)
  have HK3 := hid0 hk3.bel
  obtain ⟨⟨z0, z1, z2, z3, z4, z5⟩, zf⟩ := bk6 HQ3.out
  clear hk3 HQ HS HF HB
  go_wp2
  obtain ⟨⟨y0, y1, y2, y3, y4, y5⟩, _⟩ := bk6 (set6_at HQ3.out (.bool true) (.int .i64 c) (.string t) (.slice none 0 0) (.string f) (.slice none 0 0))
  refine bodyPost_ret (v := .agg #[.bool true, .int .i64 c, .string t, .slice none 0 0, .string f, .slice none 0 0]) (by simp [results, Tryz.results40, go_sem, y0, y1, y2, y3, y4, y5]) rfl ?_
  exact ⟨below_set6 HK3.out (Nat.le_succ _) _ _ _ _ _ _, f, rfl⟩

set_option maxRecDepth 100000 in
set_option maxHeartbeats 4000000 in
theorem clean_easy (sa ta : Option Addr) (c1 c2 : Nat) (ss : List S2) (ts : List T2) (nm t : ByteArray) (c : Int) (w : World) (hT : Tab w) (h : SpOk w sa ss ta ts) (hsm : SpSmall ss ts) (hch : chk ss ts = 0) (hnm : NameOk nm) (hc : Easy ss ts nm c t) (hc2 : c = 0 ∨ c = 4) (ht : t.size ≤ 2000) :
    Calls Tryz.prog 11 #[.agg #[.slice sa ss.length c1, .slice ta ts.length c2], .string nm] w fun e w' => Below w.heap.size w w' ∧ e = .returned (.agg #[.int .i64 c, .string t, .slice none 0 0]) := by
  obtain ⟨W, eW⟩ : ∃ W, (w.alloc (.cells #[.slice sa ss.length c1, .slice ta ts.length c2] 26)).alloc (.cells #[.int .i64 0, .string ⟨#[]⟩, .slice none 0 0] 41) = W := ⟨_, rfl⟩
  have hbW : Below w.heap.size w W := by rw [← eW]; exact ((Below.refl _ _).alloc (Nat.le_refl _) _).alloc (by simp) _
  have HQ : Hid (W.heap[w.heap.size + 1]? = some (.cells #[.int .i64 0, .string ⟨#[]⟩, .slice none 0 0] 41 (0, 0))) := by
    have hx := heapW_new (w.alloc (.cells #[.slice sa ss.length c1, .slice ta ts.length c2] 26)) (.cells #[.int .i64 0, .string ⟨#[]⟩, .slice none 0 0] 41)
    rw [show (w.alloc (.cells #[.slice sa ss.length c1, .slice ta ts.length c2] 26)).heap.size = w.heap.size + 1 from by simp, eW] at hx
    exact hx
  have HM := hid0 (cleanMark_easy sa ta c1 c2 ss ts nm t c W (hT.below hbW) (h.below hbW) hsm hch hnm hc hc2 ht)
  have HB := hid0 hbW
  have E2 := hid0 eW
  clear h hsm hch hc hc2 hbW eW hT hnm
  have hfd : ∀ (v0 v1 v2 v3 v4 v5 : Value) (w : World), (Instr.field 73 (.agg #[v0, v1, v2, v3, v4, v5]) 1).run Tryz.prog w = .ok (.agg #[v1, v2, v3]) w := fun _ _ _ _ _ _ _ => by kernel_rfl
  go_enter Tryz.func11, Tryz.ntmps11
  go_wp2_with fail
  rw [E2.out]
  clear E2
  refine HM.out.mono ?_
  rintro e w1 ⟨hb1, f, rfl⟩
  replace HQ := hid0 (blk_below HQ.out hb1)
  replace HB := hid0 (bt HB.out hb1)
  obtain ⟨z0, z1, z2⟩ := blk_c3o HQ.out
  have zf := fun j => Lib.frozen_of_heap HQ.out j
  clear hb1 HM
  go_wp2
  refine bodyPost_ret (v := .agg #[.int .i64 c, .string t, .slice none 0 0]) (by simp [results, Tryz.results11, go_sem, z0, z1, z2]) rfl ?_
  exact ⟨((HB.out.setCell (p := ⟨w.heap.size + 1, 0, none⟩) (Nat.le_succ _) _).setCell (p := ⟨w.heap.size + 1, 1, none⟩) (Nat.le_succ _) _).setCell (p := ⟨w.heap.size + 1, 2, none⟩) (Nat.le_succ _) _, rfl⟩
end Go.Proofs.YtjdjhenijihpfaaGreatDoor
