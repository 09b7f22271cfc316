/-
  spec.l4Record.
-/
import Derived.Test.YtmeojnaoljgieadDoorCpA
namespace Go.Proofs.YtmeojnaoljgieadDoor
open Go.RowKit Go.Deep
set_option linter.unusedVariables false

/-- An append to a row that is not nil, at a step of a region. -/
theorem step_appO {w : World} {ops : Array Oper} {o : Oper} {a : Act} {K : Act → World → Prop} {Q : Exit → Act → World → Prop} {E : Prop} (hgd : o.guard = none) (s x : Operand) (t : TypeId)
    (ho : o.op = .call { callee := .builtin .append, args := #[s, x], argTypes := #[t, t] })
    (base : Nat) (e : TypeId) (i : TypeInfo) (z : Value) (size bytes : Nat) (ht : Tryd.prog.underlying t = some (.slice e)) (hi : Tryd.prog.info? e = some i) (hz : i.zero = some z)
    (hsize : i.size = size) (hby : i.bytes = bytes) (hzs : z.cells.size = size) (hsz : 0 < size)
    (d dl dc : Nat) (xs : List Value) (hs : a.eval s = .slice (some ⟨d, 0, none⟩) dl dc) (hown : w.ownsRow base e size (.slice (some ⟨d, 0, none⟩) dl dc) dl xs)
    (ad : Addr) (m c : Nat) (news : List Value) (hx : a.eval x = .slice (some ad) m c) (hl : news.length = m * size) (hnews : ∀ j u, news[j]? = some u → w.cell? (ad.add j) = some u) (h1 : ∀ u ∈ news, u.oneCell' = true)
    (h63 : dl + m ≤ maxLen) (hbytes : (dl + m) * bytes ≤ 140737488355328) (hbase : base ≤ w.heap.size)
    (h : ∀ g cap w', w'.ownsRow base e size (.slice (some ⟨g, 0, none⟩) (dl + m) cap) (dl + m) (xs ++ news) → w.grownBy w' (some d) → K (a.put o.dst (.slice (some ⟨g, 0, none⟩) (dl + m) cap)) w') :
    if Region.wanted o (yielded ops a.tmps) = true then Oper.wp Tryd.prog o a w K Q else E := by
  have hw : Region.wanted o (yielded ops a.tmps) = true := by simp [Region.wanted, hgd]
  rw [if_pos hw]
  refine wp_append_own w s x t ho base e i z size bytes ht hi hz hsize hby hzs hsz _ dl xs hs hown ad m c news hx hl hnews h1 h63 hbytes hbase fun v' w' h2 h3 h4 => ?_
  obtain ⟨g, cap, rfl⟩ := own_some h2 (fun e => by have := (h4.1 e).1; cases this)
  exact h g cap w' h2 h3
theorem lit_own (w : World) (B e sz : Nat) (hB : B ≤ w.heap.size) : (w.alloc (.cells #[] e)).ownsRow B e sz (.slice (some ⟨w.heap.size, 0, none⟩) 0 0) 0 [] := World.ownsRow_lit (base := B) (e := e) (size := sz) w #[] 0 hB (by unfold maxLen; omega) (by simp)
theorem far_c3 {X x : World} {ob : Option Nat} {p : Addr} {v : Value} (hg : X.grownBy x ob) (h : X.cell? p = some v) (hne : ob ≠ some p.block) : x.cell? p = some v := by rw [hg.cell_far p (World.block_lt_of_cell? _ _ h) (fun e => hne e.symm)]; exact h

set_option maxRecDepth 100000 in
set_option maxHeartbeats 8000000 in
theorem l4Record_any (a : Option Addr) (cap lb lf lc : Nat) (is : List I3) (gs : List G3) (out : ByteArray) (w : World) (rc : Row3 w a is) (rg : RowG w (some ⟨lb, lf, none⟩) gs) (h1 : 1 ≤ is.length) (hl : is.length ≤ 1048576) (hg : gs.length ≤ 1048576) :
    Calls Tryd.prog 32 #[.agg #[.slice a is.length cap, .slice (some ⟨lb, lf, none⟩) gs.length lc, .string out]] w fun e w' => Below w.heap.size w w' ∧ RecOut w.heap.size w' e is gs out := by
  obtain ⟨i0, hi, hz0, hz1, hz2⟩ := info_parts Tryd.info88b
  obtain ⟨W, eW⟩ : ∃ W, (w.alloc (.cells #[.slice a is.length cap, .slice (some ⟨lb, lf, none⟩) gs.length lc, .string out] 69)).alloc (.cells #[.slice none 0 0, .slice none 0 0, .string ⟨#[]⟩] 69) = W := ⟨_, rfl⟩
  have hb0 : Below w.heap.size w W := by rw [← eW]; exact ((Below.refl _ _).alloc (Nat.le_refl _) _).alloc (by simp) _
  have hk0 : W.heap[w.heap.size]? = some (.cells #[.slice a is.length cap, .slice (some ⟨lb, lf, none⟩) gs.length lc, .string out] 69 (0, 0)) := by rw [← eW]; exact heapW_old2 _ _ _
  have hk1 : W.heap[w.heap.size + 1]? = some (.cells #[.slice none 0 0, .slice none 0 0, .string ⟨#[]⟩] 69 (0, 0)) := by rw [← eW]; exact heapW_new2 _ _ _
  have hWs : w.heap.size + 1 + 1 ≤ W.heap.size := by rw [← eW]; simp
  obtain ⟨c0, c1, c2⟩ := blk_c3 hk0
  have HK1 : Hid (W.heap[w.heap.size + 1]? = some (.cells #[.slice none 0 0, .slice none 0 0, .string ⟨#[]⟩] 69 (0, 0))) := hk1
  have HA : Hid (∀ W' : World, Below W.heap.size W W' → Calls Tryd.prog 49 #[.agg #[.slice a is.length cap]] W' fun e w' => Below W'.heap.size W' w' ∧ ∃ g cp, e = .returned (.agg #[.slice (some ⟨g, 0, none⟩) is.length cp]) ∧ w'.ownsRow W'.heap.size 103 3 (.slice (some ⟨g, 0, none⟩) is.length cp) is.length (insV is)) := fun W' hW => l3Program_any a cap is W' (rc.below (bt hb0 hW)) h1 hl
  have HN : Hid (∀ W' : World, Below W.heap.size W W' → ∀ j u, (gloV gs)[j]? = some u → W'.cell? ((⟨lb, lf, none⟩ : Addr).add j) = some u) := fun W' hW => gloV_news (rg.below (bt hb0 hW))
  have HL : Hid ((gloV gs).length = gs.length * 3) := gloV_length gs
  have HO : Hid (∀ u ∈ gloV gs, u.oneCell' = true) := gloV_one gs
  have hbd : Below W.heap.size W W.drew := (Below.refl _ _).drew
  have hbda : Below W.heap.size W (W.drew.alloc (.cells #[] 87)) := hbd.alloc (by simp) _
  have hlit : (W.drew.alloc (.cells #[] 87)).ownsRow W.heap.size 87 3 (.slice (some ⟨W.heap.size, 0, none⟩) 0 0) 0 [] := lit_own W.drew W.heap.size 87 3 (by simp)
  have HLIT : Hid ((W.drew.alloc (.cells #[] 87)).ownsRow W.heap.size 87 3 (.slice (some ⟨W.heap.size, 0, none⟩) 0 0) 0 []) := hlit
  obtain ⟨e0, e1, e2⟩ : (W.drew.alloc (.cells #[] 87)).cell? ⟨w.heap.size, 0, none⟩ = some (.slice a is.length cap) ∧ (W.drew.alloc (.cells #[] 87)).cell? ⟨w.heap.size, 1, none⟩ = some (.slice (some ⟨lb, lf, none⟩) gs.length lc) ∧ (W.drew.alloc (.cells #[] 87)).cell? ⟨w.heap.size, 2, none⟩ = some (.string out) := ⟨cell_below hbda c0, cell_below hbda c1, cell_below hbda c2⟩
  clear rc rg hk0 hk1 hlit
  go_enter Tryd.func32, Tryd.ntmps32
  go_wp2_with fail
  clear eW
  go_region_held3 (fun w' => w'.cell? ⟨w.heap.size, 0, none⟩ = some (.slice a is.length cap) ∧ w'.cell? ⟨w.heap.size, 1, none⟩ = some (.slice (some ⟨lb, lf, none⟩) gs.length lc) ∧ w'.cell? ⟨w.heap.size, 2, none⟩ = some (.string out))
    (first | (with_reducible exact ⟨t0, t1, t2⟩) | (with_reducible exact ⟨s0, s1, s2⟩) | (with_reducible exact ⟨cellW s0, cellW s1, cellW s2⟩) | (refine ⟨?_, ?_, ?_⟩ <;> (rw [World.cell?_setCell_far _ _ _ _ (by simp), World.cell?_setCell_far _ _ _ _ (by simp), World.cell?_setCell_far _ _ _ _ (by simp)]; assumption)) | (with_reducible exact ⟨e0, e1, e2⟩) | exact ⟨c0, c1, c2⟩ | exact ⟨e0, e1, e2⟩)
    (first
      | (refine step_appO (w := w2.alloc (.cells #[] 87)) rfl (.tmp 6) (.tmp 8) 67 rfl W.heap.size 87 i0 (.agg #[.string ⟨#[]⟩, .bool false, .string ⟨#[]⟩]) 3 40 Tryd.underlying67 hi hz0 hz1 hz2 rfl (by decide) w2.heap.size 0 0 [] (by rfl) (lit_own w2 W.heap.size 87 3 hB2.size) ⟨lb, lf, none⟩ gs.length lc (gloV gs) (by rfl) HL.out (HN.out _ (hB2.alloc hB2.size _)) HO.out (by unfold maxLen; omega) (by omega) (by have := hB2.size; simp; omega) ?_; intro g2 p2 x ho2 hgx; have hne : ∀ q : Nat, q < W.heap.size → some w2.heap.size ≠ some q := (fun q hq e => by have := hB2.size; simp at e; omega); have t0 := far_c3 hgx (cellW s0) (hne _ (by simp; omega)); have t1 := far_c3 hgx (cellW s1) (hne _ (by simp; omega)); have t2 := far_c3 hgx (cellW s2) (hne _ (by simp; omega)); have hB3 : Below W.heap.size W x := (hB2.alloc hB2.size _).grown hgx (by have := hB2.size; simp; omega) (fun k hk => by have := hB2.size; simp at hk; omega); have kr3 := blk_below HK1.out hB3; obtain ⟨r0, r1, r2⟩ := blk_c3 kr3; have rf := (fun j => Lib.frozen_of_heap kr3 j); have HO13 : Hid (x.ownsRow W.heap.size 103 3 (.slice (some ⟨g1, 0, none⟩) is.length p1) is.length (insV is)) := own_same (HO1.out.alloc _) (fun b eb => hgx.block b ((HO1.out.alloc _).lt b eb).2 (fun e' => by have := (HO1.out.lt b eb).2; simp at e'; omega)); have HO2 : Hid (x.ownsRow W.heap.size 87 3 (.slice (some ⟨g2, 0, none⟩) gs.length p2) gs.length (gloV gs)) := (by rw [Nat.zero_add, List.nil_append] at ho2; exact ho2); rw [Nat.zero_add])
      | (refine step_appO (w := w2) rfl (.tmp 6) (.tmp 8) 67 rfl W.heap.size 87 i0 (.agg #[.string ⟨#[]⟩, .bool false, .string ⟨#[]⟩]) 3 40 Tryd.underlying67 hi hz0 hz1 hz2 rfl (by decide) W.heap.size 0 0 [] (by rfl) HLI2.out ⟨lb, lf, none⟩ gs.length lc (gloV gs) (by rfl) HL.out (HN.out _ hB2) HO.out (by unfold maxLen; omega) (by omega) hB2.size ?_; intro g2 p2 x ho2 hgx; have hne : ∀ q : Nat, q < W.heap.size → some W.heap.size ≠ some q := (fun q hq e => by simp at e; omega); have t0 := far_c3 hgx s0 (hne _ (by simp; omega)); have t1 := far_c3 hgx s1 (hne _ (by simp; omega)); have t2 := far_c3 hgx s2 (hne _ (by simp; omega)); have hB3 : Below W.heap.size W x := hB2.grown hgx hB2.size (fun k hk => by simp at hk; omega); have kr3 := blk_below HK1.out hB3; obtain ⟨r0, r1, r2⟩ := blk_c3 kr3; have rf := (fun j => Lib.frozen_of_heap kr3 j); have HO13 : Hid (x.ownsRow W.heap.size 103 3 (.slice (some ⟨g1, 0, none⟩) is.length p1) is.length (insV is)) := own_same HO1.out (fun b eb => hgx.block b (HO1.out.lt b eb).2 (fun e' => neT HLI2.out HO1.out (by decide) W.heap.size rfl (by rw [eb, e']))); have HO2 : Hid (x.ownsRow W.heap.size 87 3 (.slice (some ⟨g2, 0, none⟩) gs.length p2) gs.length (gloV gs)) := (by rw [Nat.zero_add, List.nil_append] at ho2; exact ho2); rw [Nat.zero_add])
      | (go_at_call 49; (first | (refine (HA.out _ hbda).mono ?_; rintro e w2 ⟨hb2, g1, p1, rfl, ho1⟩; have hB2 := bt hbda hb2; have HLI2 : Hid (w2.ownsRow W.heap.size 87 3 (.slice (some ⟨W.heap.size, 0, none⟩) 0 0) 0 []) := ownsRow_below HLIT.out hb2; have HO1 : Hid (w2.ownsRow W.heap.size 103 3 (.slice (some ⟨g1, 0, none⟩) is.length p1) is.length (insV is)) := own_base ho1 (by simp)) | (refine (HA.out _ hbd).mono ?_; rintro e w2 ⟨hb2, g1, p1, rfl, ho1⟩; have hB2 := bt hbd hb2; have HO1 : Hid (w2.ownsRow W.heap.size 103 3 (.slice (some ⟨g1, 0, none⟩) is.length p1) is.length (insV is)) := ho1)); have s0 := cell_below hB2 c0; have s1 := cell_below hB2 c1; have s2 := cell_below hB2 c2))
  all_goals
    have hg1 := (HO13.out.lt g1 rfl).1
    have hg2 := (HO2.out.lt g2 rfl).1
    have hB := bt hb0 hB3
    go_wp2_with fail
    refine bodyPost_ret (v := .agg #[.slice (some ⟨g1, 0, none⟩) is.length p1, .slice (some ⟨g2, 0, none⟩) gs.length p2, .string out]) (by simp [results, Tryd.results32, go_sem, r0, r1, r2]) rfl ⟨?_, g1, p1, g2, p2, rfl, ?_, ?_⟩
    · exact ((hB.setCell (p := ⟨w.heap.size + 1, 0, none⟩) (by simp) _).setCell (p := ⟨w.heap.size + 1, 1, none⟩) (by simp) _).setCell (p := ⟨w.heap.size + 1, 2, none⟩) (by simp) _
    · exact own_set (own_set (own_set (own_base HO13.out (by omega)) (by omega) _) (by omega) _) (by omega) _
    · exact own_set (own_set (own_set (own_base HO2.out (by omega)) (by omega) _) (by omega) _) (by omega) _

end Go.Proofs.YtmeojnaoljgieadDoor
