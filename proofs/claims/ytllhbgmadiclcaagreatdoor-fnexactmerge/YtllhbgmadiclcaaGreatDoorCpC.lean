import Derived.Test.YtllhbgmadiclcaaGreatDoorCpA
import Derived.Test.YtllhbgmadiclcaaGreatDoorOrd
namespace Go.Proofs.YtllhbgmadiclcaaGreatDoor
open Go.RowKit Go.Deep
set_option linter.unusedVariables false

/-- An append to a row that is not nil, at a step of a region. -/
theorem step_appO {w : World} {ops : Array Oper} {o : Oper} {a : Act} {K : Act → World → Prop} {Q : Exit → Act → World → Prop} {E : Prop} (hgd : o.guard = none) (s x : Operand) (t : TypeId)
    (ho : o.op = .call { callee := .builtin .append, args := #[s, x], argTypes := #[t, t] })
    (base : Nat) (e : TypeId) (i : TypeInfo) (z : Value) (size bytes : Nat) (ht : Tryz.prog.underlying t = some (.slice e)) (hi : Tryz.prog.info? e = some i) (hz : i.zero = some z)
    (hsize : i.size = size) (hby : i.bytes = bytes) (hzs : z.cells.size = size) (hsz : 0 < size)
    (d dl dc : Nat) (xs : List Value) (hs : a.eval s = .slice (some ⟨d, 0, none⟩) dl dc) (hown : w.ownsRow base e size (.slice (some ⟨d, 0, none⟩) dl dc) dl xs)
    (ad : Addr) (m c : Nat) (news : List Value) (hx : a.eval x = .slice (some ad) m c) (hl : news.length = m * size) (hnews : ∀ j u, news[j]? = some u → w.cell? (ad.add j) = some u) (h1 : ∀ u ∈ news, u.oneCell' = true)
    (h63 : dl + m ≤ maxLen) (hbytes : (dl + m) * bytes ≤ 140737488355328) (hbase : base ≤ w.heap.size)
    (h : ∀ g cap w', w'.ownsRow base e size (.slice (some ⟨g, 0, none⟩) (dl + m) cap) (dl + m) (xs ++ news) → w.grownBy w' (some d) → K (a.put o.dst (.slice (some ⟨g, 0, none⟩) (dl + m) cap)) w') :
    if Region.wanted o (yielded ops a.tmps) = true then Oper.wp Tryz.prog o a w K Q else E := by
  have hw : Region.wanted o (yielded ops a.tmps) = true := by simp [Region.wanted, hgd]
  rw [if_pos hw]
  refine wp_append_own w s x t ho base e i z size bytes ht hi hz hsize hby hzs hsz _ dl xs hs hown ad m c news hx hl hnews h1 h63 hbytes hbase fun v' w' h2 h3 h4 => ?_
  obtain ⟨g, cap, rfl⟩ := own_some h2 (fun e => by have := (h4.1 e).1; cases this)
  exact h g cap w' h2 h3
theorem lit_own (w : World) (B e sz : Nat) (hB : B ≤ w.heap.size) : (w.alloc (.cells #[] e)).ownsRow B e sz (.slice (some ⟨w.heap.size, 0, none⟩) 0 0) 0 [] := World.ownsRow_lit (base := B) (e := e) (size := sz) w #[] 0 hB (by unfold maxLen; omega) (by simp)
theorem far_c3 {X x : World} {ob : Option Nat} {p : Addr} {v : Value} (hg : X.grownBy x ob) (h : X.cell? p = some v) (hne : ob ≠ some p.block) : x.cell? p = some v := by rw [hg.cell_far p (World.block_lt_of_cell? _ _ h) (fun e => hne e.symm)]; exact h

set_option maxRecDepth 100000 in
set_option maxHeartbeats 8000000 in
theorem l4Record_any (a : Option Addr) (cap lb lf lc : Nat) (is : List I3) (gs : List G3) (out : ByteArray) (w : World) (rc : Row3 w a is) (rg : RowG w (some ⟨lb, lf, none⟩) gs) (h1 : 1 ≤ is.length) (hl : is.length ≤ 1048576) (hg : gs.length ≤ 1048576) :
    Calls Tryz.prog 19 #[.agg #[.slice a is.length cap, .slice (some ⟨lb, lf, none⟩) gs.length lc, .string out]] w fun e w' => Below w.heap.size w w' ∧ RecOut w.heap.size w' e is gs out := by
  obtain ⟨i0, hi, hz0, hz1, hz2⟩ := info_parts Tryz.info88b
  obtain ⟨W, eW⟩ : ∃ W, (w.alloc (.cells #[.slice a is.length cap, .slice (some ⟨lb, lf, none⟩) gs.length lc, .string out] 50)).alloc (.cells #[.slice none 0 0, .slice none 0 0, .string ⟨#[]⟩] 50) = W := ⟨_, rfl⟩
  have hb0 : Below w.heap.size w W := by rw [← eW]; exact ((Below.refl _ _).alloc (Nat.le_refl _) _).alloc (by simp) _
  have hk0 : W.heap[w.heap.size]? = some (.cells #[.slice a is.length cap, .slice (some ⟨lb, lf, none⟩) gs.length lc, .string out] 50 (0, 0)) := by rw [← eW]; exact heapW_old2 _ _ _
  have hk1 : W.heap[w.heap.size + 1]? = some (.cells #[.slice none 0 0, .slice none 0 0, .string ⟨#[]⟩] 50 (0, 0)) := by rw [← eW]; exact heapW_new2 _ _ _
  have hWs : w.heap.size + 1 + 1 ≤ W.heap.size := by rw [← eW]; simp
  obtain ⟨c0, c1, c2⟩ := blk_c3 hk0
  have HK1 : Hid (W.heap[w.heap.size + 1]? = some (.cells #[.slice none 0 0, .slice none 0 0, .string ⟨#[]⟩] 50 (0, 0))) := hk1
  have HA : Hid (∀ W' : World, Below W.heap.size W W' → Calls Tryz.prog 39 #[.agg #[.slice a is.length cap]] W' fun e w' => Below W'.heap.size W' w' ∧ ∃ g cp, e = .returned (.agg #[.slice (some ⟨g, 0, none⟩) is.length cp]) ∧ w'.ownsRow W'.heap.size 98 3 (.slice (some ⟨g, 0, none⟩) is.length cp) is.length (insV is)) := fun W' hW => l3Program_any a cap is W' (rc.below (bt hb0 hW)) h1 hl
  have HN : Hid (∀ W' : World, Below W.heap.size W W' → ∀ j u, (gloV gs)[j]? = some u → W'.cell? ((⟨lb, lf, none⟩ : Addr).add j) = some u) := fun W' hW => gloV_news (rg.below (bt hb0 hW))
  have HL : Hid ((gloV gs).length = gs.length * 3) := gloV_length gs
  have HO : Hid (∀ u ∈ gloV gs, u.oneCell' = true) := gloV_one gs
  have hbd : Below W.heap.size W W.drew := (Below.refl _ _).drew
  have hbda : Below W.heap.size W (W.drew.alloc (.cells #[] 90)) := hbd.alloc (by simp) _
  have hlit : (W.drew.alloc (.cells #[] 90)).ownsRow W.heap.size 90 3 (.slice (some ⟨W.heap.size, 0, none⟩) 0 0) 0 [] := lit_own W.drew W.heap.size 90 3 (by simp)
  have HLIT : Hid ((W.drew.alloc (.cells #[] 90)).ownsRow W.heap.size 90 3 (.slice (some ⟨W.heap.size, 0, none⟩) 0 0) 0 []) := hlit
  obtain ⟨e0, e1, e2⟩ : (W.drew.alloc (.cells #[] 90)).cell? ⟨w.heap.size, 0, none⟩ = some (.slice a is.length cap) ∧ (W.drew.alloc (.cells #[] 90)).cell? ⟨w.heap.size, 1, none⟩ = some (.slice (some ⟨lb, lf, none⟩) gs.length lc) ∧ (W.drew.alloc (.cells #[] 90)).cell? ⟨w.heap.size, 2, none⟩ = some (.string out) := ⟨cell_below hbda c0, cell_below hbda c1, cell_below hbda c2⟩
  clear rc rg hk0 hk1 hlit
  go_enter Tryz.func19, Tryz.ntmps19
  go_wp2_with fail
  clear eW
  go_region_held3 (fun w' => w'.cell? ⟨w.heap.size, 0, none⟩ = some (.slice a is.length cap) ∧ w'.cell? ⟨w.heap.size, 1, none⟩ = some (.slice (some ⟨lb, lf, none⟩) gs.length lc) ∧ w'.cell? ⟨w.heap.size, 2, none⟩ = some (.string out))
    (first | (with_reducible exact ⟨t0, t1, t2⟩) | (with_reducible exact ⟨s0, s1, s2⟩) | (with_reducible exact ⟨cellW s0, cellW s1, cellW s2⟩) | (refine ⟨?_, ?_, ?_⟩ <;> (rw [World.cell?_setCell_far _ _ _ _ (by simp), World.cell?_setCell_far _ _ _ _ (by simp), World.cell?_setCell_far _ _ _ _ (by simp)]; assumption)) | (with_reducible exact ⟨e0, e1, e2⟩) | exact ⟨c0, c1, c2⟩ | exact ⟨e0, e1, e2⟩)
    (first
      | (refine step_appO (w := w2.alloc (.cells #[] 90)) rfl (.tmp 6) (.tmp 8) 48 rfl W.heap.size 90 i0 (.agg #[.string ⟨#[]⟩, .bool false, .string ⟨#[]⟩]) 3 40 Tryz.underlying48 hi hz0 hz1 hz2 rfl (by decide) w2.heap.size 0 0 [] (by rfl) (lit_own w2 W.heap.size 90 3 hB2.size) ⟨lb, lf, none⟩ gs.length lc (gloV gs) (by rfl) HL.out (HN.out _ (hB2.alloc hB2.size _)) HO.out (by unfold maxLen; omega) (by omega) (by have := hB2.size; simp; omega) ?_; intro g2 p2 x ho2 hgx; have hne : ∀ q : Nat, q < W.heap.size → some w2.heap.size ≠ some q := (fun q hq e => by have := hB2.size; simp at e; omega); have t0 := far_c3 hgx (cellW s0) (hne _ (by simp; omega)); have t1 := far_c3 hgx (cellW s1) (hne _ (by simp; omega)); have t2 := far_c3 hgx (cellW s2) (hne _ (by simp; omega)); have hB3 : Below W.heap.size W x := (hB2.alloc hB2.size _).grown hgx (by have := hB2.size; simp; omega) (fun k hk => by have := hB2.size; simp at hk; omega); have kr3 := blk_below HK1.out hB3; obtain ⟨r0, r1, r2⟩ := blk_c3 kr3; have rf := (fun j => Lib.frozen_of_heap kr3 j); have HO13 : Hid (x.ownsRow W.heap.size 98 3 (.slice (some ⟨g1, 0, none⟩) is.length p1) is.length (insV is)) := own_same (HO1.out.alloc _) (fun b eb => hgx.block b ((HO1.out.alloc _).lt b eb).2 (fun e' => by have := (HO1.out.lt b eb).2; simp at e'; omega)); have HO2 : Hid (x.ownsRow W.heap.size 90 3 (.slice (some ⟨g2, 0, none⟩) gs.length p2) gs.length (gloV gs)) := (by rw [Nat.zero_add, List.nil_append] at ho2; exact ho2); rw [Nat.zero_add])
      | (refine step_appO (w := w2) rfl (.tmp 6) (.tmp 8) 48 rfl W.heap.size 90 i0 (.agg #[.string ⟨#[]⟩, .bool false, .string ⟨#[]⟩]) 3 40 Tryz.underlying48 hi hz0 hz1 hz2 rfl (by decide) W.heap.size 0 0 [] (by rfl) HLI2.out ⟨lb, lf, none⟩ gs.length lc (gloV gs) (by rfl) HL.out (HN.out _ hB2) HO.out (by unfold maxLen; omega) (by omega) hB2.size ?_; intro g2 p2 x ho2 hgx; have hne : ∀ q : Nat, q < W.heap.size → some W.heap.size ≠ some q := (fun q hq e => by simp at e; omega); have t0 := far_c3 hgx s0 (hne _ (by simp; omega)); have t1 := far_c3 hgx s1 (hne _ (by simp; omega)); have t2 := far_c3 hgx s2 (hne _ (by simp; omega)); have hB3 : Below W.heap.size W x := hB2.grown hgx hB2.size (fun k hk => by simp at hk; omega); have kr3 := blk_below HK1.out hB3; obtain ⟨r0, r1, r2⟩ := blk_c3 kr3; have rf := (fun j => Lib.frozen_of_heap kr3 j); have HO13 : Hid (x.ownsRow W.heap.size 98 3 (.slice (some ⟨g1, 0, none⟩) is.length p1) is.length (insV is)) := own_same HO1.out (fun b eb => hgx.block b (HO1.out.lt b eb).2 (fun e' => neT HLI2.out HO1.out (by decide) W.heap.size rfl (by rw [eb, e']))); have HO2 : Hid (x.ownsRow W.heap.size 90 3 (.slice (some ⟨g2, 0, none⟩) gs.length p2) gs.length (gloV gs)) := (by rw [Nat.zero_add, List.nil_append] at ho2; exact ho2); rw [Nat.zero_add])
      | (go_at_call 39; (first | (refine (HA.out _ hbda).mono ?_; rintro e w2 ⟨hb2, g1, p1, rfl, ho1⟩; have hB2 := bt hbda hb2; have HLI2 : Hid (w2.ownsRow W.heap.size 90 3 (.slice (some ⟨W.heap.size, 0, none⟩) 0 0) 0 []) := ownsRow_below HLIT.out hb2; have HO1 : Hid (w2.ownsRow W.heap.size 98 3 (.slice (some ⟨g1, 0, none⟩) is.length p1) is.length (insV is)) := own_base ho1 (by simp)) | (refine (HA.out _ hbd).mono ?_; rintro e w2 ⟨hb2, g1, p1, rfl, ho1⟩; have hB2 := bt hbd hb2; have HO1 : Hid (w2.ownsRow W.heap.size 98 3 (.slice (some ⟨g1, 0, none⟩) is.length p1) is.length (insV is)) := ho1)); have s0 := cell_below hB2 c0; have s1 := cell_below hB2 c1; have s2 := cell_below hB2 c2))
  all_goals
    have hg1 := (HO13.out.lt g1 rfl).1
    have hg2 := (HO2.out.lt g2 rfl).1
    have hB := bt hb0 hB3
    go_wp2_with fail
    refine bodyPost_ret (v := .agg #[.slice (some ⟨g1, 0, none⟩) is.length p1, .slice (some ⟨g2, 0, none⟩) gs.length p2, .string out]) (by simp [results, Tryz.results19, go_sem, r0, r1, r2]) rfl ⟨?_, g1, p1, g2, p2, rfl, ?_, ?_⟩
    · exact ((hB.setCell (p := ⟨w.heap.size + 1, 0, none⟩) (by simp) _).setCell (p := ⟨w.heap.size + 1, 1, none⟩) (by simp) _).setCell (p := ⟨w.heap.size + 1, 2, none⟩) (by simp) _
    · exact own_set (own_set (own_set (own_base HO13.out (by omega)) (by omega) _) (by omega) _) (by omega) _
    · exact own_set (own_set (own_set (own_base HO2.out (by omega)) (by omega) _) (by omega) _) (by omega) _

end Go.Proofs.YtllhbgmadiclcaaGreatDoor
namespace Go.Proofs.YtllhbgmadiclcaaGreatDoor
open Go.RowKit Go.Deep
set_option linter.unusedVariables false

/-- A copy of a store: k records are there. -/
structure CS (w : World) (P B : Nat) (wd : Int) (v1 v2 : Value) (ts : List ByteArray) (rs : List T3) (k : Nat) : Prop where
  blk : w.heap[P]? = some (.cells #[.int .i64 wd, v1, v2] 29 (0, 0))
  s : w.ownsRow B 9 1 v1 ts.length (ts.map Value.string)
  t : ∃ xs cv lv, w.ownsRow B 50 3 v2 k xs ∧ PartQ w B rs k xs cv lv
theorem CS.cell {w : World} {P B : Nat} {wd : Int} {v1 v2 : Value} {ts : List ByteArray} {rs : List T3} {k : Nat} (h : CS w P B wd v1 v2 ts rs k) : w.cell? ⟨P, 0, none⟩ = some (.int .i64 wd) ∧ w.cell? ⟨P, 1, none⟩ = some v1 ∧ w.cell? ⟨P, 2, none⟩ = some v2 := blk_c3 h.blk
theorem CS.below {w w' : World} {P B : Nat} {wd : Int} {v1 v2 : Value} {ts : List ByteArray} {rs : List T3} {k : Nat} (h : CS w P B wd v1 v2 ts rs k) (hb : Below w.heap.size w w') : CS w' P B wd v1 v2 ts rs k := by
  obtain ⟨zs, cv, lv, h3, h4⟩ := h.t
  exact ⟨blk_below h.blk hb, ownsRow_below h.s hb, zs, cv, lv, ownsRow_below h3 hb, h4.below hb⟩
theorem CS.zero {w : World} {P B : Nat} {wd : Int} {v1 : Value} {ts : List ByteArray} (rs : List T3) (h : w.heap[P]? = some (.cells #[.int .i64 wd, v1, .slice none 0 0] 29 (0, 0))) (hs : w.ownsRow B 9 1 v1 ts.length (ts.map Value.string)) : CS w P B wd v1 (.slice none 0 0) ts rs 0 :=
  ⟨h, hs, [], fun _ => .slice none 0 0, fun _ => .slice none 0 0, World.ownsRow_nil _ _ _ _, PartQ.zero _ _ _ _⟩
theorem grown_own {W w' : World} {B B' e e' sz sz' n n' : Nat} {v u : Value} {xs ys : List Value} (h : W.ownsRow B e sz v n xs) (hu : W.ownsRow B' e' sz' u n' ys) (hne : e ≠ e') (hg : W.grownBy w' u.ownBlock) : w'.ownsRow B e sz v n xs :=
  own_same h fun b eb => hg.block b (h.lt b eb).2 (fun e' => neT h hu hne b eb e'.symm)
theorem CS.put {W0 W w' : World} {P B : Nat} {wd : Int} {v1 v2 nv c d : Value} {ts : List ByteArray} {rs : List T3} {k : Nat} {ys zs us : List Value} {cv lv : Nat → Value} (h : CS W0 P B wd v1 v2 ts rs k) (hb : Below W0.heap.size W0 W) (hB : B ≤ W0.heap.size) (hy : W0.ownsRow B 50 3 v2 k ys) (hp : PartQ W0 B rs k ys cv lv)
    (hc : W.ownsRow W0.heap.size 98 3 c (qx rs k).code.length zs) (hz : Filled3 (qx rs k).code (qx rs k).code.length zs) (hd : W.ownsRow W0.heap.size 90 3 d (qx rs k).looks.length us) (hu : FilledG (qx rs k).looks (qx rs k).looks.length us) (hds : ∃ g cap, d = .slice (some ⟨g, 0, none⟩) (qx rs k).looks.length cap)
    (hg : W.grownBy w' v2.ownBlock) (hn : w'.ownsRow B 50 3 nv (k + 1) (ys ++ [c, d, .string (qx rs k).out])) : CS (w'.setCell ⟨P, 2, none⟩ nv) P B wd v1 nv ts rs (k + 1) := by
  have hW := h.below hb
  have hyW := ownsRow_below hy hb
  have hbk : w'.heap[P]? = some (.cells #[.int .i64 wd, v1, v2] 29 (0, 0)) := by
    rw [hg.block P (blkW_lt hW.blk) (fun e => HasT.ne (T := 29) ⟨_, hW.blk⟩ hyW (by decide) e.symm)]; exact hW.blk
  have ht : HasT w' P 29 := ⟨_, hbk⟩
  have hl : ys.length = k * 3 := hy.1
  have hpa := hp.add (w2 := w') (xs2 := ys ++ [c, d, .string (qx rs k).out]) (fun b _ hb' => by
      by_cases e : v2.ownBlock = some b
      · exact Or.inr ⟨k, ys, B, v2, hy, e⟩
      · left
        rw [hg.block b (by have := hb.size; omega) (fun e' => e e'.symm), hb.block b hb']) hB (grown_own hc hyW (by decide) hg) hz (grown_own hd hyW (by decide) hg) hu hds
    (fun j hj => List.getElem?_append_left (by omega)) (by rw [List.getElem?_append_right (by omega), hl, Nat.sub_self]; rfl) (by rw [List.getElem?_append_right (by omega), hl, show k * 3 + 1 - k * 3 = 1 by omega]; rfl) (by rw [List.getElem?_append_right (by omega), hl, show k * 3 + 2 - k * 3 = 2 by omega]; rfl)
  exact ⟨by rw [Joins.block_setCell hbk]; rfl, own_setT (grown_own hW.s hyW (by decide) hg) ht (by decide) _, _, _, _, own_setT hn ht (by decide) _, hpa.setT ht (by decide) (by decide) _⟩
theorem CS.own {w : World} {P B lo hi : Nat} {wd : Int} {v1 v2 : Value} {ts : List ByteArray} {rs : List T3} (h : CS w P B wd v1 v2 ts rs rs.length) (hl : lo ≤ B) (hh : w.heap.size ≤ hi) : OwnX w lo hi v1 ts ∧ OwnQ w lo hi v2 rs := by
  obtain ⟨zs, cv, lv, h3, h4⟩ := h.t
  exact ⟨⟨own_base h.s hl, fun b e => by have := (h.s.lt b e).2; omega⟩, h4.own (own_base h3 hl) hl hh⟩

theorem blk_set3 {w : World} {P T : Nat} {x y z : Value} (hz : w.heap[P]? = some (.cells #[x, y, z] T (0, 0))) (u1 u2 u3 : Value) : (((w.setCell ⟨P, 0, none⟩ u1).setCell ⟨P, 1, none⟩ u2).setCell ⟨P, 2, none⟩ u3).heap[P]? = some (.cells #[u1, u2, u3] T (0, 0)) := by
  have h1 : (w.setCell ⟨P, 0, none⟩ u1).heap[P]? = some (.cells #[u1, y, z] T (0, 0)) := by rw [Joins.block_setCell hz]; rfl
  have h2 : ((w.setCell ⟨P, 0, none⟩ u1).setCell ⟨P, 1, none⟩ u2).heap[P]? = some (.cells #[u1, u2, z] T (0, 0)) := by rw [Joins.block_setCell h1]; rfl
  rw [Joins.block_setCell h2]; rfl

/-- An append of one record at a step of a region. -/
theorem step_appQ {s x : Operand} {W : World} {ops : Array Oper} {o : Oper} {a : Act} {K : Act → World → Prop} {Q : Exit → Act → World → Prop} {E : Prop} (hgd : o.guard = none)
    (ho : o.op = .call { callee := .builtin .append, args := #[s, x], argTypes := #[27, 27] }) (B : Nat) (v : Value) (nn : Nat) (xs : List Value)
    (hs : a.eval s = v) (hown : W.ownsRow B 50 3 v nn xs) (d : Nat) (c l : Value) (u : ByteArray) (hc1 : c.oneCell' = true) (hl1 : l.oneCell' = true) (hx : a.eval x = .slice (some ⟨d, 0, none⟩) 1 1) (hc : W.heap[d]? = some (.cells #[c, l, .string u] 50 (0, 0))) (hB : B ≤ W.heap.size) (hn : nn ≤ 1048576)
    (h : ∀ g' cap' w', w'.ownsRow B 50 3 (.slice (some ⟨g', 0, none⟩) (nn + 1) cap') (nn + 1) (xs ++ [c, l, .string u]) → W.grownBy w' v.ownBlock → K (a.put o.dst (.slice (some ⟨g', 0, none⟩) (nn + 1) cap')) w') :
    if Region.wanted o (yielded ops a.tmps) = true then Oper.wp Tryz.prog o a W K Q else E := by
  obtain ⟨i0, hi, hz0, hz1, hz2⟩ := info_parts Tryz.info66b
  refine step_append_lies (w := W) hgd s x 27 ho B 50 i0 (.agg #[.slice none 0 0, .slice none 0 0, .string ⟨#[]⟩]) 3 64 Tryz.underlying27 hi hz0 hz1 hz2 rfl (by decide) _ nn xs hs hown ⟨d, 0, none⟩ 1 1 [c, l, .string u] hx rfl
    (World.news_of_block (cs := #[c, l, .string u]) (t := 50) (fr := (0, 0)) hc) (by intro u' hu; simp at hu; rcases hu with rfl | rfl | rfl <;> first | rfl | exact hc1 | exact hl1) (by omega) (by unfold maxLen; omega) (by omega) hB W.heap.size rfl ?_
  intro g' cap' w' h1 h2 h3 h4
  exact h g' cap' w' h1 h2

end Go.Proofs.YtllhbgmadiclcaaGreatDoor
