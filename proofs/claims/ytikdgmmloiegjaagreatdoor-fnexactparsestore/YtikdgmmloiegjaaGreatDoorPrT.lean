import Derived.Test.YtikdgmmloiegjaaGreatDoorPrS
import Derived.Deep.AppendLies
namespace Go.Proofs.YtikdgmmloiegjaaGreatDoor
open Go.RowKit
set_option linter.unusedVariables false

theorem shape9 {w : World} {B n : Nat} {v : Value} {xs : List Value} (h : w.ownsRow B 9 1 v n xs) (hn : 0 < n) : ∃ g cap, v = .slice (some ⟨g, 0, none⟩) n cap ∧ B ≤ g ∧ w.ownsRow B 9 1 (.slice (some ⟨g, 0, none⟩) n cap) n xs := by
  rcases h.2 with ⟨_, h0⟩ | ⟨g, cap, cur, hv, hg, _⟩
  · omega
  · exact ⟨g, cap, hv, hg, by rw [← hv]; exact h⟩
theorem hdr_eq (r : T3) : (⟨#[114, 101, 99, 111, 114, 100, 32]⟩ : ByteArray) ++ bB (hexbL r.out.data.toList) = bB (recHd r) := by rw [bB_cat]; rfl
theorem do_eq (i : I3) : (⟨#[100, 111, 32]⟩ : ByteArray) ++ (⟨(lineL i).toArray⟩ : ByteArray) = bB (doL i) := by
  have := bB_cat (⟨#[100, 111, 32]⟩ : ByteArray) (lineL i)
  exact this
theorem look_eq0 (nm : ByteArray) (s : ByteArray) : (⟨#[104, 97, 115, 32]⟩ : ByteArray) ++ nm ++ (⟨#[32]⟩ : ByteArray) ++ bB (hexbL s.data.toList) = bB (lookL ⟨nm, false, s⟩) := by
  apply WideShapes.bytes_inj
  simp [bB, lookL]
theorem look_eq1 (nm : ByteArray) (s : ByteArray) : (⟨#[97, 115, 107, 32]⟩ : ByteArray) ++ nm ++ (⟨#[32]⟩ : ByteArray) ++ bB (hexbL s.data.toList) = bB (lookL ⟨nm, true, s⟩) := by
  apply WideShapes.bytes_inj
  simp [bB, lookL]
theorem run_cat (x y : ByteArray) (w : World) (h : x.size + y.size ≤ 9223372036854775807) : (Op.stringOp .add x y).run Tryz.prog w = .ok (.string (x ++ y)) w := by
  unfold Op.stringOp
  simp only
  rw [if_neg (by show ¬ (((x.size + y.size : Nat) : Int) > 9223372036854775807); omega)]
  rfl
theorem far_cell {X x : World} {ob : Option Nat} {p : Addr} {v : Value} (hg : X.grownBy x ob) (h : X.cell? p = some v) (hne : ob ≠ some p.block) : x.cell? p = some v := by rw [hg.cell_far p (World.block_lt_of_cell? _ _ h) (fun e => hne e.symm)]; exact h
theorem own9_ge {w : World} {B n m g cap : Nat} {xs : List Value} (h : w.ownsRow B 9 1 (.slice (some ⟨g, 0, none⟩) m cap) n xs) : B ≤ g := (h.lt g rfl).1
theorem own9_low {w : World} {base base' e size n : Nat} {v : Value} {xs : List Value} (h : w.ownsRow base e size v n xs) (hb : base' ≤ base) : w.ownsRow base' e size v n xs := by
  refine ⟨h.1, ?_⟩
  rcases h.2 with h2 | ⟨g, cap, cur, hv, hg, r⟩
  · exact Or.inl h2
  · exact Or.inr ⟨g, cap, cur, hv, Nat.le_trans hb hg, r⟩
/-- An append of a text at a step of a region. -/
theorem step_appT {s x : Operand} {W : World} {ops : Array Oper} {o : Oper} {a : Act} {K : Act → World → Prop} {Q : Exit → Act → World → Prop} {E : Prop} (hgd : o.guard = none)
    (ho : o.op = .call { callee := .builtin .append, args := #[s, x], argTypes := #[22, 22] }) (B n : Nat) (v : Value) (xs : List Value) (hs : a.eval s = v) (hown : W.ownsRow B 9 1 v n xs)
    (d c : Nat) (y : ByteArray) (hx : a.eval x = .slice (some ⟨d, 0, none⟩) 1 c) (hc : W.heap[d]? = some (.cells #[.string y] 9 (0, 0))) (hB : B ≤ W.heap.size) (hn : n ≤ 10000000)
    (h : ∀ g' cap' w', w'.ownsRow B 9 1 (.slice (some ⟨g', 0, none⟩) (n + 1) cap') (n + 1) (xs ++ [.string y]) → W.grownBy w' v.ownBlock → K (a.put o.dst (.slice (some ⟨g', 0, none⟩) (n + 1) cap')) w') :
    if Region.wanted o (yielded ops a.tmps) = true then Oper.wp Tryz.prog o a W K Q else E := by
  obtain ⟨i0, hi, hz0, hz1, hz2⟩ := info_parts Tryz.info9s
  refine step_append_lies (w := W) hgd s x 22 ho B 9 i0 (.string ⟨#[]⟩) 1 16 Tryz.underlying22 hi hz0 hz1 hz2 rfl (by decide) v n xs hs hown ⟨d, 0, none⟩ 1 c [.string y] hx rfl (World.news_of_block (cs := #[.string y]) (t := 9) (fr := (0, 0)) hc) (by intro u hu; simp at hu; subst hu; rfl) (by omega) (by unfold maxLen; omega) (by omega) hB W.heap.size rfl ?_
  intro g' cap' w' h1 h2 h3 h4
  exact h g' cap' w' h1 h2

set_option maxRecDepth 100000 in
set_option maxHeartbeats 8000000 in
theorem l7Record_any (n : Nat) (ca la : Option Addr) (cc lc : Nat) (r : T3) (w : World) (hrc : Row3 w ca r.code) (hrg : RowG w la r.looks) (hok : RcOk n r) (h8 : n ≤ 8) :
    Calls Tryz.prog 48 #[.agg #[.slice ca r.code.length cc, .slice la r.looks.length lc, .string r.out]] w fun e w' => Below w.heap.size w w' ∧ ∃ g cap, e = .returned (.slice (some ⟨g, 0, none⟩) (recLs r).length cap) ∧ w'.ownsRow w.heap.size 9 1 (.slice (some ⟨g, 0, none⟩) (recLs r).length cap) (recLs r).length (strV (recLs r)) := by
  obtain ⟨i0, hi, hz0, hz1, hz2⟩ := info_parts Tryz.info9s
  have hpo := hok.1
  simp only [progOk, Bool.and_eq_true, decide_eq_true_eq] at hpo
  have HINS : Hid (∀ i, i < r.code.length → insOk (ix r.code i) = true) := hpo.2
  have hcl : r.code.length ≤ 200 := hpo.1.2
  have hgl : r.looks.length ≤ 200 := hok.2.2.1
  have hol : r.out.size ≤ 8 := by have := hok.2.1; omega
  have HGL : Hid (∀ i, i < r.looks.length → (gx r.looks i).name.size ≤ 60 ∧ (gx r.looks i).sum.size ≤ 8) := fun i hi => by
    obtain ⟨k1, k2⟩ := hok.2.2.2 i hi
    exact ⟨k1.2.1, by omega⟩
  obtain ⟨W, eW⟩ : ∃ y, w.alloc (.cells #[.slice ca r.code.length cc, .slice la r.looks.length lc, .string r.out] 54) = y := ⟨_, rfl⟩
  have hb0 : Below w.heap.size w W := by rw [← eW]; exact (Below.refl _ _).alloc (Nat.le_refl _) _
  have k0 : W.cell? ⟨w.heap.size, 0, none⟩ = some (.slice ca r.code.length cc) := by rw [← eW]; simp [go_sem]
  have k1 : W.cell? ⟨w.heap.size, 1, none⟩ = some (.slice la r.looks.length lc) := by rw [← eW]; simp [go_sem]
  have k2 : W.cell? ⟨w.heap.size, 2, none⟩ = some (.string r.out) := by rw [← eW]; simp [go_sem]
  have hW : w.heap.size < W.heap.size := World.block_lt_of_cell? _ _ k0
  have HC0 : Hid (W.cell? ⟨w.heap.size, 0, none⟩ = some (.slice ca r.code.length cc)) := k0
  have HC1 : Hid (W.cell? ⟨w.heap.size, 1, none⟩ = some (.slice la r.looks.length lc)) := k1
  have HX : Hid (∀ _ : Unit, Calls Tryz.prog 64 #[.string r.out] W fun e w' => e = .returned (.string (bB (hexbL r.out.data.toList))) ∧ Below W.heap.size W w') := fun _ => l7Hex_any r.out W (by omega)
  have HEQ : Hid ((⟨#[114, 101, 99, 111, 114, 100, 32]⟩ : ByteArray) ++ bB (hexbL r.out.data.toList) = bB (recHd r)) := hdr_eq r
  have hq : (bB (hexbL r.out.data.toList)).size ≤ 16 := by rw [bB_size, hexbL_length, Array.length_toList]; have : r.out.data.size = r.out.size := rfl; omega
  have HRC : Hid (Row3 w ca r.code) := hrc
  have HRG : Hid (RowG w la r.looks) := hrg
  clear hrc hrg hok hpo
  generalize bB (hexbL r.out.data.toList) = q at *
  go_enter Tryz.func48, Tryz.ntmps48
  go_wp2_with fail
  clear eW
  refine (HX.out ()).mono ?_
  rintro e w1 ⟨rfl, hb1⟩
  have HB1 : Hid (Below W.heap.size W w1) := hb1
  have hs1 := hb1.size
  have HO1 : Hid ((w1.alloc (.cells #[.string ((⟨#[114, 101, 99, 111, 114, 100, 32]⟩ : ByteArray) ++ q)] 9)).ownsRow W.heap.size 9 1 (.slice (some ⟨w1.heap.size, 0, none⟩) 1 1) 1 (strV ([recHd r] ++ (r.code.take 0).map doL))) := by
    have := World.ownsRow_lit (base := W.heap.size) (e := 9) (size := 1) w1 #[.string ((⟨#[114, 101, 99, 111, 114, 100, 32]⟩ : ByteArray) ++ q)] 1 hs1 (by unfold maxLen; omega) (by simp)
    show World.ownsRow _ _ _ _ _ _ _
    rw [HEQ.out] at this ⊢
    simpa [strV] using this
  have HBa : Hid (Below W.heap.size W (w1.alloc (.cells #[.string ((⟨#[114, 101, 99, 111, 114, 100, 32]⟩ : ByteArray) ++ q)] 9))) := hb1.alloc hs1 _
  clear k0 k1 k2 hb1 HX
  go_wp2
  go_loopw [3, 4] (fun o i wr => ∃ (k g cap : Nat), k ≤ r.code.length ∧ i = .int .i64 k ∧ o = .slice (some ⟨g, 0, none⟩) (k + 1) cap ∧ W.heap.size ≤ g ∧ Hid (wr.ownsRow W.heap.size 9 1 (.slice (some ⟨g, 0, none⟩) (k + 1) cap) (k + 1) (strV ([recHd r] ++ (r.code.take k).map doL))) ∧ Hid (Below W.heap.size W wr)) (fun _ i _ => r.code.length - (intOf i).toNat)
  case atStart => exact ⟨0, w1.heap.size, 1, Nat.zero_le _, rfl, rfl, hs1, HO1.out, HBa.out⟩
  case round =>
    clear HO1 HBa HB1 hs1
    obtain ⟨k, g, cap, hk, rfl, rfl, hg, HO, HB⟩ := hrel
    have d0 := cell_below HB.out HC0.out
    have hsr := HB.out.size
    by_cases hlt : k < r.code.length
    · have hkI : (k : Int) < (r.code.length : Int) := by omega
      obtain ⟨b, off, rfl, c1, c2, c3⟩ := (HRC.out.below (bt hb0 HB.out)) k hlt
      have hio := HINS.out k hlt
      obtain ⟨x, ex⟩ : ∃ x, ix r.code k = x := ⟨_, rfl⟩
      rw [ex] at c1 c2 c3 hio
      have hll := lineL_length hio
      have HTK : Hid ([recHd r] ++ (r.code.take (k + 1)).map doL = [recHd r] ++ (r.code.take k).map doL ++ [doL x]) := by
        show _ = _
        rw [List.take_succ_eq_append_getElem hlt, List.map_append, ← ex]
        simp [ix, List.getD_eq_getElem?_getD, List.getElem?_eq_getElem hlt]
      have HLN : Hid (∀ _ : Unit, Calls Tryz.prog 42 #[.agg #[.int .i64 x.op, .string x.text, .int .i64 x.n]] wr fun e w' => e = .returned (.string ⟨(lineL x).toArray⟩) ∧ Below wr.heap.size wr w') := fun _ => l2Line_any x wr hio
      have HDO : Hid ((⟨#[100, 111, 32]⟩ : ByteArray) ++ (⟨(lineL x).toArray⟩ : ByteArray) = bB (doL x)) := do_eq x
      have hzs : (⟨(lineL x).toArray⟩ : ByteArray).size ≤ 6100 := by show (lineL x).toArray.size ≤ _; rw [List.size_toArray]; exact hll
      clear ex hll hio
      generalize (⟨(lineL x).toArray⟩ : ByteArray) = z at *
      go_wp2_with fail
      refine (HLN.out ()).mono ?_
      rintro e w2 ⟨rfl, hb2⟩
      have ho2 := ownsRow_below HO.out hb2
      have hB2 := bt HB.out hb2
      have hs2 := hb2.size
      clear HO HB hb2 HLN c1 c2 c3 d0
      go_wp2_with (first | (at_builtin; refine wpList_append_own _ rfl (.tmp 20) (.tmp 29) 22 rfl W.heap.size 9 i0 (.string ⟨#[]⟩) 1 16 Tryz.underlying22 hi hz0 hz1 hz2 rfl (by decide) _ _ _ rfl (ho2.alloc _) ⟨w2.heap.size, 0, none⟩ 1 1 [.string ((⟨#[100, 111, 32]⟩ : ByteArray) ++ z)] rfl rfl (cell_one_new _ _ _) (by intro u hu; simp at hu; subst hu; rfl) (by unfold maxLen; omega) (by omega) (by simp; omega) ?_; intro v' w3 hown' hgrow hnil; obtain ⟨g', cap2, hv', hg', hown2⟩ := shape9 hown' (by omega); have hB3 := Below.grown (hB2.alloc (by omega) _) hgrow (by simp; omega) (fun j hj => by have := (ho2.lt j hj).1; omega); clear hown' hnil hgrow; rw [hv']; clear hv'))
      go_roundw
      case rel =>
        refine ⟨k + 1, g', cap2, by omega, by go_num, rfl, hg', ?_, hB3⟩
        show World.ownsRow _ _ _ _ _ _ _
        rw [HTK.out, strV_append]
        rw [HDO.out] at hown2
        exact hown2
      case measure => simp [intOf]; omega
    · have ek : k = r.code.length := by omega
      subst ek
      have HO2 : Hid (wr.ownsRow W.heap.size 9 1 (.slice (some ⟨g, 0, none⟩) (r.code.length + 1) cap) (r.code.length + 1) (strV ([recHd r] ++ r.code.map doL ++ (r.looks.take 0).map lookL))) := by
        have := HO.out
        rw [List.take_length] at this
        show World.ownsRow _ _ _ _ _ _ _
        simpa using this
      have HB2 : Hid (Below W.heap.size W wr) := HB.out
      clear hlt HO HB
      go_wp2
      go_loopw [3, 5] (fun o i wq => ∃ (kk g cap : Nat), kk ≤ r.looks.length ∧ i = .int .i64 kk ∧ o = .slice (some ⟨g, 0, none⟩) (r.code.length + 1 + kk) cap ∧ W.heap.size ≤ g ∧ Hid (wq.ownsRow W.heap.size 9 1 (.slice (some ⟨g, 0, none⟩) (r.code.length + 1 + kk) cap) (r.code.length + 1 + kk) (strV ([recHd r] ++ r.code.map doL ++ (r.looks.take kk).map lookL))) ∧ Hid (Below W.heap.size W wq)) (fun _ i _ => r.looks.length - (intOf i).toNat)
      case atStart => exact ⟨0, g, cap, Nat.zero_le _, rfl, rfl, hg, HO2.out, HB2.out⟩
      case round =>
        clear HO2 HB2 hsr d0 hg
        obtain ⟨kk, g, cap, hk, rfl, rfl, hg, HO, HB⟩ := hrel
        have d1 := cell_below HB.out HC1.out
        have hsr := HB.out.size
        by_cases hlt : kk < r.looks.length
        · have hkI : (kk : Int) < (r.looks.length : Int) := by omega
          obtain ⟨b, off, rfl, c1, c2, c3⟩ := (HRG.out.below (bt hb0 HB.out)) kk hlt
          have hbw : b < w.heap.size := by
            obtain ⟨b', off', e', q1, _, _⟩ := HRG.out kk hlt
            cases e'
            exact World.block_lt_of_cell? _ _ q1
          obtain ⟨hnm, hsm⟩ := HGL.out kk hlt
          obtain ⟨x, ex⟩ : ∃ x, gx r.looks kk = x := ⟨_, rfl⟩
          rw [ex] at c1 c2 c3 hnm hsm
          have HTL : Hid ([recHd r] ++ r.code.map doL ++ (r.looks.take (kk + 1)).map lookL = [recHd r] ++ r.code.map doL ++ (r.looks.take kk).map lookL ++ [lookL x]) := by
            show _ = _
            rw [List.take_succ_eq_append_getElem hlt, List.map_append, ← ex]
            simp [gx, List.getD_eq_getElem?_getD, List.getElem?_eq_getElem hlt]
          clear ex
          obtain ⟨gn, ga, gs⟩ := x
          simp only at c1 c2 c3 hnm hsm
          cases ga
          · skip
            have HL : Hid (∀ _ : Unit, Calls Tryz.prog 64 #[.string gs] wr.drew fun e w' => e = .returned (.string (bB (hexbL gs.data.toList))) ∧ Below wr.drew.heap.size wr.drew w') := fun _ => l7Hex_any gs _ (by omega)
            have HEL : Hid ((⟨#[104, 97, 115, 32]⟩ : ByteArray) ++ gn ++ (⟨#[32]⟩ : ByteArray) ++ bB (hexbL gs.data.toList) = bB (lookL ⟨gn, false, gs⟩)) := look_eq0 gn gs
            have hz : (bB (hexbL gs.data.toList)).size ≤ 16 := by rw [bB_size, hexbL_length, Array.length_toList]; have : gs.data.size = gs.size := rfl; omega
            generalize bB (hexbL gs.data.toList) = z at *
            have hbd : Below wr.heap.size wr wr.drew := (Below.refl _ _).drew
            have g1 : ∀ V : World, (Op.stringOp .add (⟨#[104, 97, 115, 32]⟩ : ByteArray) gn).run Tryz.prog V = .ok (.string ((⟨#[104, 97, 115, 32]⟩ : ByteArray) ++ gn)) V := fun V => run_cat _ _ V (by show 4 + gn.size ≤ _; omega)
            have g2 : ∀ V : World, (Op.stringOp .add ((⟨#[104, 97, 115, 32]⟩ : ByteArray) ++ gn) (⟨#[32]⟩ : ByteArray)).run Tryz.prog V = .ok (.string ((⟨#[104, 97, 115, 32]⟩ : ByteArray) ++ gn ++ (⟨#[32]⟩ : ByteArray))) V := fun V => run_cat _ _ V (by rw [ByteArray.size_append]; show 4 + gn.size + 1 ≤ _; omega)
            have g3 : ∀ V : World, (Op.stringOp .add ((⟨#[104, 97, 115, 32]⟩ : ByteArray) ++ gn ++ (⟨#[32]⟩ : ByteArray)) z).run Tryz.prog V = .ok (.string ((⟨#[104, 97, 115, 32]⟩ : ByteArray) ++ gn ++ (⟨#[32]⟩ : ByteArray) ++ z)) V := fun V => run_cat _ _ V (by rw [ByteArray.size_append, ByteArray.size_append]; show 4 + gn.size + 1 + z.size ≤ _; omega)
            go_wp2_with fail
            go_region_held3 (fun w' => w'.cell? ⟨w.heap.size, 1, none⟩ = some (.slice (some ⟨b, off, none⟩) r.looks.length lc) ∧ w'.cell? ⟨b, off + kk * 3, none⟩ = some (.string gn) ∧ w'.cell? ⟨b, off + kk * 3 + 2, none⟩ = some (.string gs))
              (first | (with_reducible exact ⟨y1, y2, y3⟩) | (with_reducible exact ⟨f1, f2, f3⟩) | exact ⟨d1, c1, c3⟩ | exact ⟨cell_below (alB _ _) f1, cell_below (alB _ _) f2, cell_below (alB _ _) f3⟩)
              (first | (go_at_call 64; refine (HL.out ()).mono ?_; rintro e w2 ⟨rfl, hb2⟩; have hb2 := bt hbd hb2; have f1 := cell_below hb2 d1; have f2 := cell_below hb2 c1; have f3 := cell_below hb2 c3; have ho2 := ownsRow_below HO.out hb2; have hB2 := bt HB.out hb2; have hs2 := hb2.size) | (refine step_appT (W := w2.alloc (.cells #[.string ((⟨#[104, 97, 115, 32]⟩ : ByteArray) ++ gn ++ (⟨#[32]⟩ : ByteArray) ++ z)] 9)) rfl (by rfl) W.heap.size (r.code.length + 1 + kk) _ (strV ([recHd r] ++ r.code.map doL ++ (r.looks.take kk).map lookL)) (by rfl) (ho2.alloc _) w2.heap.size 1 ((⟨#[104, 97, 115, 32]⟩ : ByteArray) ++ gn ++ (⟨#[32]⟩ : ByteArray) ++ z) (by rfl) (heap_at_new _ _) (by simp; omega) (by omega) ?_; intro g' cap' w3 hown3 hgrow3; have y1 := far_cell hgrow3 (cell_below (alB _ _) f1) (fun e => by simp [Value.ownBlock] at e; omega); have y2 := far_cell hgrow3 (cell_below (alB _ _) f2) (fun e => by simp [Value.ownBlock] at e; omega); have y3 := far_cell hgrow3 (cell_below (alB _ _) f3) (fun e => by simp [Value.ownBlock] at e; omega); have hB3 : Below W.heap.size W w3 := Below.grown (hB2.alloc (by omega) _) hgrow3 (by simp; omega) (fun j hj => by simp [Value.ownBlock] at hj; omega)))
            all_goals
              have HO3 : Hid (w3.ownsRow W.heap.size 9 1 (.slice (some ⟨g', 0, none⟩) (r.code.length + 1 + kk + 1) cap') (r.code.length + 1 + kk + 1) (strV ([recHd r] ++ r.code.map doL ++ (r.looks.take (kk + 1)).map lookL))) := by
                show World.ownsRow _ _ _ _ _ _ _
                rw [HTL.out, strV_append]
                rw [HEL.out] at hown3
                exact hown3
              have hg3 : W.heap.size ≤ g' := own9_ge HO3.out
              clear hown3 hgrow3
              go_wp2
              go_roundw
              case rel => exact ⟨kk + 1, g', cap', by omega, by go_num, rfl, hg3, HO3.out, hB3⟩
              case measure => simp [intOf]; omega
          · skip
            have HL : Hid (∀ _ : Unit, Calls Tryz.prog 64 #[.string gs] wr.drew fun e w' => e = .returned (.string (bB (hexbL gs.data.toList))) ∧ Below wr.drew.heap.size wr.drew w') := fun _ => l7Hex_any gs _ (by omega)
            have HEL : Hid ((⟨#[97, 115, 107, 32]⟩ : ByteArray) ++ gn ++ (⟨#[32]⟩ : ByteArray) ++ bB (hexbL gs.data.toList) = bB (lookL ⟨gn, true, gs⟩)) := look_eq1 gn gs
            have hz : (bB (hexbL gs.data.toList)).size ≤ 16 := by rw [bB_size, hexbL_length, Array.length_toList]; have : gs.data.size = gs.size := rfl; omega
            generalize bB (hexbL gs.data.toList) = z at *
            have hbd : Below wr.heap.size wr wr.drew := (Below.refl _ _).drew
            have g1 : ∀ V : World, (Op.stringOp .add (⟨#[97, 115, 107, 32]⟩ : ByteArray) gn).run Tryz.prog V = .ok (.string ((⟨#[97, 115, 107, 32]⟩ : ByteArray) ++ gn)) V := fun V => run_cat _ _ V (by show 4 + gn.size ≤ _; omega)
            have g2 : ∀ V : World, (Op.stringOp .add ((⟨#[97, 115, 107, 32]⟩ : ByteArray) ++ gn) (⟨#[32]⟩ : ByteArray)).run Tryz.prog V = .ok (.string ((⟨#[97, 115, 107, 32]⟩ : ByteArray) ++ gn ++ (⟨#[32]⟩ : ByteArray))) V := fun V => run_cat _ _ V (by rw [ByteArray.size_append]; show 4 + gn.size + 1 ≤ _; omega)
            have g3 : ∀ V : World, (Op.stringOp .add ((⟨#[97, 115, 107, 32]⟩ : ByteArray) ++ gn ++ (⟨#[32]⟩ : ByteArray)) z).run Tryz.prog V = .ok (.string ((⟨#[97, 115, 107, 32]⟩ : ByteArray) ++ gn ++ (⟨#[32]⟩ : ByteArray) ++ z)) V := fun V => run_cat _ _ V (by rw [ByteArray.size_append, ByteArray.size_append]; show 4 + gn.size + 1 + z.size ≤ _; omega)
            go_wp2_with fail
            go_region_held3 (fun w' => w'.cell? ⟨w.heap.size, 1, none⟩ = some (.slice (some ⟨b, off, none⟩) r.looks.length lc) ∧ w'.cell? ⟨b, off + kk * 3, none⟩ = some (.string gn) ∧ w'.cell? ⟨b, off + kk * 3 + 2, none⟩ = some (.string gs))
              (first | (with_reducible exact ⟨y1, y2, y3⟩) | (with_reducible exact ⟨f1, f2, f3⟩) | exact ⟨d1, c1, c3⟩ | exact ⟨cell_below (alB _ _) f1, cell_below (alB _ _) f2, cell_below (alB _ _) f3⟩)
              (first | (go_at_call 64; refine (HL.out ()).mono ?_; rintro e w2 ⟨rfl, hb2⟩; have hb2 := bt hbd hb2; have f1 := cell_below hb2 d1; have f2 := cell_below hb2 c1; have f3 := cell_below hb2 c3; have ho2 := ownsRow_below HO.out hb2; have hB2 := bt HB.out hb2; have hs2 := hb2.size) | (refine step_appT (W := w2.alloc (.cells #[.string ((⟨#[97, 115, 107, 32]⟩ : ByteArray) ++ gn ++ (⟨#[32]⟩ : ByteArray) ++ z)] 9)) rfl (by rfl) W.heap.size (r.code.length + 1 + kk) _ (strV ([recHd r] ++ r.code.map doL ++ (r.looks.take kk).map lookL)) (by rfl) (ho2.alloc _) w2.heap.size 1 ((⟨#[97, 115, 107, 32]⟩ : ByteArray) ++ gn ++ (⟨#[32]⟩ : ByteArray) ++ z) (by rfl) (heap_at_new _ _) (by simp; omega) (by omega) ?_; intro g' cap' w3 hown3 hgrow3; have y1 := far_cell hgrow3 (cell_below (alB _ _) f1) (fun e => by simp [Value.ownBlock] at e; omega); have y2 := far_cell hgrow3 (cell_below (alB _ _) f2) (fun e => by simp [Value.ownBlock] at e; omega); have y3 := far_cell hgrow3 (cell_below (alB _ _) f3) (fun e => by simp [Value.ownBlock] at e; omega); have hB3 : Below W.heap.size W w3 := Below.grown (hB2.alloc (by omega) _) hgrow3 (by simp; omega) (fun j hj => by simp [Value.ownBlock] at hj; omega)))
            all_goals
              have HO3 : Hid (w3.ownsRow W.heap.size 9 1 (.slice (some ⟨g', 0, none⟩) (r.code.length + 1 + kk + 1) cap') (r.code.length + 1 + kk + 1) (strV ([recHd r] ++ r.code.map doL ++ (r.looks.take (kk + 1)).map lookL))) := by
                show World.ownsRow _ _ _ _ _ _ _
                rw [HTL.out, strV_append]
                rw [HEL.out] at hown3
                exact hown3
              have hg3 : W.heap.size ≤ g' := own9_ge HO3.out
              clear hown3 hgrow3
              go_wp2
              go_roundw
              case rel => exact ⟨kk + 1, g', cap', by omega, by go_num, rfl, hg3, HO3.out, hB3⟩
              case measure => simp [intOf]; omega
        · have ek : kk = r.looks.length := by omega
          subst ek
          have HO2 : Hid (wr.ownsRow W.heap.size 9 1 (.slice (some ⟨g, 0, none⟩) (r.code.length + 1 + r.looks.length) cap) (r.code.length + 1 + r.looks.length) (strV ([recHd r] ++ r.code.map doL ++ r.looks.map lookL))) := by
            have := HO.out
            rw [List.take_length] at this
            exact this
          have HLE : Hid ((recLs r).length = r.code.length + 1 + r.looks.length + 1) := by show _ = _; simp [recLs]; omega
          have ho2 := HO2.out
          have HB2 : Hid (Below W.heap.size W wr) := HB.out
          clear hlt HO
          go_wp2_with (first | (at_builtin; refine wpList_append_own _ rfl (.tmp 64) (.tmp 65) 22 rfl W.heap.size 9 i0 (.string ⟨#[]⟩) 1 16 Tryz.underlying22 hi hz0 hz1 hz2 rfl (by decide) _ _ _ rfl (ho2.alloc _) ⟨wr.heap.size, 0, none⟩ 1 1 [.string ⟨#[101, 110, 100]⟩] rfl rfl (cell_one_new _ _ _) (by intro u hu; simp at hu; subst hu; rfl) (by unfold maxLen; omega) (by omega) (by simp; omega) ?_; intro v' w3 hown' hgrow hnil; obtain ⟨g', cap2, hv', hg', hown2⟩ := shape9 hown' (by omega); have hB3 := Below.grown (HB2.out.alloc (by omega) _) hgrow (by simp; omega) (fun j hj => by have := (ho2.lt j hj).1; omega); clear hown' hnil hgrow; rw [hv']; clear hv'))
          go_ret
          refine ⟨bt hb0 hB3, g', cap2, by rw [HLE.out]; rfl, ?_⟩
          rw [HLE.out]
          have : strV (recLs r) = strV ([recHd r] ++ r.code.map doL ++ r.looks.map lookL) ++ [.string ⟨#[101, 110, 100]⟩] := by
            rw [show recLs r = [recHd r] ++ r.code.map doL ++ r.looks.map lookL ++ [endL] from rfl, strV_append]
            rfl
          rw [this]
          exact own9_low hown2 (by omega)

end Go.Proofs.YtikdgmmloiegjaaGreatDoor
