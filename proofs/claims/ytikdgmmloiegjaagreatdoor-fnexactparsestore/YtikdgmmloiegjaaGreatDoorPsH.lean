import Derived.Test.YtikdgmmloiegjaaGreatDoorSDec
import Derived.Test.YtikdgmmloiegjaaGreatDoorPaG
import Derived.Deep.RegionHeld3
namespace Go.Proofs.YtikdgmmloiegjaaGreatDoor
open Go.RowKit
set_option linter.unusedVariables false

theorem FS.txtBlk {F : Nat} {s : Sta} {tv qv pv : Value} {es ce : List Ent} {w w' : World} (h : FS F s tv qv pv es ce w) {v : Value} {e sz n : Nat} {ys : List Value} (ho : w.ownsRow (F + 1) e sz v n ys) (hg : w.grownBy w' v.ownBlock) : w'.heap[F]? = some (.cells #[.int .i64 (s.w : Int), tv, qv, pv] 35 (0, 0)) := by
  rw [hg.block F h.lt (fun e => by have := (ho.lt F e.symm).1; omega)]; exact h.blk
theorem grownF {F : Nat} {w a w' : World} (h : Below F w a) (hF : F ≤ a.heap.size) {v : Value} {e sz n : Nat} {ys : List Value} (ho : a.ownsRow (F + 1) e sz v n ys) (hg : a.grownBy w' v.ownBlock) : Below F w w' := h.grown hg hF (fun k hk => by have := (ho.lt k hk).1; omega)
set_option maxRecDepth 100000 in
set_option maxHeartbeats 1000000 in
theorem text_any (p : Nat → Addr) (F : Nat) (s : Sta) (l : ByteArray) (tv qv pv : Value) (es : List Ent) (w : World) (hE : EnvF p F w) (hF : FS F s tv qv pv es [] w) (hl : l.size ≤ 200000) (hk : s.ts.length ≤ 200000) :
    Calls Tryz.prog 30 #[.pointer (some ⟨F, 0, none⟩), .string l] w fun e w' => Below F w w' ∧ StepR F (stText s l.data.toList) e w' := by
  obtain ⟨i0, hi, hz0, hz1, hz2⟩ := info_parts Tryz.info9b
  have HC := hid (cut32 hE hl)
  have hlr := cut_size hl
  have HO : Hid (∀ o, stText s l.data.toList = o → (if (cutL 32 l.data.toList).1 = wText then
    match unqOf (cutL 32 l.data.toList).2.1 with
    | none => none
    | some x => some (Md.text, (⟨s.w, s.ts ++ [⟨x.toArray⟩], s.rs, s.cur⟩ : Sta))
  else stRec s l.data.toList) = o) := fun o h => h
  generalize stText s l.data.toList = O at *
  have HO1 := HO.out O rfl
  clear HO
  have HB := hid (fun (w' : World) (h1 : EnvF p F w') (h2 : FS F s tv qv pv es [] w') => begin_any p F s l tv qv pv es w' h1 h2 hl)
  generalize stRec s l.data.toList = OR at *
  generalize cutL 32 l.data.toList = q at *
  obtain ⟨wd, rs, fl⟩ := q
  dsimp only at HC HO1 hlr
  have HO := hid HO1
  clear HO1
  have hlF := hF.lt
  go_enter Tryz.func30, Tryz.ntmps30
  go_wp2_with fail
  refine HC.out.mono ?_
  rintro e w1 ⟨hb1, rfl⟩
  have HF1 : Hid (FS F s tv qv pv es [] w1) := hF.below hb1
  have hB1 : Below F w w1 := hb1.mono (by omega)
  have HE1 : Hid (EnvF p F w1) := hE.below hB1
  have hF1 := HF1.out.lt
  clear hF HC hE
  by_cases hw : wd = wText
  · have HO3 := hid (HO.out.symm.trans (if_pos hw))
    clear HO HB
    subst hw
    have d1 : (wText == [116, 101, 120, 116]) = true := by decide
    have HN := hid (unquote_any p ⟨rs.toArray⟩ w1 HE1.out.env (by rw [bytes_size]; omega))
    go_wp2_with fail
    refine HN.out.mono ?_
    clear HN
    rintro e w2 ⟨hb2, ⟨x, hx, rfl⟩ | ⟨hno, rfl⟩⟩
    · have HF2 : Hid (FS F s tv qv pv es [] w2) := HF1.out.below hb2
      have hB2 := bmono hB1 (by omega) hb2
      have HO2 : Hid (O = some (Md.text, (⟨s.w, s.ts ++ [⟨x.toArray⟩], s.rs, s.cur⟩ : Sta))) := by
        show _ = _
        have := HO3.out
        rw [unqOf_some (show quoteL x = rs from hx)] at this
        exact this
      clear HF1 HE1 HO3 hb2 hx
      have hlt2 := HF2.out.lt
      obtain ⟨c0, c1, c2, c3, f0, f1, f2, f3⟩ := HF2.out.cells
      clear c0 c2 c3 f0 f1 f2 f3
      generalize (⟨x.toArray⟩ : ByteArray) = xb at *
      go_wp2_with (first | (at_builtin; refine wpList_append_lies _ rfl _ _ 22 rfl (F + 1) 9 i0 (.string ⟨#[]⟩) 1 16 Tryz.underlying22 hi hz0 hz1 hz2 rfl (by decide) _ _ _ rfl (HF2.out.txt.alloc _) ⟨w2.heap.size, 0, none⟩ 1 1 [.string xb] rfl rfl (cell_one_new _ _ _) (by intro u hu; simp at hu; subst hu; rfl) (by omega) (by unfold maxLen; omega) (by omega) (by simp; omega) _ rfl ?_; intro g' cap2 w3 hown' hgrow hlie hlt3; have HFX : Hid (FS F s tv qv pv es [] (w2.alloc (.cells #[.string xb] 9))) := hid (HF2.out.below ((Below.refl _ _).alloc (Nat.le_refl _) _)); have HF3 : Hid _ := hid (HFX.out.addT hgrow xb hown'); have hF3 := HFX.out.txtBlk HFX.out.txt hgrow; have cv3 : w3.cell? ⟨F, 1, none⟩ = some tv := (by rw [Lib.cell_of_heap hF3]; rfl); have fv3 : w3.frozen? ⟨F, 1, none⟩ = false := Lib.frozen_of_heap hF3 1; have hB3 : Below F w w3 := grownF (hB2.alloc (by omega) _) (by simp; omega) HFX.out.txt hgrow; clear hgrow hown' hlie hF3 HFX HF2))
      go_ret
      exact ⟨hB3.setCell (p := ⟨F, 1, none⟩) (Nat.le_refl _) _, Or.inr ⟨.text, _, HO2.out, rfl, _, _, _, _, _, HF3.out⟩⟩
    · have hB2 := bmono hB1 (by omega) hb2
      have HO2 : Hid (O = none) := by
        show _ = _
        have := HO3.out
        rw [unqOf_none (show ∀ x, quoteL x ≠ rs from hno)] at this
        exact this
      clear HF1 HO3 HE1 hb2 hno
      go_wp2_with fail
      all_goals
        go_ret
        exact ⟨hB2, Or.inl ⟨HO2.out, rfl⟩⟩
  · have HO3 := hid (HO.out.symm.trans (if_neg hw))
    have d1 : (wd == [116, 101, 120, 116]) = false := by simpa [wText] using hw
    clear HO
    go_wp2_with fail
    refine (HB.out w1 HE1.out HF1.out).mono ?_
    rintro e w2 ⟨hb2, hs2⟩
    have hB2 := hB1.trans hb2
    rw [← HO3.out] at hs2
    have HS := hid hs2
    rcases hs2 with ⟨h1, rfl⟩ | ⟨m, s', h1, rfl, h3⟩
    · clear h1
      go_wp2_with fail
      go_ret
      exact ⟨hB2, HS.out⟩
    · clear h1 h3
      go_wp2_with fail
      go_ret
      exact ⟨hB2, HS.out⟩

end Go.Proofs.YtikdgmmloiegjaaGreatDoor
namespace Go.Proofs.YtikdgmmloiegjaaGreatDoor
open Go.RowKit
set_option linter.unusedVariables false
theorem FS.rcells {F R : Nat} {s : Sta} {tv qv : Value} {es : List Ent} {e : Ent} {w : World} (h : FS F s tv qv (.pointer (some ⟨R, 0, none⟩)) es [e] w) : w.heap[R]? = some (.cells #[e.1, e.2.1, .string e.2.2.out] 54 (0, 0)) ∧ F < R ∧ qv.ownBlock ≠ some R := by
  obtain ⟨R', h1, h2, h3, h4⟩ := h.now e rfl
  obtain rfl : R = R' := by simpa using h1
  exact ⟨h3, h2, h4⟩
theorem FS.oneC {F : Nat} {s : Sta} {tv qv pv : Value} {es : List Ent} {c l : Value} {r : T3} {w : World} (h : FS F s tv qv pv es [(c, l, r)] w) : (∃ a cp, c = .slice a r.code.length cp) ∧ ∃ a cp, l = .slice a r.looks.length cp := by
  have hc := h.cod (c, l, r) (by simp)
  have hl := h.loo (c, l, r) (by simp)
  constructor
  · rcases hc.2 with ⟨h1, h2⟩ | ⟨g, cap, cur, h1, _⟩
    · exact ⟨none, 0, by rw [show c = .slice none 0 0 from h1, show r.code.length = 0 from h2]⟩
    · exact ⟨_, cap, h1⟩
  · rcases hl.2 with ⟨h1, h2⟩ | ⟨g, cap, cur, h1, _⟩
    · exact ⟨none, 0, by rw [show l = .slice none 0 0 from h1, show r.looks.length = 0 from h2]⟩
    · exact ⟨_, cap, h1⟩
set_option maxRecDepth 100000 in
set_option maxHeartbeats 1000000 in
theorem end_any (p : Nat → Addr) (F R : Nat) (s : Sta) (tv qv c l : Value) (r : T3) (es : List Ent) (w : World) (hF : FS F s tv qv (.pointer (some ⟨R, 0, none⟩)) es [(c, l, r)] w) (hk : es.length ≤ 200000) :
    Calls Tryz.prog 89 #[.pointer (some ⟨F, 0, none⟩), .string ⟨endL.toArray⟩] w fun e w' => Below F w w' ∧ e = .returned (fnV F .recd) ∧ ∃ qv' es', FS F ⟨s.w, s.ts, s.rs ++ [r], none⟩ tv qv' (.pointer none) es' [] w' := by
  obtain ⟨i0, hi, hz0, hz1, hz2⟩ := info_parts Tryz.info54
  obtain ⟨⟨ac, cc, hc⟩, al, cl, hl⟩ := hF.oneC
  obtain ⟨U, eU⟩ : ∃ U, w.drew = U := ⟨_, rfl⟩
  have hbU : Below w.heap.size w U := eU ▸ (Below.refl _ _).drew
  have HFU : Hid (FS F s tv qv (.pointer (some ⟨R, 0, none⟩)) es [(c, l, r)] U) := hF.below hbU
  have hBU : Below F w U := hbU.mono (by have := hF.lt; omega)
  have hFU := HFU.out.lt
  have hFw := hF.lt
  have hRw := hlt hF.rcells.1
  obtain ⟨hR, hFR, hqR⟩ := HFU.out.rcells
  obtain ⟨_, _, u2, u3, _, _, _, _⟩ := HFU.out.cells
  have r0 : U.cell? ⟨R, 0, none⟩ = some c := by rw [Lib.cell_of_heap hR]; rfl
  have r1 : U.cell? ⟨R, 1, none⟩ = some l := by rw [Lib.cell_of_heap hR]; rfl
  have r2 : U.cell? ⟨R, 2, none⟩ = some (.string r.out) := by rw [Lib.cell_of_heap hR]; rfl
  have HCL : Hid (c = .slice ac r.code.length cc ∧ l = .slice al r.looks.length cl) := ⟨hc, hl⟩
  have HQR : Hid (qv.ownBlock ≠ some R) := hqR
  have HFW := hid hF
  clear hF hc hl hR hqR
  have d1 : (endL == [101, 110, 100]) = true := by decide
  subst eU
  have hbX : Below w.heap.size w (w.alloc (.cells #[c, l, .string r.out] 54)).drew := ((Below.refl _ _).alloc (Nat.le_refl _) _).drew
  have HFX : Hid (FS F s tv qv (.pointer (some ⟨R, 0, none⟩)) es [(c, l, r)] (w.alloc (.cells #[c, l, .string r.out] 54)).drew) := HFW.out.below hbX
  have hBX : Below F w (w.alloc (.cells #[c, l, .string r.out] 54)).drew := hbX.mono (by omega)
  obtain ⟨_, _, x2, x3, _, _, _, _⟩ := HFX.out.cells
  clear hbX
  go_enter Tryz.func89, Tryz.ntmps89
  go_wp2_with fail
  go_region_law (first | ((refine step_append_lies _ (by rfl) _ _ 23 (by rfl) (F + 1) 54 i0 (.agg #[.slice none 0 0, .slice none 0 0, .string ByteArray.empty]) 3 64 Tryz.underlying23 hi hz0 hz1 hz2 (by rfl) (by decide) qv es.length (es.flatMap entC) (by rfl) HFX.out.row ⟨w.heap.size, 0, none⟩ 1 1 [c, l, .string r.out] (by rfl) (by rfl) (World.news_of_block (cs := #[c, l, .string r.out]) (t := 54) (fr := (0, 0)) (heap_newD _ _)) (by intro u hu; simp at hu; rcases hu with rfl | rfl | rfl; (rw [HCL.out.1]; rfl); (rw [HCL.out.2]; rfl); rfl) (by decide) (by unfold maxLen; omega) (by omega) (by simp; omega) _ rfl ?_; intro g' cap2 w3 hown' hgrow hlie hlt3; have hF3 := HFX.out.txtBlk HFX.out.row hgrow; have hR3 : w3.heap[R]? = some (.cells #[c, l, .string r.out] 54 (0, 0)) := (by rw [hgrow.block R (hlt HFX.out.rcells.1) (fun e => HQR.out e.symm)]; exact HFX.out.rcells.1); have k2 : w3.cell? ⟨F, 2, none⟩ = some qv := (by rw [Lib.cell_of_heap hF3]; rfl); have k3 : w3.cell? ⟨F, 3, none⟩ = some (.pointer (some ⟨R, 0, none⟩)) := (by rw [Lib.cell_of_heap hF3]; rfl); have q0 : w3.cell? ⟨R, 0, none⟩ = some c := (by rw [Lib.cell_of_heap hR3]; rfl); have q1 : w3.cell? ⟨R, 1, none⟩ = some l := (by rw [Lib.cell_of_heap hR3]; rfl); have q2 : w3.cell? ⟨R, 2, none⟩ = some (.string r.out) := (by rw [Lib.cell_of_heap hR3]; rfl); have kf2 : w3.frozen? ⟨F, 2, none⟩ = false := Lib.frozen_of_heap hF3 2; have kf3 : w3.frozen? ⟨F, 3, none⟩ = false := Lib.frozen_of_heap hF3 3; have HFIN : Hid _ := hid (HFX.out.fin hgrow hown'); have hB3 : Below F w w3 := grownF hBX (by simp; omega) HFX.out.row hgrow; clear hF3 hR3 hown' hgrow hlie)))
  all_goals
    clear u2 u3 x2 x3 r0 r1 r2 q0 q1 q2
    go_wp2_with fail
    go_ret
    exact ⟨(hB3.setCell (p := ⟨F, 2, none⟩) (Nat.le_refl _) _).setCell (p := ⟨F, 3, none⟩) (Nat.le_refl _) _, rfl, _, _, HFIN.out⟩

end Go.Proofs.YtikdgmmloiegjaaGreatDoor
namespace Go.Proofs.YtikdgmmloiegjaaGreatDoor
open Go.RowKit
set_option linter.unusedVariables false
theorem bB_eqH (x : List UInt8) : (⟨x.toArray⟩ : ByteArray).data.toList = x := by simp
set_option maxRecDepth 100000 in
set_option maxHeartbeats 8000000 in
theorem ins_any (p : Nat → Addr) (F R : Nat) (s : Sta) (L : List UInt8) (tv qv c l : Value) (r : T3) (es : List Ent) (w : World) (hE : EnvF p F w) (hF : FS F s tv qv (.pointer (some ⟨R, 0, none⟩)) es [(c, l, r)] w) (hL : L.length ≤ 200000) (hk : r.code.length ≤ 200000)
    (HLK : ∀ w', EnvF p F w' → FS F s tv qv (.pointer (some ⟨R, 0, none⟩)) es [(c, l, r)] w' → Calls Tryz.prog 89 #[.pointer (some ⟨F, 0, none⟩), .string ⟨L.toArray⟩] w' fun e w2 => Below F w' w2 ∧ StepR F (stLook s r L) e w2) :
    Calls Tryz.prog 69 #[.pointer (some ⟨F, 0, none⟩), .string ⟨L.toArray⟩] w fun e w' => Below F w w' ∧ StepR F (stIns s r L) e w' := by
  obtain ⟨i0, hi, hz0, hz1, hz2⟩ := info_parts Tryz.info56
  have HC := hid (cut32 hE (l := ⟨L.toArray⟩) (by rw [bytes_size]; exact hL))
  have hlr := cut_size (l := ⟨L.toArray⟩) (by rw [bytes_size]; exact hL)
  rw [bB_eqH] at HC hlr
  have HO1 : Hid (∀ o, stIns s r L = o → (if (cutL 32 L).1 = wDo then
    match rd (cutL 32 L).2.1 with
    | none => none
    | some i => some (Md.ins, (⟨s.w, s.ts, s.rs, some ⟨r.code ++ [i], r.looks, r.out⟩⟩ : Sta))
  else stLook s r L) = o) := fun o h => h
  generalize stIns s r L = O at *
  have HO2 := HO1.out O rfl
  clear HO1
  have HLK := hid HLK
  generalize stLook s r L = OR at *
  generalize cutL 32 L = q at *
  obtain ⟨wd, be, fl⟩ := q
  dsimp only at HC HO2 hlr
  have HO := hid HO2
  clear HO2
  have hlF := hF.lt
  go_enter Tryz.func69, Tryz.ntmps69
  go_wp2_with fail
  refine HC.out.mono ?_
  rintro e w1 ⟨hb1, rfl⟩
  have HF1 : Hid (FS F s tv qv (.pointer (some ⟨R, 0, none⟩)) es [(c, l, r)] w1) := hF.below hb1
  have hB1 : Below F w w1 := hb1.mono (by omega)
  have HE1 : Hid (EnvF p F w1) := hE.below hB1
  have hF1 := HF1.out.lt
  clear hF HC hE hb1
  by_cases hw : wd = wDo
  · have HO3 := hid (HO.out.symm.trans (if_pos hw))
    clear HO HLK
    subst hw
    have d1 : (wDo == [100, 111]) = true := by decide
    have HN := hid (readIns_any p ⟨be.toArray⟩ w1 HE1.out.env (by rw [bytes_size]; omega))
    go_wp2_with fail
    refine HN.out.mono ?_
    clear HN
    rintro e w2 ⟨hb2, ⟨⟨op, tx, nn⟩, hx, rfl⟩ | ⟨hno, a, rfl⟩⟩
    · have hB2 := bmono hB1 (by omega) hb2
      have HO2 : Hid (O = some (Md.ins, (⟨s.w, s.ts, s.rs, some ⟨r.code ++ [⟨op, tx, nn⟩], r.looks, r.out⟩⟩ : Sta))) := by
        show _ = _
        have := HO3.out
        rw [show rd be = some ⟨op, tx, nn⟩ from hx] at this
        exact this
      have HF2 : Hid (FS F s tv qv (.pointer (some ⟨R, 0, none⟩)) es [(c, l, r)] w2) := HF1.out.below hb2
      clear HF1 HE1 HO3 hb2 hx
      have hF2 := HF2.out.lt
      obtain ⟨X, eX⟩ : ∃ X, w2.alloc (.cells #[.int .i64 op, .string tx, .int .i64 nn] 56) = X := ⟨_, rfl⟩
      have hbX : Below w2.heap.size w2 X := eX ▸ (Below.refl _ _).alloc (Nat.le_refl _) _
      have HF3 : Hid (FS F s tv qv (.pointer (some ⟨R, 0, none⟩)) es [(c, l, r)] X) := HF2.out.below hbX
      have hB3 : Below F w X := bmono hB2 (by omega) hbX
      have hI : X.heap[w2.heap.size]? = some (.cells #[.int .i64 op, .string tx, .int .i64 nn] 56 (0, 0)) := by rw [← eX]; exact alloc_here _ _
      have hIl : w2.heap.size < X.heap.size := hlt hI
      have hFw := HF3.out.lt
      have hRw := hlt HF3.out.rcells.1
      have hFR := HF3.out.rcells.2.1
      have HLR : Hid (c.ownBlock ≠ some R) := neB (HF3.out.cod (c, l, r) (by simp)) HF3.out.rcells.1 (by decide)
      have hbU : Below X.heap.size X X.drew := (Below.refl _ _).drew
      have hU := (HF3.out.below hbU)
      obtain ⟨_, _, _, u3, _, _, _, _⟩ := hU.cells
      have r1 : X.drew.cell? ⟨R, 0, none⟩ = some c := by rw [Lib.cell_of_heap hU.rcells.1]; rfl
      have hIU : X.drew.heap[w2.heap.size]? = some (.cells #[.int .i64 op, .string tx, .int .i64 nn] 56 (0, 0)) := by rw [hbU.block _ hIl]; exact hI
      have i0' : X.drew.cell? ⟨w2.heap.size, 0, none⟩ = some (.int .i64 op) := by rw [Lib.cell_of_heap hIU]; rfl
      have i1' : X.drew.cell? ⟨w2.heap.size, 1, none⟩ = some (.string tx) := by rw [Lib.cell_of_heap hIU]; rfl
      have i2' : X.drew.cell? ⟨w2.heap.size, 2, none⟩ = some (.int .i64 nn) := by rw [Lib.cell_of_heap hIU]; rfl
      clear hU hbU hIU hI
      have hbY : Below X.heap.size X (X.alloc (.cells #[.int .i64 op, .string tx, .int .i64 nn] 56)).drew := ((Below.refl _ _).alloc (Nat.le_refl _) _).drew
      have HFX : Hid (FS F s tv qv (.pointer (some ⟨R, 0, none⟩)) es [(c, l, r)] (X.alloc (.cells #[.int .i64 op, .string tx, .int .i64 nn] 56)).drew) := HF3.out.below hbY
      have hBX : Below F w (X.alloc (.cells #[.int .i64 op, .string tx, .int .i64 nn] 56)).drew := bmono hB3 (by omega) hbY
      obtain ⟨_, _, _, x3, _, _, _, _⟩ := HFX.out.cells
      have x1 : (X.alloc (.cells #[.int .i64 op, .string tx, .int .i64 nn] 56)).drew.cell? ⟨R, 0, none⟩ = some c := by rw [Lib.cell_of_heap HFX.out.rcells.1]; rfl
      clear hbX hbY HF3 HF2
      dsimp only
      go_wp2_with fail
      go_region_law (first | ((refine step_append_lies _ (by rfl) _ _ 49 (by rfl) (F + 1) 56 i0 (.agg #[.int .i64 0, .string ByteArray.empty, .int .i64 0]) 3 32 Tryz.underlying49 hi hz0 hz1 hz2 (by rfl) (by decide) c r.code.length (insC r.code) (by rfl) (HFX.out.cod (c, l, r) (by simp)) ⟨X.heap.size, 0, none⟩ 1 1 [.int .i64 op, .string tx, .int .i64 nn] (by rfl) (by rfl) (World.news_of_block (cs := #[.int .i64 op, .string tx, .int .i64 nn]) (t := 56) (fr := (0, 0)) (heap_newD _ _)) (by intro u hu; simp at hu; rcases hu with rfl | rfl | rfl <;> rfl) (by decide) (by unfold maxLen; omega) (by omega) (by simp; omega) _ rfl ?_; intro g' cap2 w4 hown' hgrow hlie hlt3; have hF4 := HFX.out.txtBlk (HFX.out.cod (c, l, r) (by simp)) hgrow; have hR4 : w4.heap[R]? = some (.cells #[c, l, .string r.out] 54 (0, 0)) := (by rw [hgrow.block R (hlt HFX.out.rcells.1) (fun e => HLR.out e.symm)]; exact HFX.out.rcells.1); have k3 : w4.cell? ⟨F, 3, none⟩ = some (.pointer (some ⟨R, 0, none⟩)) := (by rw [Lib.cell_of_heap hF4]; rfl); have q1 : w4.cell? ⟨R, 0, none⟩ = some c := (by rw [Lib.cell_of_heap hR4]; rfl); have qf1 : w4.frozen? ⟨R, 0, none⟩ = false := Lib.frozen_of_heap hR4 0; have HFIN : Hid _ := hid (HFX.out.addI hgrow (⟨op, tx, nn⟩ : I3) rfl hown' hlie); have hB4 : Below F w w4 := grownF hBX (by simp; omega) (HFX.out.cod (c, l, r) (by simp)) hgrow; clear hF4 hR4 hown' hgrow hlie)))
      all_goals
        clear u3 x3 r1 x1 k3 q1 i0' i1' i2'
        go_wp2_with fail
        go_ret
        exact ⟨hB4.setCell (p := ⟨R, 0, none⟩) (by show F ≤ R; omega) _, Or.inr ⟨.ins, _, HO2.out, rfl, _, _, _, _, _, HFIN.out⟩⟩
    · have hB2 := bmono hB1 (by omega) hb2
      have HO2 : Hid (O = none) := by
        show _ = _
        have := HO3.out
        rw [show rd be = none from hno] at this
        exact this
      obtain ⟨X, eX⟩ : ∃ X, w2.alloc (.cells #[.int .i64 0, .string ⟨#[]⟩, .int .i64 0] 56) = X := ⟨_, rfl⟩
      have hB3 : Below F w X := eX ▸ hB2.alloc (by have := hb2.size; omega) _
      have HeX : Hid (w2.alloc (.cells #[.int .i64 0, .string ⟨#[]⟩, .int .i64 0] 56) = X) := eX
      clear HF1 HO3 HE1 hb2 hno eX
      dsimp only
      go_wp2_with fail
      rw [HeX.out]
      go_ret
      exact ⟨hB3, Or.inl ⟨HO2.out, rfl⟩⟩
  · have HO3 := hid (HO.out.symm.trans (if_neg hw))
    have d1 : (wd == [100, 111]) = false := by simpa [wDo] using hw
    clear HO
    go_wp2_with fail
    refine (HLK.out w1 HE1.out HF1.out).mono ?_
    rintro e w2 ⟨hb2, hs2⟩
    have hB2 := hB1.trans hb2
    rw [← HO3.out] at hs2
    have HS := hid hs2
    rcases hs2 with ⟨h1, rfl⟩ | ⟨m, s', h1, rfl, h3⟩
    · clear h1
      go_wp2_with fail
      go_ret
      exact ⟨hB2, HS.out⟩
    · clear h1 h3
      go_wp2_with fail
      go_ret
      exact ⟨hB2, HS.out⟩

end Go.Proofs.YtikdgmmloiegjaaGreatDoor
