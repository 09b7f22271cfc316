import Derived.Test.YtmeojnaoljgieaeGreatDoorVVoI
import Derived.Test.YtmeojnaoljgieaeGreatDoorVNPlainS
import Derived.Test.YtmeojnaoljgieaeGreatDoorVNSpec
import Derived.BigQuiet
namespace Go.Proofs.YtmeojnaoljgieaeGreatDoor
open Go.RowKit
set_option linter.unusedVariables false
set_option maxHeartbeats 8000000
set_option maxRecDepth 100000
def repCells : List R3 -> List Value
  | [] => []
  | y :: ys => .bool y.has :: .int .i64 y.code :: .string y.text :: repCells ys
theorem repCells_snoc (ys : List R3) (y : R3) : repCells (ys ++ [y]) = repCells ys ++ [.bool y.has, .int .i64 y.code, .string y.text] := by
  induction ys with
  | nil => rfl
  | cons x xs ih => simp only [List.cons_append, repCells, ih]
theorem repCells_get : ∀ (ys : List R3) (i : Nat), i < ys.length -> (repCells ys)[i * 3]? = some (.bool (rx ys i).has) /\ (repCells ys)[i * 3 + 1]? = some (.int .i64 (rx ys i).code) /\ (repCells ys)[i * 3 + 2]? = some (.string (rx ys i).text)
  | [], i, h => by simp at h
  | y :: ys, 0, h => by simp [repCells, rx]
  | y :: ys, i + 1, h => by
    have := repCells_get ys i (by simpa using h)
    rw [show (i + 1) * 3 = i * 3 + 1 + 1 + 1 from by omega]
    simpa [repCells, rx] using this
theorem rowR_of {w : World} {B cap : Nat} {a : Option Addr} {ys : List R3} (h : w.ownsRow B 178 3 (.slice a ys.length cap) ys.length (repCells ys)) : RowR w a ys := by
  intro i hi
  rcases h.2 with ⟨hv, h0⟩ | ⟨g, cap', cur, hv, _⟩
  · omega
  · simp only [Value.slice.injEq] at hv
    obtain ⟨rfl, _, _⟩ := hv
    obtain ⟨k1, k2, k3⟩ := repCells_get ys i hi
    exact ⟨g, 0, rfl, by rw [Nat.zero_add, h.cellAt _ (by omega)]; exact k1, by rw [Nat.zero_add, h.cellAt _ (by omega)]; exact k2, by rw [Nat.zero_add, h.cellAt _ (by omega)]; exact k3⟩
theorem cell_three (w : World) (v0 v1 v2 : Value) (ty : TypeId) : ∀ j u, [v0, v1, v2][j]? = some u -> (w.alloc (.cells #[v0, v1, v2] ty)).cell? ((⟨w.heap.size, 0, none⟩ : Addr).add j) = some u := by
  intro j u hu
  match j with
  | 0 => simp at hu; subst hu; simp [go_sem, Addr.add]
  | 1 => simp at hu; subst hu; simp [go_sem, Addr.add]
  | 2 => simp at hu; subst hu; simp [go_sem, Addr.add]
  | j + 3 => simp at hu
theorem cell_alloc {w : World} {p : Addr} {v : Value} {o : Obj} (h : w.cell? p = some v) : (w.alloc o).cell? p = some v := by rw [World.cell?_alloc_lt _ _ _ (World.block_lt_of_cell? _ _ h)]; exact h
def lenV : Value -> Nat
  | .slice _ n _ => n
  | _ => 0
theorem reps_of {ys : List R3} {gs : List G3} (h : ∀ i, i < ys.length -> repOk (rx ys i) = true) (hk : ys.length <= 200) : repsOk ys = true := by
  simp only [repsOk, Bool.and_eq_true, decide_eq_true_eq]
  exact ⟨hk, h⟩
theorem rx_any {ys : List R3} (h : ∀ i, i < ys.length -> repOk (rx ys i) = true) : ∀ i, (rx ys i).text.size <= 9223372036854775807 := fun i => by
  rcases Nat.lt_or_ge i ys.length with h1 | h1
  · have := rx_size (n := 0) (ts := []) h i h1; omega
  · unfold rx
    rw [List.getD_eq_getElem?_getD, List.getElem?_eq_none h1]
    decide
theorem l4Vouch_any (n : Nat) (ta ra a la : Option Addr) (tc rn rc cap lc : Nat) (ts : List ByteArray) (is : List I3) (gs : List G3) (out : ByteArray) (w : World) (h1 : 1 <= n) (h8 : n <= 8) (hc : Strs w ta ts) (hl : ts.length <= 1048576) (hs : ∀ i, i < ts.length -> (nx ts i).size <= 2002) (hasc : Asc (ts.map (sumB n))) (hv : progOk is = true) (hr : Row3 w a is) (hg : RowG w la gs) (hgl : gs.length <= 200) (hix : ∀ i, (ix is i).text.size <= 9223372036854775807) :
    Calls Tryz.prog 59 #[.agg #[.int .i64 n, .slice ta ts.length tc, .slice ra rn rc], .agg #[.slice a is.length cap, .slice la gs.length lc, .string out]] w fun e w' => Below w.heap.size w w' /\ ∃ r : Int, e = .returned (.int .i64 r) /\ VouR n ts is gs out r := by
  obtain ⟨W, eW⟩ : ∃ W, ((w.alloc (.cells #[.int .i64 n, .slice ta ts.length tc, .slice ra rn rc] 56)).alloc (.cells #[.slice a is.length cap, .slice la gs.length lc, .string out] 63)) = W := ⟨_, rfl⟩
  have hb0 : Below w.heap.size w W := by rw [<- eW]; exact ((Below.refl _ _).alloc (Nat.le_refl _) _).alloc (by simp) _
  have hWs : W.heap.size = w.heap.size + 1 + 1 := by rw [<- eW]; simp
  have HS0 : Hid (W.heap[w.heap.size]? = some (.cells #[.int .i64 n, .slice ta ts.length tc, .slice ra rn rc] 56 (0, 0))) := by
    show W.heap[w.heap.size]? = _
    rw [<- eW, Lib.alloc_old _ _ _ (by simp)]
    exact heap_new _ _
  have HR0 : Hid (W.heap[w.heap.size + 1]? = some (.cells #[.slice a is.length cap, .slice la gs.length lc, .string out] 63 (0, 0))) := by
    show W.heap[w.heap.size + 1]? = _
    rw [<- eW]
    have h := heap_new (w.alloc (.cells #[.int .i64 n, .slice ta ts.length tc, .slice ra rn rc] 56)) (.cells #[.slice a is.length cap, .slice la gs.length lc, .string out] 63)
    rw [show (w.alloc (.cells #[.int .i64 n, .slice ta ts.length tc, .slice ra rn rc] 56)).heap.size = w.heap.size + 1 from by simp] at h
    exact h
  have HWS : Hid (W.heap.size = w.heap.size + 1 + 1) := hWs
  have HB0 : Hid (Below w.heap.size w W) := hb0
  have HC : Hid (Strs w ta ts) := hc
  have HSZ : Hid (∀ i, i < ts.length -> (nx ts i).size <= 2002) := hs
  have HASC : Hid (Asc (ts.map (sumB n))) := hasc
  have HV : Hid (progOk is = true) := hv
  have HR : Hid (Row3 w a is) := hr
  have HG : Hid (RowG w la gs) := hg
  have HIX : Hid (∀ i, (ix is i).text.size <= 9223372036854775807) := hix
  have hil := (prog_len hv).2
  obtain ⟨i0, hi, hz0, hzz1, hzz2⟩ := info_parts Tryz.info178
  have HO0 : Hid ((W.alloc (.cells #[] 178)).ownsRow W.heap.size 178 3 (.slice (some ⟨W.heap.size, 0, none⟩) 0 0) 0 (repCells [])) := World.ownsRow_lit W #[] 0 (Nat.le_refl _) (by unfold maxLen; omega) rfl
  have HB1 : Hid (Below W.heap.size W (W.alloc (.cells #[] 178))) := (Below.refl _ _).alloc (Nat.le_refl _) _
  clear hc hs hasc hv hr hg hb0 hWs hix
  go_enter Tryz.func59, Tryz.ntmps59
  go_wp2_with fail
  clear eW
  go_loopw [5] (fun v wr => ∃ (ys : List R3) (sa : Option Addr) (sc : Nat), ys.length <= gs.length /\ v = .slice sa ys.length sc /\ Hid (∀ i, i < ys.length -> repOk (rx ys i) = true) /\ Hid (∀ r, VouP is gs (tellP n ts) (finP n ts out) ys r -> VouR n ts is gs out r) /\ Hid (wr.ownsRow W.heap.size 178 3 (.slice sa ys.length sc) ys.length (repCells ys)) /\ Hid (Below W.heap.size W wr)) (fun v _ => gs.length - lenV v)
  case atStart => exact ⟨[], some ⟨W.heap.size, 0, none⟩, 0, Nat.zero_le _, rfl, (fun i hi => by simp at hi : ∀ i, i < ([] : List R3).length -> repOk (rx [] i) = true), (fun r h => h : ∀ r, VouP is gs (tellP n ts) (finP n ts out) [] r -> VouR n ts is gs out r), HO0.out, HB1.out⟩
  case round =>
    clear HO0 HB1
    obtain ⟨ys, sa, sc, hk, rfl, HOKS, HVP, HOW, HBW⟩ := hrel
    have HBw : Hid (Below w.heap.size w wr) := HB0.out.trans (HBW.out.mono (by have := HWS.out; omega))
    obtain ⟨p0, p1, p2, _⟩ := bk3 ((HBW.out.block (w.heap.size + 1) (by have := HWS.out; omega)).trans HR0.out)
    have HNX : Hid (∀ V : World, Row3 V a is -> RowR V sa ys -> Calls Tryz.prog 115 #[.agg #[.slice a is.length cap], .slice sa ys.length sc] V fun e w' => Below V.heap.size V w' /\ ∃ r, Full is ys s00 r /\ e = .returned (resT r)) := fun V hV hR => specNext_yes a sa cap sc is ys V hV hR (by omega) HIX.out (rx_any HOKS.out) HV.out (reps_of (gs := gs) HOKS.out (by omega))
    go_wp2_with fail
    refine (HNX.out _ (HR.out.below HBw.out) (rowR_of HOW.out)).mono ?_
    rintro e w2 ⟨hb2, rs, hful, rfl⟩
    have HB2 : Hid (Below W.heap.size W w2) := bt HBW.out hb2
    have HB2w : Hid (Below w.heap.size w w2) := bt HBw.out hb2
    have HO2 : Hid (w2.ownsRow W.heap.size 178 3 (.slice sa ys.length sc) ys.length (repCells ys)) := ownsRow_below HOW.out hb2
    clear hb2 p0 p1 p2 HNX
    cases rs with
    | over c t st =>
      have HB3w : Hid (Below w.heap.size w (w2.alloc (.cells #[.bool true, .int .i64 c, .string t, .bool false, .string ⟨#[]⟩, .int .i64 st] 173))) := HB2w.out.alloc HB2w.out.size _
      have HB3 : Hid (Below W.heap.size W (w2.alloc (.cells #[.bool true, .int .i64 c, .string t, .bool false, .string ⟨#[]⟩, .int .i64 st] 173))) := HB2.out.alloc HB2.out.size _
      obtain ⟨p0, p1, p2, _⟩ := bk3 ((HB3.out.block (w.heap.size + 1) (by have := HWS.out; omega)).trans HR0.out)
      obtain ⟨s0, s1, s2, _⟩ := bk3 ((HB3.out.block w.heap.size (by have := HWS.out; omega)).trans HS0.out)
      unfold resT turnV
      by_cases hlt : ys.length < gs.length
      · have hkI : (ys.length : Int) < (gs.length : Int) := by omega
        have HO : Hid (VouR n ts is gs out 2) := HVP.out 2 (.few hful hlt)
        clear hful
        go_wp2_with fail
        go_ret
        exact ⟨HB3w.out, 2, rfl, HO.out⟩
      · have hkI : ¬ (ys.length : Int) < (gs.length : Int) := by omega
        have HO : Hid (VouR n ts is gs out (finP n ts out c t)) := HVP.out _ (.fin hful (by omega))
        obtain ⟨ht, hc0, hc5⟩ := Full.size HV.out (rx_size (n := n) (ts := ts) HOKS.out) hful (s00_ok is) rfl
        clear hful
        go_wp2_with fail
        refine (l4Get_any n ta ra tc rn rc ts out _ h1 h8 (HC.out.below HB3w.out) hl HSZ.out HASC.out).mono ?_
        rintro e w4 ⟨hb4, A, ok, rfl, hgo⟩
        obtain ⟨eA, hok⟩ := getA_of HASC.out hgo
        have HB4w : Hid (Below w.heap.size w w4) := bt HB3w.out hb4
        have r1 : w4.cell? ⟨w2.heap.size, 1, none⟩ = some (.int .i64 c) := cell_below hb4 (by simp [go_sem])
        have r2 : w4.cell? ⟨w2.heap.size, 2, none⟩ = some (.string t) := cell_below hb4 (by simp [go_sem])
        have EA : Hid (getA n ts out = A) := eA.symm
        clear hb4 s0 s1 s2 p0 p1 p2 hgo eA
        cases ok
        · have HR4 : Hid (VouR n ts is gs out 4) := by
            have h := HO.out
            unfold finP at h
            rw [if_neg (fun h => absurd (hok.2 h.1) (by decide))] at h
            exact h
          go_wp2_with fail
          go_ret
          exact ⟨HB4w.out, 4, rfl, HR4.out⟩
        · have hgot := hok.1 rfl
          have hfs := formB_size (c := c) ht
          have HFM : Hid (∀ V : World, Calls Tryz.prog 117 #[.agg #[.int .i64 c, .string t, .slice none 0 0]] V fun e w' => e = .returned (.string (formB c t)) /\ Below V.heap.size V w') := fun V => specForm_in c t V hc0 hc5 ht
          have HYES : Hid (A = formB c t -> VouR n ts is gs out 0) := fun q => by
            have h := HO.out
            unfold finP at h
            rw [if_pos ⟨hgot, by rw [EA.out]; exact q⟩] at h
            exact h
          have HNO : Hid (¬ A = formB c t -> VouR n ts is gs out 4) := fun q => by
            have h := HO.out
            unfold finP at h
            rw [if_neg (fun h => q (by rw [<- EA.out]; exact h.2))] at h
            exact h
          clear hok hgot
          generalize formB c t = f at *
          by_cases q : A = f
          · have HZ : Hid (VouR n ts is gs out 0) := HYES.out q
            have dq := str_eq q
            clear q HYES HNO
            go_wp2_with fail
            refine (HFM.out _).mono ?_
            rintro e w3 ⟨rfl, hb3⟩
            go_wp2_with fail
            go_ret
            exact ⟨bt HB4w.out hb3, 0, rfl, HZ.out⟩
          · have HZ : Hid (VouR n ts is gs out 4) := HNO.out q
            have dq := str_ne q
            clear q HYES HNO
            go_wp2_with fail
            refine (HFM.out _).mono ?_
            rintro e w3 ⟨rfl, hb3⟩
            go_wp2_with fail
            go_ret
            exact ⟨bt HB4w.out hb3, 4, rfl, HZ.out⟩
    | wait ask nm st =>
      unfold resT turnV
      obtain ⟨W3, eW3⟩ : ∃ W3, w2.alloc (.cells #[.bool false, .int .i64 0, .string ⟨#[]⟩, .bool ask, .string nm, .int .i64 st] 173) = W3 := ⟨_, rfl⟩
      have HB3w : Hid (Below w.heap.size w W3) := by show Below _ _ _; rw [<- eW3]; exact HB2w.out.alloc HB2w.out.size _
      have HB3 : Hid (Below W.heap.size W W3) := by show Below _ _ _; rw [<- eW3]; exact HB2.out.alloc HB2.out.size _
      have HO3 : Hid (W3.ownsRow W.heap.size 178 3 (.slice sa ys.length sc) ys.length (repCells ys)) := by show World.ownsRow _ _ _ _ _ _ _; rw [<- eW3]; exact ownsRow_below HO2.out ((Below.refl _ _).alloc (Nat.le_refl _) _)
      have t0 : W3.cell? ⟨w2.heap.size, 0, none⟩ = some (.bool false) := by rw [<- eW3]; simp [go_sem]
      have t3 : W3.cell? ⟨w2.heap.size, 3, none⟩ = some (.bool ask) := by rw [<- eW3]; simp [go_sem]
      have t4 : W3.cell? ⟨w2.heap.size, 4, none⟩ = some (.string nm) := by rw [<- eW3]; simp [go_sem]
      obtain ⟨p0, p1, p2, _⟩ := bk3 ((HB3.out.block (w.heap.size + 1) (by have := HWS.out; omega)).trans HR0.out)
      obtain ⟨s0, s1, s2, _⟩ := bk3 ((HB3.out.block w.heap.size (by have := HWS.out; omega)).trans HS0.out)
      have HFU : Hid (Full is ys s00 (.wait ask nm st)) := hful
      clear hful HO2 HB2 HB2w
      by_cases hlt : ys.length < gs.length
      · have hkI : (ys.length : Int) < (gs.length : Int) := by omega
        have hk0 : (0 : Int) <= (ys.length : Int) := by omega
        have e1 : decide ((gs.length : Int) <= (ys.length : Int)) = false := by simp; omega
        have e2 : decide (gs.length <= ys.length) = false := by simp; omega
        obtain ⟨b, off, rfl, c1, c2, c3⟩ := (HG.out.below HB3w.out) ys.length hlt
        obtain ⟨g, eg⟩ : ∃ g, gx gs ys.length = g := ⟨_, rfl⟩
        rw [eg] at c1 c2 c3
        have EG : Hid (gx gs ys.length = g) := eg
        have HLT : Hid (ys.length < gs.length) := hlt
        clear eg
        obtain ⟨gn, ga, gu⟩ := g
        simp only at c1 c2 c3
        by_cases hm : gn = nm /\ ga = ask
        · obtain ⟨rfl, rfl⟩ := hm
          have dn := str_eq (rfl : gn = gn)
          go_wp2_with fail
          clear eW3
          go_region_held3 (fun w' => (w'.cell? ⟨w.heap.size + 1, 1, none⟩ = some (.slice (some ⟨b, off, none⟩) gs.length lc) /\ w'.cell? ⟨w2.heap.size, 3, none⟩ = some (.bool ga) /\ w'.cell? ⟨w2.heap.size, 4, none⟩ = some (.string gn)) /\ w'.cell? ⟨b, off + ys.length * 3, none⟩ = some (.string gn) /\ w'.cell? ⟨b, off + ys.length * 3 + 1, none⟩ = some (.bool ga))
            (first | assumption | (simp [*]; done))
            (fail)
          all_goals
            have hbX : Below W3.heap.size W3 W3.drew := (Below.refl _ _).drew
            obtain ⟨X, eX⟩ : ∃ X, W3.drew = X := ⟨_, rfl⟩
            have x0 := cell_below hbX s0
            have x1 := cell_below hbX s1
            have x2 := cell_below hbX s2
            have x3 := cell_below hbX p1
            have x4 := cell_below hbX c1
            have x5 := cell_below hbX c2
            have x6 := cell_below hbX c3
            have HXw : Hid (Below w.heap.size w W3.drew) := bt HB3w.out hbX
            have HX : Hid (Below W.heap.size W W3.drew) := bt HB3.out hbX
            have HOX : Hid (W3.drew.ownsRow W.heap.size 178 3 (.slice sa ys.length sc) ys.length (repCells ys)) := ownsRow_below HO3.out hbX
            go_wp2_with fail
            rw [eX] at *
            clear s0 s1 s2 p0 p1 p2 c1 c2 c3 t0 t3 t4 hbX HB3w HB3 HO3 eX dn
            have hbd : Below X.heap.size X X.drew := (Below.refl _ _).drew
            have hbX2 : b < X.heap.size := World.block_lt_of_cell? _ _ x4
            have hwX2 : w.heap.size + 1 < X.heap.size := World.block_lt_of_cell? _ _ x3
            go_cut [10, 11] (fun p q wx => ∃ (P : Nat) (y : R3) (told : Bool), p = .pointer (some ⟨P, 0, none⟩) /\ q = .bool told /\ Hid (ReplyS n ts ⟨gn, ga, gu⟩ y told) /\ Hid (wx.heap[P]? = some (.cells #[.bool y.has, .int .i64 y.code, .string y.text] 178 (0, 0))) /\ Hid (Below X.heap.size X wx))
            case first =>
              go_region_held3 (fun w' => (w'.cell? ⟨w.heap.size, 0, none⟩ = some (.int .i64 n) /\ w'.cell? ⟨w.heap.size, 1, none⟩ = some (.slice ta ts.length tc) /\ w'.cell? ⟨w.heap.size, 2, none⟩ = some (.slice ra rn rc)) /\ w'.cell? ⟨w.heap.size + 1, 1, none⟩ = some (.slice (some ⟨b, off, none⟩) gs.length lc) /\ w'.cell? ⟨b, off + ys.length * 3, none⟩ = some (.string gn) /\ w'.cell? ⟨b, off + ys.length * 3 + 1, none⟩ = some (.bool ga) /\ w'.cell? ⟨b, off + ys.length * 3 + 2, none⟩ = some (.string gu))
                (first | with_reducible exact ⟨⟨x0, x1, x2⟩, x3, x4, x5, x6⟩ | with_reducible exact ⟨⟨v0, v1, v2⟩, v3, v4, v5, v6⟩ | with_reducible exact ⟨⟨cell_alloc v0, cell_alloc v1, cell_alloc v2⟩, cell_alloc v3, cell_alloc v4, cell_alloc v5, cell_alloc v6⟩ | with_reducible exact ⟨⟨set3_far (by omega) _ _ _ v0, set3_far (by omega) _ _ _ v1, set3_far (by omega) _ _ _ v2⟩, set3_far (by omega) _ _ _ v3, set3_far (by omega) _ _ _ v4, set3_far (by omega) _ _ _ v5, set3_far (by omega) _ _ _ v6⟩ | with_reducible exact ⟨⟨cell_alloc x0, cell_alloc x1, cell_alloc x2⟩, cell_alloc x3, cell_alloc x4, cell_alloc x5, cell_alloc x6⟩ | exact ⟨⟨x0, x1, x2⟩, x3, x4, x5, x6⟩ | exact ⟨⟨cell_alloc x0, cell_alloc x1, cell_alloc x2⟩, cell_alloc x3, cell_alloc x4, cell_alloc x5, cell_alloc x6⟩ | exact ⟨⟨cell_alloc v0, cell_alloc v1, cell_alloc v2⟩, cell_alloc v3, cell_alloc v4, cell_alloc v5, cell_alloc v6⟩ | exact ⟨⟨set3_far (by omega) _ _ _ v0, set3_far (by omega) _ _ _ v1, set3_far (by omega) _ _ _ v2⟩, set3_far (by omega) _ _ _ v3, set3_far (by omega) _ _ _ v4, set3_far (by omega) _ _ _ v5, set3_far (by omega) _ _ _ v6⟩ | assumption | (simp [*]; done))
                (first | (go_at_call 118; refine (l4Reply_any n ta ra tc rn rc ts ⟨gn, ga, gu⟩ _ h1 h8 (HC.out.below (bt HXw.out (by first | with_reducible exact hbd | exact ((Below.refl _ _).alloc (Nat.le_refl _) _).drew | exact hbd.alloc (by simp) _))) hl HSZ.out HASC.out).mono ?_; rintro e w4 ⟨hb4, y, told, rfl, hrep⟩; have HRS : Hid (ReplyS n ts ⟨gn, ga, gu⟩ y told) := hrep; have hb4w : Below X.heap.size X w4 := (by first | with_reducible exact bt hbd hb4 | exact bt ((Below.refl _ _).alloc (Nat.le_refl _) _).drew hb4 | exact bt (hbd.alloc (by simp) _) hb4); have v0 := cell_below hb4w x0; have v1 := cell_below hb4w x1; have v2 := cell_below hb4w x2; have v3 := cell_below hb4w x3; have v4 := cell_below hb4w x4; have v5 := cell_below hb4w x5; have v6 := cell_below hb4w x6; first | (have z4 : w4.heap[X.heap.size]? = some (.cells #[.bool false, .int .i64 0, .string ⟨#[]⟩] 178 (0, 0)) := blk_keep hb4 (heap_new X _); obtain ⟨z0, z1, z2, zf⟩ := bk3 z4) | skip))
              all_goals
                go_wp2_with fail
                go_meet
                first
                  | exact ⟨w4.heap.size, y, told, rfl, rfl, HRS.out, heap_new _ _, hb4w.alloc hb4w.size _⟩
                  | exact ⟨X.heap.size, y, told, rfl, rfl, HRS.out, set3_at z4 _ _ _, below_set3 hb4w (Nat.le_refl _) _ _ _⟩
            case rest =>
              obtain ⟨P, y, told, rfl, rfl, HRS, HPB, HBX⟩ := hcut
              obtain ⟨yh, yc, yt⟩ := y
              simp only at HPB
              obtain ⟨u0, u1, u2, uf⟩ := bk3 HPB.out
              have HBcw : Hid (Below w.heap.size w wc) := bt HXw.out HBX.out
              have HBc : Hid (Below W.heap.size W wc) := bt HX.out HBX.out
              clear x0 x1 x2 x3 x4 x5 x6 hbd hbX2 hwX2
              rcases HRS.out with ⟨rfl, htl⟩ | ⟨rfl, htl⟩
              · have HO : Hid (VouR n ts is gs out 3) := HVP.out 3 (.untold HFU.out HLT.out (by rw [EG.out]; exact ⟨rfl, rfl⟩) (by rw [EG.out]; exact htl))
                clear htl HRS
                go_wp2_with fail
                go_ret
                exact ⟨HBcw.out, 3, rfl, HO.out⟩
              · have HVN : Hid (∀ r, VouP is gs (tellP n ts) (finP n ts out) (ys ++ [⟨yh, yc, yt⟩]) r -> VouR n ts is gs out r) := fun r h => HVP.out r (.go HFU.out HLT.out (by rw [EG.out]; exact ⟨rfl, rfl⟩) (by rw [EG.out]; exact htl) h)
                have HOKN : Hid (∀ i, i < (ys ++ [(⟨yh, yc, yt⟩ : R3)]).length -> repOk (rx (ys ++ [⟨yh, yc, yt⟩]) i) = true) := rx_snoc HOKS.out (tell_ok htl)
                have HOC : Hid ((wc.alloc (.cells #[.bool yh, .int .i64 yc, .string yt] 178)).ownsRow W.heap.size 178 3 (.slice sa ys.length sc) ys.length (repCells ys)) := (ownsRow_below HOX.out HBX.out).alloc _
                have hlw : W.heap.size <= wc.heap.size := HBc.out.size
                clear htl HRS
                go_wp2_with (at_builtin; refine wpList_append_own _ rfl (.tmp 85) (.tmp 87) 171 rfl W.heap.size 178 i0 (.agg #[.bool false, .int .i64 0, .string ⟨#[]⟩]) 3 32 Tryz.underlying171 hi hz0 hzz1 hzz2 rfl (by decide) _ _ _ rfl HOC.out ⟨wc.heap.size, 0, none⟩ 1 1 [.bool yh, .int .i64 yc, .string yt] rfl rfl (cell_three wc _ _ _ 178) (by intro u hu; simp at hu; rcases hu with rfl | rfl | rfl <;> rfl) (by unfold maxLen; omega) (by omega) (by simp; omega) ?_; intro v' w5 hown' hgrow hnil; clear hnil; have hb5 : Below W.heap.size W w5 := (HBc.out.alloc hlw _).grown hgrow (by simp; omega) (fun j hj => (HOC.out.lt j hj).1); have hex : ∃ sa' sc', v' = Value.slice sa' (ys.length + 1) sc' := (by rcases hown'.2 with ⟨_, h0⟩ | ⟨g, cp, cur, hv, _⟩; (focus (omega)); exact ⟨_, _, hv⟩); obtain ⟨sa', sc', rfl⟩ := hex; have HO' : Hid (w5.ownsRow W.heap.size 178 3 (.slice sa' (ys.length + 1) sc') (ys.length + 1) (repCells (ys ++ [(⟨yh, yc, yt⟩ : R3)]))) := (by show World.ownsRow _ _ _ _ _ _ _; rw [repCells_snoc]; exact hown'); clear hown' hgrow)
                go_roundw
                case rel => exact ⟨ys ++ [(⟨yh, yc, yt⟩ : R3)], sa', sc', by rw [List.length_append, List.length_singleton]; omega, by rw [List.length_append, List.length_singleton], HOKN.out, HVN.out, by rw [List.length_append, List.length_singleton]; exact HO'.out, hb5⟩
                case measure => simp [lenV]; omega
        · have HO : Hid (VouR n ts is gs out 2) := HVP.out 2 (.other HFU.out HLT.out (by rw [EG.out]; exact hm))
          by_cases hn : gn = nm
          · have hne : ga ≠ ask := fun e => hm ⟨hn, e⟩
            have dn := str_eq hn
            cases ask <;> cases ga
            · exact absurd rfl hne
            · go_wp2_with fail
              clear eW3
              go_region_held3 (fun w' => (w'.cell? ⟨w.heap.size + 1, 1, none⟩ = some (.slice (some ⟨b, off, none⟩) gs.length lc) /\ w'.cell? ⟨w2.heap.size, 3, none⟩ = some (.bool false) /\ w'.cell? ⟨w2.heap.size, 4, none⟩ = some (.string nm)) /\ w'.cell? ⟨b, off + ys.length * 3, none⟩ = some (.string gn) /\ w'.cell? ⟨b, off + ys.length * 3 + 1, none⟩ = some (.bool true))
                (first | assumption | (simp [*]; done))
                (fail)
              all_goals
                go_wp2_with fail
                go_ret
                exact ⟨HB3w.out.drew, 2, rfl, HO.out⟩
            · go_wp2_with fail
              clear eW3
              go_region_held3 (fun w' => (w'.cell? ⟨w.heap.size + 1, 1, none⟩ = some (.slice (some ⟨b, off, none⟩) gs.length lc) /\ w'.cell? ⟨w2.heap.size, 3, none⟩ = some (.bool true) /\ w'.cell? ⟨w2.heap.size, 4, none⟩ = some (.string nm)) /\ w'.cell? ⟨b, off + ys.length * 3, none⟩ = some (.string gn) /\ w'.cell? ⟨b, off + ys.length * 3 + 1, none⟩ = some (.bool false))
                (first | assumption | (simp [*]; done))
                (fail)
              all_goals
                go_wp2_with fail
                go_ret
                exact ⟨HB3w.out.drew, 2, rfl, HO.out⟩
            · exact absurd rfl hne
          · have dn := str_ne hn
            go_wp2_with fail
            clear eW3
            go_quiet (fail)
            go_wp2
            go_ret
            exact ⟨below_drewN HB3w.out _, 2, rfl, HO.out⟩
      · have hkI : ¬ (ys.length : Int) < (gs.length : Int) := by omega
        have e1 : decide ((gs.length : Int) <= (ys.length : Int)) = true := by simp; omega
        have e2 : decide (gs.length <= ys.length) = true := by simp; omega
        have HO : Hid (VouR n ts is gs out 2) := HVP.out 2 (.none HFU.out (by omega))
        go_wp2_with fail
        clear eW3
        go_quiet (fail)
        go_wp2
        go_ret
        exact ⟨below_drewN HB3w.out _, 2, rfl, HO.out⟩
end Go.Proofs.YtmeojnaoljgieaeGreatDoor
