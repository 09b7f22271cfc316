import Derived.Test.YtmeojnaoljgieaeGreatDoorVVoR
import Derived.Test.YtmeojnaoljgieaeGreatDoorVForm
namespace Go.Proofs.YtmeojnaoljgieaeGreatDoor
open Go.RowKit
set_option linter.unusedVariables false
set_option maxHeartbeats 8000000
set_option maxRecDepth 100000
def formB (c : Int) (t : ByteArray) : ByteArray := digB c.toNat ++ (⟨#[58]⟩ : ByteArray) ++ t
open Classical in
noncomputable def finP (n : Nat) (ts : List ByteArray) (out : ByteArray) (c : Int) (t : ByteArray) : Int := if Got n ts out /\ getA n ts out = formB c t then 0 else 4
theorem implForm_in (c : Int) (t : ByteArray) (w : World) (h0 : 0 <= c) (h5 : c <= 5) (ht : t.size <= 2000) : Calls Tryz.prog 15 #[.agg #[.int .i64 c, .string t, .slice none 0 0]] w fun e w' => e = .returned (.string (formB c t)) /\ Below w.heap.size w w' := by
  obtain ⟨m, rfl⟩ := Int.eq_ofNat_of_zero_le h0
  exact implForm_yes m t none 0 w (by omega) ht
theorem specForm_in (c : Int) (t : ByteArray) (w : World) (h0 : 0 <= c) (h5 : c <= 5) (ht : t.size <= 2000) : Calls Tryz.prog 117 #[.agg #[.int .i64 c, .string t, .slice none 0 0]] w fun e w' => e = .returned (.string (formB c t)) /\ Below w.heap.size w w' := by
  obtain ⟨m, rfl⟩ := Int.eq_ofNat_of_zero_le h0
  exact specForm_yes m t none 0 w (by omega) ht
theorem formB_size {c : Int} {t : ByteArray} (ht : t.size <= 2000) : (formB c t).size <= 2002 := by
  unfold formB
  rw [ByteArray.size_append, ByteArray.size_append, digB_size]
  show 1 + 1 + t.size <= 2002
  omega
theorem rx_size {n : Nat} {ts : List ByteArray} {ys : List R3} (h : ∀ i, i < ys.length -> repOk (rx ys i) = true) : ∀ i, i < ys.length -> (rx ys i).text.size <= 2000 := fun i hi => by
  have := h i hi
  simp only [repOk, Bool.and_eq_true, decide_eq_true_eq] at this
  exact this.1.1
theorem rx_snoc {ys : List R3} {y : R3} (h : ∀ i, i < ys.length -> repOk (rx ys i) = true) (hy : repOk y = true) : ∀ i, i < (ys ++ [y]).length -> repOk (rx (ys ++ [y]) i) = true := by
  intro i hi
  rw [List.length_append, List.length_singleton] at hi
  rcases Nat.lt_or_ge i ys.length with h1 | h1
  · have e : rx (ys ++ [y]) i = rx ys i := by
      unfold rx
      rw [List.getD_eq_getElem?_getD, List.getD_eq_getElem?_getD, List.getElem?_append_left h1]
    rw [e]; exact h i h1
  · obtain rfl : i = ys.length := by omega
    have := rx_mid ys [] y
    rw [List.append_nil] at this
    rw [this]; exact hy
/-- What Vouch says of a valid store and record. -/
def VouR (n : Nat) (ts : List ByteArray) (is : List I3) (gs : List G3) (out : ByteArray) (r : Int) : Prop := VouP is gs (tellP n ts) (finP n ts out) [] r
theorem VAt.zero {is : List I3} {ys : List R3} {B m : Nat} {cd : Value} {c : Int} {t : ByteArray} {ask : Bool} {nm : ByteArray} {st : Int} {w : World} (h : VAt is ys B m cd false c t ask nm st w) : c = 0 /\ t = ⟨#[]⟩ := by
  rcases h with ⟨h, _⟩ | ⟨_, h1, h2, _⟩
  · cases h
  · exact ⟨h1, h2⟩
theorem Gn.set6 {is : List I3} {ys : List R3} {B m T b : Nat} {cd : Value} {ov : Bool} {c : Int} {t : ByteArray} {ask : Bool} {nm : ByteArray} {st : Int} {w : World} {cs : Array Value} (h : Gn is ys B m T cd ov c t ask nm st w) (hb : w.heap[b]? = some (.cells cs 173 (0, 0))) (hc : cs.size = 6) (hT : T ≠ b) (v0 v1 v2 v3 v4 v5 : Value) : Gn is ys B m T cd ov c t ask nm st ((((((w.setCell ⟨b, 0, none⟩ v0).setCell ⟨b, 1, none⟩ v1).setCell ⟨b, 2, none⟩ v2).setCell ⟨b, 3, none⟩ v3).setCell ⟨b, 4, none⟩ v4).setCell ⟨b, 5, none⟩ v5) :=
  ⟨by rw [set6_ne hT]; exact h.1, h.2.1, h.2.2.1, Nat.lt_of_lt_of_le h.2.2.2.1 (below_set6 (B := 0) (Below.refl 0 w) (Nat.zero_le _) v0 v1 v2 v3 v4 v5).size, h.2.2.2.2.mono (fun ss pl st' lk k => (storeT hc hb v0 v1 v2 v3 v4 v5).2 _ _ _ _ _ _ _ k)⟩
theorem vouch_any (n g : Nat) (ta ra sa a la : Option Addr) (tc rn rc sc cap lc : Nat) (ts : List ByteArray) (is : List I3) (gs : List G3) (out : ByteArray) (w : World) (h1 : 1 <= n) (h8 : n <= 8) (hsh : ShelfAt w g n ta ra ts.length tc rn rc (.slice sa ts.length sc)) (hsm : Strs w sa (ts.map (sumB n))) (hT : Tab w) (hP : P10 w) (hc : Strs w ta ts) (hl : ts.length <= 1048576) (hs : ∀ i, i < ts.length -> (nx ts i).size <= 2002) (hasc : Asc (ts.map (sumB n))) (hv : progOk is = true) (hr : Row3 w a is) (hg : RowG w la gs) (hgl : gs.length <= 200) :
    Calls Tryz.prog 66 #[.pointer (some ⟨g, 0, none⟩), .agg #[.slice a is.length cap, .slice la gs.length lc, .string out]] w fun e w' => Below w.heap.size w w' /\ ∃ r : Int, e = .returned (.int .i64 r) /\ VouR n ts is gs out r := by
  obtain ⟨W, eW⟩ : ∃ W, (w.alloc (.cells #[.slice a is.length cap, .slice la gs.length lc, .string out] 63)) = W := ⟨_, rfl⟩
  have hb0 : Below w.heap.size w W := by rw [<- eW]; exact (Below.refl _ _).alloc (Nat.le_refl _) _
  have hWs : W.heap.size = w.heap.size + 1 := by rw [<- eW]; simp
  have HR0 : Hid (W.heap[w.heap.size]? = some (.cells #[.slice a is.length cap, .slice la gs.length lc, .string out] 63 (0, 0))) := by
    show W.heap[w.heap.size]? = _
    rw [<- eW]
    exact heap_new _ _
  have HSH : Hid (ShelfAt w g n ta ra ts.length tc rn rc (.slice sa ts.length sc)) := hsh
  have HSM : Hid (Strs w sa (ts.map (sumB n))) := hsm
  clear hsh hsm
  obtain ⟨p0, p1, p2, _⟩ := bk3 HR0.out
  have HWS : Hid (W.heap.size = w.heap.size + 1) := hWs
  have HB0 : Hid (Below w.heap.size w W) := hb0
  have HT : Hid (Tab w) := hT
  have HP : Hid (P10 w) := hP
  have HC : Hid (Strs w ta ts) := hc
  have HSZ : Hid (∀ i, i < ts.length -> (nx ts i).size <= 2002) := hs
  have HASC : Hid (Asc (ts.map (sumB n))) := hasc
  have HV : Hid (progOk is = true) := hv
  have HR : Hid (Row3 w a is) := hr
  have HG : Hid (RowG w la gs) := hg
  clear hT hP hc hs hasc hv hr hg hb0 hWs
  go_enter Tryz.func66, Tryz.ntmps66
  go_wp2_with fail
  clear eW
  refine (begin_any a cap is _ (HT.out.below HB0.out) (HP.out.below HB0.out) (HR.out.below HB0.out) HV.out).mono ?_
  rintro e w1 ⟨hb1, B, m, T, ov, c, t, ask, nm, st, hB0, hB1, rfl, hG⟩
  have HGN : Hid (Gn is [] B m T (.slice a is.length cap) ov c t ask nm st (w1.alloc (.cells #[.bool ov, .int .i64 c, .string t, .bool ask, .string nm, .int .i64 st] 173))) := hG.below ((Below.refl _ _).alloc (Nat.le_refl _) _)
  have HB1 : Hid (Below W.heap.size W (w1.alloc (.cells #[.bool ov, .int .i64 c, .string t, .bool ask, .string nm, .int .i64 st] 173))) := hb1.alloc hb1.size _
  have HTN : Hid ((w1.alloc (.cells #[.bool ov, .int .i64 c, .string t, .bool ask, .string nm, .int .i64 st] 173)).heap[w1.heap.size]? = some (.cells #[.bool ov, .int .i64 c, .string t, .bool ask, .string nm, .int .i64 st] 173 (0, 0))) := heap_new _ _
  have HIN : Hid (W.heap.size <= B /\ B <= w1.heap.size /\ m < w1.heap.size /\ T < w1.heap.size /\ 1 < B) := ⟨hB0, hB1, hG.2.2.2.1, blk_lt hG.1, by have := (HP.out.below HB0.out).two; omega⟩
  have q0 := cell_below (hb1.alloc hb1.size (.cells #[.bool ov, .int .i64 c, .string t, .bool ask, .string nm, .int .i64 st] 173)) p0
  have q1 := cell_below (hb1.alloc hb1.size (.cells #[.bool ov, .int .i64 c, .string t, .bool ask, .string nm, .int .i64 st] 173)) p1
  clear hG hb1 hB0 hB1 p0 p1 p2
  have HCB : Hid (∀ b off, a = some ⟨b, off, none⟩ -> b < B) := fun b off e => by
    have := (prog_len HV.out).1
    obtain ⟨b', off', e', c1, _, _⟩ := HR.out 0 (by omega)
    rw [e] at e'; cases e'
    have h1 := World.block_lt_of_cell? _ _ c1
    have h2 := HWS.out
    have h3 := HIN.out.1
    simp only at h1
    omega
  unfold turnV
  go_wp2_with fail
  go_loopw [22] (fun i wr => ∃ (ys : List R3) (ov : Bool) (c : Int) (t : ByteArray) (ask : Bool) (nm : ByteArray) (st : Int), ys.length <= gs.length /\ i = .int .i64 ys.length /\ Hid (∀ i, i < ys.length -> repOk (rx ys i) = true) /\ Hid (∀ r, VouP is gs (tellP n ts) (finP n ts out) ys r -> VouR n ts is gs out r) /\ Hid (Gn is ys B m T (.slice a is.length cap) ov c t ask nm st wr) /\ Hid (wr.heap[w1.heap.size]? = some (.cells #[.bool ov, .int .i64 c, .string t, .bool ask, .string nm, .int .i64 st] 173 (0, 0))) /\ Hid (Below W.heap.size W wr)) (fun i _ => gs.length - (intOf i).toNat)
  case atStart => exact ⟨[], ov, c, t, ask, nm, st, Nat.zero_le _, rfl, (fun i hi => by simp at hi : ∀ i, i < ([] : List R3).length -> repOk (rx [] i) = true), (fun r h => h : ∀ r, VouP is gs (tellP n ts) (finP n ts out) [] r -> VouR n ts is gs out r), HGN.out, HTN.out, HB1.out⟩
  case round =>
    clear HGN HTN HB1 q0 q1
    obtain ⟨ys, ov, c, t, ask, nm, st, hk, rfl, HOKS, HVP, HGN, HTN, HBW⟩ := hrel
    have HBw : Hid (Below w.heap.size w wr) := HB0.out.trans (HBW.out.mono (by have := HWS.out; omega))
    by_cases hlt : ys.length < gs.length
    · have hkI : (ys.length : Int) < (gs.length : Int) := by omega
      obtain ⟨b, off, rfl, c1, c2, c3⟩ := (HG.out.below HBw.out) ys.length hlt
      obtain ⟨g, eg⟩ : ∃ g, gx gs ys.length = g := ⟨_, rfl⟩
      rw [eg] at c1 c2 c3
      have EG : Hid (gx gs ys.length = g) := eg
      have HLT : Hid (ys.length < gs.length) := hlt
      clear eg
      obtain ⟨gn, ga, gu⟩ := g
      simp only at c1 c2 c3
      have hbA : Below wr.heap.size wr (wr.alloc (.cells #[.string gn, .bool ga, .string gu] 170)) := (Below.refl _ _).alloc (Nat.le_refl _) _
      have HBA : Hid (Below W.heap.size W (wr.alloc (.cells #[.string gn, .bool ga, .string gu] 170))) := HBW.out.alloc HBW.out.size _
      have HBAw : Hid (Below w.heap.size w (wr.alloc (.cells #[.string gn, .bool ga, .string gu] 170))) := HBw.out.alloc HBw.out.size _
      have HTA : Hid ((wr.alloc (.cells #[.string gn, .bool ga, .string gu] 170)).heap[w1.heap.size]? = some (.cells #[.bool ov, .int .i64 c, .string t, .bool ask, .string nm, .int .i64 st] 173 (0, 0))) := blk_keep hbA HTN.out
      have HGA : Hid (Gn is ys B m T (.slice a is.length cap) ov c t ask nm st (wr.alloc (.cells #[.string gn, .bool ga, .string gu] 170))) := HGN.out.below hbA
      obtain ⟨k0, k1, k2, k3, k4, k5, kf⟩ := six_cells HTA.out
      clear hbA
      cases ov
      · obtain ⟨rfl, rfl⟩ := HGN.out.2.2.2.2.zero
        obtain ⟨n', hful⟩ : ∃ n', Full is ys s00 (.wait ask nm n') := by
          rcases HGN.out.2.2.2.2.full with ⟨h, _⟩ | ⟨_, h⟩
          · cases h
          · exact h
        have HFU : Hid (Full is ys s00 (.wait ask nm n')) := hful
        clear hful
        by_cases hm : gn = nm /\ ga = ask
        · obtain ⟨rfl, rfl⟩ := hm
          go_wp2_with fail
          refine (replyOf_any n g ta ra sa tc rn rc sc ts ⟨gn, ga, gu⟩ _ h1 h8 (HSH.out.below HBAw.out) (HSM.out.below HBAw.out) (HC.out.below HBAw.out) hl HSZ.out HASC.out).mono ?_
          rintro e w2 ⟨hb2, y, told, rfl, hrep⟩
          have HB2 : Hid (Below W.heap.size W w2) := bt HBA.out hb2
          have HB2w : Hid (Below w.heap.size w w2) := bt HBAw.out hb2
          have HT2 : Hid (w2.heap[w1.heap.size]? = some (.cells #[.bool false, .int .i64 0, .string ⟨#[]⟩, .bool ga, .string gn, .int .i64 st] 173 (0, 0))) := blk_keep hb2 HTA.out
          have HG2 : Hid (Gn is ys B m T (.slice a is.length cap) false 0 ⟨#[]⟩ ga gn st w2) := HGA.out.below hb2
          clear hb2 c1 c2 c3 k0 k1 k2 k3 k4 k5 kf
          rcases hrep with ⟨rfl, htl⟩ | ⟨rfl, y', htl, hyt, hyy⟩
          · have HO : Hid (VouR n ts is gs out 3) := HVP.out 3 (.untold HFU.out HLT.out (by rw [EG.out]; exact ⟨rfl, rfl⟩) (by rw [EG.out]; exact htl))
            clear htl
            go_wp2_with fail
            go_ret
            exact ⟨HB2w.out.alloc HB2w.out.size _, 3, rfl, HO.out⟩
          · have HVN : Hid (∀ r, VouP is gs (tellP n ts) (finP n ts out) (ys ++ [y']) r -> VouR n ts is gs out r) := fun r h => HVP.out r (.go HFU.out HLT.out (by rw [EG.out]; exact ⟨rfl, rfl⟩) (by rw [EG.out]; exact htl) h)
            have HOKN : Hid (∀ i, i < (ys ++ [y']).length -> repOk (rx (ys ++ [y']) i) = true) := rx_snoc HOKS.out (tell_ok htl)
            obtain ⟨yh, yc, yt⟩ := y
            simp only at hyt hyy ⊢
            have hb3 : Below w2.heap.size w2 (w2.alloc (.cells #[.bool yh, .int .i64 yc, .string yt] 178)) := (Below.refl _ _).alloc (Nat.le_refl _) _
            have HB3 : Hid (Below W.heap.size W (w2.alloc (.cells #[.bool yh, .int .i64 yc, .string yt] 178))) := bt HB2.out hb3
            have HB3w : Hid (Below w.heap.size w (w2.alloc (.cells #[.bool yh, .int .i64 yc, .string yt] 178))) := bt HB2w.out hb3
            have HT3 : Hid ((w2.alloc (.cells #[.bool yh, .int .i64 yc, .string yt] 178)).heap[w1.heap.size]? = some (.cells #[.bool false, .int .i64 0, .string ⟨#[]⟩, .bool ga, .string gn, .int .i64 st] 173 (0, 0))) := blk_keep hb3 HT2.out
            have hsz3 : w1.heap.size < (w2.alloc (.cells #[.bool yh, .int .i64 yc, .string yt] 178)).heap.size := blk_lt HT3.out
            have HON : Hid (∀ _ : Unit, Calls Tryz.prog 178 #[.agg #[.bool yh, .int .i64 yc, .string yt], .pointer (some ⟨m, 0, none⟩), .pointer (some ⟨T, 0, none⟩)] (w2.alloc (.cells #[.bool yh, .int .i64 yc, .string yt] 178)) fun e w' => (Below B (w2.alloc (.cells #[.bool yh, .int .i64 yc, .string yt] 178)) w' /\ ∀ b cs X, X ≠ 9 -> b ≠ m -> b ≠ T -> (w2.alloc (.cells #[.bool yh, .int .i64 yc, .string yt] 178)).heap[b]? = some (.cells cs X (0, 0)) -> w'.heap[b]? = some (.cells cs X (0, 0))) /\ ∃ ov c t ask' nm' st', e = .returned (turnV ov c t ask' nm' st') /\ Gn is (ys ++ [y']) B m T (.slice a is.length cap) ov c t ask' nm' st' w') := fun _ =>
              goOn_any B m T is a cap ys ga gn st ⟨yh, yc, yt⟩ y' _ (HG2.out.below hb3) (by have := HIN.out; omega) HIN.out.2.2.2.2 ⟨HR.out.below HB3w.out, HCB.out⟩ (HT.out.below HB3w.out) (HP.out.below HB3w.out) HV.out hyt hyy
            clear hb3 htl hyt hyy hsz3
            go_wp2_with fail
            refine (HON.out ()).mono ?_
            rintro e w4 ⟨⟨hb4, hk4⟩, ov', c', t', ask', nm', st', rfl, hG4⟩
            have HT4 : Hid (w4.heap[w1.heap.size]? = some (.cells #[.bool false, .int .i64 0, .string ⟨#[]⟩, .bool ga, .string gn, .int .i64 st] 173 (0, 0))) := hk4 _ _ 173 (by decide) (by have := HIN.out; omega) (by have := HIN.out; omega) HT3.out
            have HB4 : Hid (Below W.heap.size W w4) := HB3.out.trans (hb4.mono HIN.out.1)
            have HG4 : Hid (Gn is (ys ++ [y']) B m T (.slice a is.length cap) ov' c' t' ask' nm' st' w4) := hG4
            obtain ⟨j0, j1, j2, j3, j4, j5, jf⟩ := six_cells HT4.out
            have HG5 : Hid _ := HG4.out.set6 HT4.out rfl (by have := HIN.out; omega) (.bool ov') (.int .i64 c') (.string t') (.bool ask') (.string nm') (.int .i64 st')
            have HT5 : Hid _ := (storeT rfl HT4.out (.bool ov') (.int .i64 c') (.string t') (.bool ask') (.string nm') (.int .i64 st')).1
            have HB5 : Hid _ := below_set6 HB4.out (b := w1.heap.size) (by have := HIN.out; omega) (.bool ov') (.int .i64 c') (.string t') (.bool ask') (.string nm') (.int .i64 st')
            clear hb4 hk4 hG4 HON
            unfold turnV
            go_wp2_with fail
            go_roundw
            case rel => exact ⟨ys ++ [y'], ov', c', t', ask', nm', st', by rw [List.length_append, List.length_singleton]; omega, by rw [List.length_append, List.length_singleton]; go_num, HOKN.out, HVN.out, HG5.out, HT5.out, HB5.out⟩
            case measure => simp [intOf]; omega
        · have HO : Hid (VouR n ts is gs out 2) := HVP.out 2 (.other HFU.out HLT.out (by rw [EG.out]; exact hm))
          by_cases hn : nm.toList = gn.toList
          · have hne : ask ≠ ga := fun e => hm ⟨WideShapes.bytes_inj (by rw [ByteArray.toList_eq, ByteArray.toList_eq] at hn; exact hn.symm), e.symm⟩
            cases ask <;> cases ga
            · exact absurd rfl hne
            · go_wp2_with fail
              go_ret
              exact ⟨HBAw.out, 2, rfl, HO.out⟩
            · go_wp2_with fail
              go_ret
              exact ⟨HBAw.out, 2, rfl, HO.out⟩
            · exact absurd rfl hne
          · go_wp2_with fail
            go_ret
            exact ⟨HBAw.out, 2, rfl, HO.out⟩
      · obtain ⟨n', hful⟩ : ∃ n', Full is ys s00 (.over c t n') := by
          rcases HGN.out.2.2.2.2.full with ⟨_, h⟩ | ⟨h, _⟩
          · exact h
          · cases h
        have HO : Hid (VouR n ts is gs out 2) := HVP.out 2 (.few hful HLT.out)
        clear hful
        go_wp2_with fail
        go_ret
        exact ⟨HBAw.out, 2, rfl, HO.out⟩
    · have hkI : ¬ (ys.length : Int) < (gs.length : Int) := by omega
      have HGE : Hid (gs.length <= ys.length) := by show gs.length <= ys.length; omega
      obtain ⟨k0, k1, k2, k3, k4, k5, kf⟩ := six_cells HTN.out
      obtain ⟨p0, p1, p2, _⟩ := bk3 ((HBW.out.block w.heap.size (by have := HWS.out; omega)).trans HR0.out)
      cases ov
      · obtain ⟨n', hful⟩ : ∃ n', Full is ys s00 (.wait ask nm n') := by
          rcases HGN.out.2.2.2.2.full with ⟨h, _⟩ | ⟨_, h⟩
          · cases h
          · exact h
        have HO : Hid (VouR n ts is gs out 2) := HVP.out 2 (.none hful HGE.out)
        clear hful
        go_wp2_with fail
        go_ret
        exact ⟨HBw.out, 2, rfl, HO.out⟩
      · obtain ⟨n', hful⟩ : ∃ n', Full is ys s00 (.over c t n') := by
          rcases HGN.out.2.2.2.2.full with ⟨_, h⟩ | ⟨h, _⟩
          · exact h
          · cases h
        have HO : Hid (VouR n ts is gs out (finP n ts out c t)) := HVP.out _ (.fin hful HGE.out)
        obtain ⟨ht, hc0, hc5⟩ := Full.size HV.out (rx_size (n := n) (ts := ts) HOKS.out) hful (s00_ok is) rfl
        clear hful
        go_wp2_with fail
        refine (get_any n g ta ra sa tc rn rc sc ts out _ (HSH.out.below HBw.out) (HSM.out.below HBw.out) (HC.out.below HBw.out) hl HASC.out).mono ?_
        rintro e w2 ⟨hw2, A, ok, rfl, hgo⟩
        have hb2 : Below wr.heap.size wr w2 := by rw [<- hw2]; exact Below.refl _ _
        clear hw2
        obtain ⟨eA, hok⟩ := getA_of HASC.out hgo
        have HB2w : Hid (Below w.heap.size w w2) := bt HBw.out hb2
        have r1 := cell_below hb2 k1
        have r2 := cell_below hb2 k2
        have EA : Hid (getA n ts out = A) := eA.symm
        clear hb2 k0 k1 k2 k3 k4 k5 kf p0 p1 p2 hgo eA
        cases ok
        · have HR4 : Hid (VouR n ts is gs out 4) := by
            have h := HO.out
            unfold finP at h
            rw [if_neg (fun h => absurd (hok.2 h.1) (by decide))] at h
            exact h
          go_wp2_with fail
          go_ret
          exact ⟨HB2w.out, 4, rfl, HR4.out⟩
        · have hgot := hok.1 rfl
          have hfs := formB_size (c := c) ht
          have HFM : Hid (∀ V : World, Calls Tryz.prog 15 #[.agg #[.int .i64 c, .string t, .slice none 0 0]] V fun e w' => e = .returned (.string (formB c t)) /\ Below V.heap.size V w') := fun V => implForm_in c t V hc0 hc5 ht
          have HYES : Hid (A = formB c t -> VouR n ts is gs out 0) := fun q => by
            have h := HO.out
            unfold finP at h
            rw [if_pos ⟨hgot, by rw [EA.out]; exact q⟩] at h
            exact h
          have HNO : Hid (¬ A = formB c t -> VouR n ts is gs out 4) := fun q => by
            have h := HO.out
            unfold finP at h
            rw [if_neg (fun h => q (by rw [<- EA.out]; exact h.2))] at h
            exact h
          clear hok hgot
          generalize formB c t = f at *
          by_cases q : A = f
          · have HZ : Hid (VouR n ts is gs out 0) := HYES.out q
            have dq := str_eq q
            clear q HYES HNO
            go_wp2_with fail
            refine (HFM.out _).mono ?_
            rintro e w3 ⟨rfl, hb3⟩
            go_wp2_with fail
            go_ret
            exact ⟨bt HB2w.out hb3, 0, rfl, HZ.out⟩
          · have HZ : Hid (VouR n ts is gs out 4) := HNO.out q
            have dq := str_ne q
            clear q HYES HNO
            go_wp2_with fail
            refine (HFM.out _).mono ?_
            rintro e w3 ⟨rfl, hb3⟩
            go_wp2_with fail
            go_ret
            exact ⟨bt HB2w.out hb3, 4, rfl, HZ.out⟩
end Go.Proofs.YtmeojnaoljgieaeGreatDoor
