import Derived.Test.YtmeojnaoljgieaeGreatDoorVVoA
import Derived.Test.YtmeojnaoljgieaeGreatDoorVShelf
import Derived.Deep.RegionWith
import Derived.Deep.RegionHeld3
namespace Go.Proofs.YtmeojnaoljgieaeGreatDoor
open Go.RowKit
set_option linter.unusedVariables false
set_option maxHeartbeats 8000000
set_option maxRecDepth 100000
theorem set6_ne {w : World} {b b' : Nat} (h : b' ≠ b) (v0 v1 v2 v3 v4 v5 : Value) : ((((((w.setCell ⟨b, 0, none⟩ v0).setCell ⟨b, 1, none⟩ v1).setCell ⟨b, 2, none⟩ v2).setCell ⟨b, 3, none⟩ v3).setCell ⟨b, 4, none⟩ v4).setCell ⟨b, 5, none⟩ v5).heap[b']? = w.heap[b']? := by
  rw [Below.heap_setCell _ ⟨b, 5, none⟩ _ b' h, Below.heap_setCell _ ⟨b, 4, none⟩ _ b' h, Below.heap_setCell _ ⟨b, 3, none⟩ _ b' h, Below.heap_setCell _ ⟨b, 2, none⟩ _ b' h, Below.heap_setCell _ ⟨b, 1, none⟩ _ b' h, Below.heap_setCell _ ⟨b, 0, none⟩ _ b' h]
theorem below_set6 {B : Nat} {w w' : World} (hb : Below B w w') {b : Nat} (h : B <= b) (v0 v1 v2 v3 v4 v5 : Value) : Below B w ((((((w'.setCell ⟨b, 0, none⟩ v0).setCell ⟨b, 1, none⟩ v1).setCell ⟨b, 2, none⟩ v2).setCell ⟨b, 3, none⟩ v3).setCell ⟨b, 4, none⟩ v4).setCell ⟨b, 5, none⟩ v5) :=
  (((((hb.setCell (p := ⟨b, 0, none⟩) h _).setCell (p := ⟨b, 1, none⟩) h _).setCell (p := ⟨b, 2, none⟩) h _).setCell (p := ⟨b, 3, none⟩) h _).setCell (p := ⟨b, 4, none⟩) h _).setCell (p := ⟨b, 5, none⟩) h _
theorem six_cells {w : World} {b : Nat} {v0 v1 v2 v3 v4 v5 : Value} (h : w.heap[b]? = some (.cells #[v0, v1, v2, v3, v4, v5] 173 (0, 0))) : w.cell? ⟨b, 0, none⟩ = some v0 /\ w.cell? ⟨b, 1, none⟩ = some v1 /\ w.cell? ⟨b, 2, none⟩ = some v2 /\ w.cell? ⟨b, 3, none⟩ = some v3 /\ w.cell? ⟨b, 4, none⟩ = some v4 /\ w.cell? ⟨b, 5, none⟩ = some v5 /\ ∀ j, w.frozen? ⟨b, j, none⟩ = false := by
  refine ⟨?_, ?_, ?_, ?_, ?_, ?_, fun j => Lib.frozen_of_heap h j⟩ <;> rw [Lib.cell_of_heap h] <;> rfl
theorem P10.two {w : World} (h : P10 w) : 1 < w.heap.size := by
  unfold P10 Lib.TabIs World.var? at h
  rw [show Tryz.prog.globalNamed "internal/strconv.uint64pow10" = some 1 from by kernel_rfl] at h
  simp only [Option.bind_some] at h
  rcases Nat.lt_or_ge 1 w.heap.size with h' | h'
  · exact h'
  · rw [Array.getElem?_eq_none h'] at h; cases h
/-- What is captured: the machine m and the turn T behind the replies ys. -/
def Gn (is : List I3) (ys : List R3) (B m T : Nat) (cd : Value) (ov : Bool) (c : Int) (t : ByteArray) (ask : Bool) (nm : ByteArray) (st : Int) (w : World) : Prop :=
  w.heap[T]? = some (.cells #[.bool ov, .int .i64 c, .string t, .bool ask, .string nm, .int .i64 st] 173 (0, 0)) /\ T ≠ m /\ B <= T /\ m < w.heap.size /\ VAt is ys B m cd ov c t ask nm st w
theorem Gn.below {is : List I3} {ys : List R3} {B m T : Nat} {cd : Value} {ov : Bool} {c : Int} {t : ByteArray} {ask : Bool} {nm : ByteArray} {st : Int} {w w' : World} (h : Gn is ys B m T cd ov c t ask nm st w) (hb : Below w.heap.size w w') : Gn is ys B m T cd ov c t ask nm st w' :=
  ⟨by rw [hb.block _ (blk_lt h.1)]; exact h.1, h.2.1, h.2.2.1, Nat.lt_of_lt_of_le h.2.2.2.1 hb.size, h.2.2.2.2.mono (fun _ _ _ _ k => k.below hb)⟩
theorem begin_any (a : Option Addr) (cap : Nat) (is : List I3) (w : World) (hT : Tab w) (hP : P10 w) (hc : Row3 w a is) (hv : progOk is = true) :
    Calls Tryz.prog 127 #[.agg #[.slice a is.length cap]] w fun e w' => Below w.heap.size w w' /\ ∃ B m T ov c t ask nm st, w.heap.size <= B /\ B <= w'.heap.size /\ e = .returned (.tuple #[turnV ov c t ask nm st, .func (.func 178) #[] #[.pointer (some ⟨m, 0, none⟩), .pointer (some ⟨T, 0, none⟩)]]) /\ Gn is [] B m T (.slice a is.length cap) ov c t ask nm st w' := by
  have hP2 := hP.two
  obtain ⟨W, eW⟩ : ∃ W, ((w.alloc (.cells #[.slice a is.length cap] 60)).alloc (.cells #[.bool false, .int .i64 0, .string ⟨#[]⟩, .bool false, .string ⟨#[]⟩, .int .i64 0] 173)) = W := ⟨_, rfl⟩
  have hb0 : Below w.heap.size w W := by rw [<- eW]; exact ((Below.refl _ _).alloc (Nat.le_refl _) _).alloc (by simp) _
  have hWs : W.heap.size = w.heap.size + 1 + 1 := by rw [<- eW]; simp
  have x0 : W.cell? ⟨w.heap.size, 0, none⟩ = some (.slice a is.length cap) := by rw [<- eW]; simp [go_sem]
  have HR : Hid (W.heap[w.heap.size + 1]? = some (.cells #[.bool false, .int .i64 0, .string ⟨#[]⟩, .bool false, .string ⟨#[]⟩, .int .i64 0] 173 (0, 0))) := by
    show W.heap[w.heap.size + 1]? = _
    rw [<- eW]
    have h := heap_new (w.alloc (.cells #[.slice a is.length cap] 60)) (.cells #[.bool false, .int .i64 0, .string ⟨#[]⟩, .bool false, .string ⟨#[]⟩, .int .i64 0] 173)
    rw [show (w.alloc (.cells #[.slice a is.length cap] 60)).heap.size = w.heap.size + 1 from by simp] at h
    exact h
  have hbm : Below W.heap.size W (W.alloc (.cells #[.slice none 0 0, .slice a is.length cap, .int .i64 0, .int .i64 0, .int .i64 0] 245)) := (Below.refl _ _).alloc (Nat.le_refl _) _
  have HMK : Hid (MOk W.heap.size (W.alloc (.cells #[.slice none 0 0, .slice a is.length cap, .int .i64 0, .int .i64 0, .int .i64 0] 245)) W.heap.size s00.stack (.slice a is.length cap) s00.pl s00.steps s00.looks) := ⟨Nat.le_refl _, .slice none 0 0, heap_new _ _, ⟨by simp [s00, strV], Or.inl ⟨rfl, rfl⟩⟩⟩
  have HCB : Hid (CodeB W.heap.size W a is) := ⟨hc.below hb0, fun b off e => by
    have := (prog_len hv).1
    obtain ⟨b', off', e', c1, _, _⟩ := hc.below hb0 0 (by omega)
    rw [e] at e'; cases e'
    exact World.block_lt_of_cell? _ _ c1⟩
  have HT2 : Hid (Tab W) := hT.below hb0
  have HP2 : Hid (P10 W) := hP.below hb0
  have HBM : Hid (Below W.heap.size W (W.alloc (.cells #[.slice none 0 0, .slice a is.length cap, .int .i64 0, .int .i64 0, .int .i64 0] 245))) := hbm
  have HV : Hid (progOk is = true) := hv
  have HB0 : Hid (Below w.heap.size w W) := hb0
  have HWS : Hid (W.heap.size = w.heap.size + 1 + 1) := hWs
  clear hT hP hc hv hbm hb0 hWs
  go_enter Tryz.func127, Tryz.ntmps127
  go_wp2_with fail
  clear eW
  refine (run_any W.heap.size W.heap.size is a cap s00 _ HMK.out (by simp) (by have := HWS.out; omega) (HCB.out.belowB HBM.out) (HT2.out.below HBM.out) (HP2.out.below HBM.out) HV.out (s00_ok is)).mono ?_
  rintro e w3 ⟨hk3, hpost⟩
  obtain ⟨ov, c, t, ask, nm, st, rfl, hat⟩ := run_vat HV.out hpost
  have hz3 : W.heap.size + 1 <= w3.heap.size := by have := hk3.size; simpa using this
  have HB3 : Hid (Below W.heap.size W w3) := HBM.out.trans hk3.below
  have HAT : Hid (VAt is [] W.heap.size W.heap.size (.slice a is.length cap) ov c t ask nm st (w3.alloc (.cells #[.bool ov, .int .i64 c, .string t, .bool ask, .string nm, .int .i64 st] 173))) := hat.mono (fun _ _ _ _ k => k.alloc _)
  have HR4 : Hid ((w3.alloc (.cells #[.bool ov, .int .i64 c, .string t, .bool ask, .string nm, .int .i64 st] 173)).heap[w.heap.size + 1]? = some (.cells #[.bool false, .int .i64 0, .string ⟨#[]⟩, .bool false, .string ⟨#[]⟩, .int .i64 0] 173 (0, 0))) := by
    show (w3.alloc (.cells #[.bool ov, .int .i64 c, .string t, .bool ask, .string nm, .int .i64 st] 173)).heap[w.heap.size + 1]? = _
    have := HWS.out; rw [Lib.alloc_old w3 _ _ (by omega), HB3.out.block _ (by omega)]; exact HR.out
  have HTN : Hid ((w3.alloc (.cells #[.bool ov, .int .i64 c, .string t, .bool ask, .string nm, .int .i64 st] 173)).heap[w3.heap.size]? = some (.cells #[.bool ov, .int .i64 c, .string t, .bool ask, .string nm, .int .i64 st] 173 (0, 0))) := heap_new _ _
  have HB4 : Hid (Below W.heap.size W (w3.alloc (.cells #[.bool ov, .int .i64 c, .string t, .bool ask, .string nm, .int .i64 st] 173))) := HB3.out.alloc (by omega) _
  obtain ⟨z0, z1, z2, z3, z4, z5, zf⟩ := six_cells HR4.out
  clear hat hpost hk3 x0 HR
  unfold turnV
  go_wp2_with fail
  obtain ⟨n1, n2⟩ := storeT rfl HR4.out (.bool ov) (.int .i64 c) (.string t) (.bool ask) (.string nm) (.int .i64 st)
  obtain ⟨y0, y1, y2, y3, y4, y5, yf⟩ := six_cells n1
  refine bodyPost_ret (v := .tuple #[turnV ov c t ask nm st, .func (.func 178) #[] #[.pointer (some ⟨W.heap.size, 0, none⟩), .pointer (some ⟨w3.heap.size, 0, none⟩)]]) (by simp [results, Tryz.results127, go_sem, turnV, z0, z1, z2, z3, z4, z5]) rfl ⟨below_set6 (HB0.out.trans (HB4.out.mono (by have := HWS.out; omega))) (by omega) _ _ _ _ _ _, W.heap.size, W.heap.size, w3.heap.size, ov, c, t, ask, nm, st, by have := HWS.out; omega, by simp; omega, rfl, ?_, by omega, by omega, by simp; omega, ?_⟩
  · rw [set6_ne (by have := HWS.out; omega)]; exact HTN.out
  · exact HAT.out.mono (fun ss pl st' lk k => n2 _ _ _ _ _ _ _ k)
theorem goOn_any (B m T : Nat) (is : List I3) (a : Option Addr) (cap : Nat) (ys : List R3) (ask : Bool) (nm : ByteArray) (st : Int) (y y' : R3) (w : World) (hG : Gn is ys B m T (.slice a is.length cap) false 0 ⟨#[]⟩ ask nm st w) (hB : B <= w.heap.size) (hB1 : 1 < B) (hcode : CodeB B w a is) (hT : Tab w) (hP : P10 w) (hv : progOk is = true) (hy : y.text.size <= 2000) (hyy : ∀ nm s, ansP ask nm y s = ansP ask nm y' s) :
    Calls Tryz.prog 178 #[.agg #[.bool y.has, .int .i64 y.code, .string y.text], .pointer (some ⟨m, 0, none⟩), .pointer (some ⟨T, 0, none⟩)] w fun e w' => (Below B w w' /\ ∀ b cs X, X ≠ 9 -> b ≠ m -> b ≠ T -> w.heap[b]? = some (.cells cs X (0, 0)) -> w'.heap[b]? = some (.cells cs X (0, 0))) /\ ∃ ov c t ask' nm' st', e = .returned (turnV ov c t ask' nm' st') /\ Gn is (ys ++ [y']) B m T (.slice a is.length cap) ov c t ask' nm' st' w' := by
  obtain ⟨hTb, hTm, hBT, hml, hV⟩ := hG
  rcases hV with ⟨h0, _⟩ | ⟨_, _, _, s1, s', rfl, g1, g2, g3, g4, g5⟩
  · cases h0
  obtain ⟨q1, q2, q3, q4, q5, q6, q7, q8⟩ := step0_look g1
  have h50 : s'.stack.length < 50 := by rw [q7, restL_length]; have := g3.len; omega
  have hTl := blk_lt hTb
  obtain ⟨W, eW⟩ : ∃ W, ((w.alloc (.cells #[.bool y.has, .int .i64 y.code, .string y.text] 178)).alloc (.cells #[.bool false, .int .i64 0, .string ⟨#[]⟩, .bool false, .string ⟨#[]⟩, .int .i64 0] 173)) = W := ⟨_, rfl⟩
  have hb0 : Below w.heap.size w W := by rw [<- eW]; exact ((Below.refl _ _).alloc (Nat.le_refl _) _).alloc (by simp) _
  have hWs : W.heap.size = w.heap.size + 1 + 1 := by rw [<- eW]; simp
  have x0 : W.cell? ⟨w.heap.size, 0, none⟩ = some (.bool y.has) := by rw [<- eW]; simp [go_sem]
  have x1 : W.cell? ⟨w.heap.size, 1, none⟩ = some (.int .i64 y.code) := by rw [<- eW]; simp [go_sem]
  have x2 : W.cell? ⟨w.heap.size, 2, none⟩ = some (.string y.text) := by rw [<- eW]; simp [go_sem]
  have HR : Hid (W.heap[w.heap.size + 1]? = some (.cells #[.bool false, .int .i64 0, .string ⟨#[]⟩, .bool false, .string ⟨#[]⟩, .int .i64 0] 173 (0, 0))) := by
    show W.heap[w.heap.size + 1]? = _
    rw [<- eW]
    have h := heap_new (w.alloc (.cells #[.bool y.has, .int .i64 y.code, .string y.text] 178)) (.cells #[.bool false, .int .i64 0, .string ⟨#[]⟩, .bool false, .string ⟨#[]⟩, .int .i64 0] 173)
    rw [show (w.alloc (.cells #[.bool y.has, .int .i64 y.code, .string y.text] 178)).heap.size = w.heap.size + 1 from by simp] at h
    exact h
  have HTW : Hid (W.heap[T]? = some (.cells #[.bool false, .int .i64 0, .string ⟨#[]⟩, .bool ask, .string nm, .int .i64 s'.steps] 173 (0, 0))) := by
    show W.heap[T]? = _
    rw [hb0.block _ hTl]; exact hTb
  have HKB : Hid (KB B m w W) := KB.old hb0 hB
  have HAn : Hid (∀ _ : Unit, Calls Tryz.prog 179 #[.pointer (some ⟨m, 0, none⟩), turnV false 0 ⟨#[]⟩ ask nm s'.steps, .agg #[.bool y.has, .int .i64 y.code, .string y.text]] W fun e w' => AnsPost is ask nm y s' B m (.slice a is.length cap) W e w') := fun _ =>
    answer_any B m is a cap ask nm y s' W (g5.below hb0) (by omega) hB1 (hcode.belowB (hb0.mono hB)) (hT.below hb0) (hP.below hb0) hv g4 (by omega) h50 hy
  have HG : Hid (step0 is s1 = .look ask nm s' /\ RQ is ys s1 /\ StOk is s1 /\ StOk is s' /\ ansP ask nm y s' = ansP ask nm y' s') := ⟨g1, g2, g3, g4, hyy nm s'⟩
  have HV : Hid (progOk is = true) := hv
  have HWS : Hid (W.heap.size = w.heap.size + 1 + 1) := hWs
  have HIN : Hid (B <= T /\ T ≠ m /\ T < w.heap.size /\ B <= w.heap.size) := ⟨hBT, hTm, hTl, hB⟩
  obtain ⟨k0, k1, k2, k3, k4, k5, kf⟩ := six_cells HTW.out
  obtain ⟨_, _, _, _, _, _, _, _, hmw, _, _⟩ := g5.all
  clear g1 g2 g3 g4 g5 hcode hT hP hv hb0 hTb q1 q2 q3 q4 q5 q6 q7 q8 h50 hWs
  unfold turnV at HAn
  go_enter Tryz.func178, Tryz.ntmps178
  go_wp2_with fail
  clear eW
  refine (HAn.out ()).mono ?_
  rintro e w4 ⟨hk4, hpost⟩
  obtain ⟨ov', c', t', ask', nm', st', rfl, hnext⟩ := ans_vat HV.out HG.out.1 HG.out.2.1 hy HG.out.2.2.2.2 HG.out.2.2.1 HG.out.2.2.2.1 hpost
  have hT4 : w4.heap[T]? = some (.cells #[.bool false, .int .i64 0, .string ⟨#[]⟩, .bool ask, .string nm, .int .i64 s'.steps] 173 (0, 0)) := hk4.keep _ _ 173 (by decide) HIN.out.2.1 HTW.out
  have hR4 : w4.heap[w.heap.size + 1]? = some (.cells #[.bool false, .int .i64 0, .string ⟨#[]⟩, .bool false, .string ⟨#[]⟩, .int .i64 0] 173 (0, 0)) := hk4.keep _ _ 173 (by decide) (by omega) HR.out
  obtain ⟨n1, n2⟩ := storeT rfl hT4 (.bool ov') (.int .i64 c') (.string t') (.bool ask') (.string nm') (.int .i64 st')
  have hTR : T ≠ w.heap.size + 1 := by have := HIN.out.2.2.1; omega
  have hTR' : w.heap.size + 1 ≠ T := fun e => hTR e.symm
  have hR5 := (set6_ne (w := w4) (b := T) (b' := w.heap.size + 1) (fun e => hTR e.symm) (.bool ov') (.int .i64 c') (.string t') (.bool ask') (.string nm') (.int .i64 st')).trans hR4
  obtain ⟨r1, r2⟩ := storeT rfl hR5 (.bool ov') (.int .i64 c') (.string t') (.bool ask') (.string nm') (.int .i64 st')
  have HKB2 : Hid (KB B m w w4) := HKB.out.trans hk4
  have HML : Hid (m < ((((((((((((w4.setCell ⟨T, 0, none⟩ (.bool ov')).setCell ⟨T, 1, none⟩ (.int .i64 c')).setCell ⟨T, 2, none⟩ (.string t')).setCell ⟨T, 3, none⟩ (.bool ask')).setCell ⟨T, 4, none⟩ (.string nm')).setCell ⟨T, 5, none⟩ (.int .i64 st')).setCell ⟨w.heap.size + 1, 0, none⟩ (.bool ov')).setCell ⟨w.heap.size + 1, 1, none⟩ (.int .i64 c')).setCell ⟨w.heap.size + 1, 2, none⟩ (.string t')).setCell ⟨w.heap.size + 1, 3, none⟩ (.bool ask')).setCell ⟨w.heap.size + 1, 4, none⟩ (.string nm')).setCell ⟨w.heap.size + 1, 5, none⟩ (.int .i64 st')).heap.size) := Nat.lt_of_lt_of_le hmw (below_set6 (below_set6 HKB2.out.below HIN.out.1 _ _ _ _ _ _) (b := w.heap.size + 1) (by have := HIN.out.2.2.2; omega) _ _ _ _ _ _).size
  have HNX : Hid (VAt is (ys ++ [y']) B m (.slice a is.length cap) ov' c' t' ask' nm' st' w4) := hnext
  obtain ⟨j0, j1, j2, j3, j4, j5, jf⟩ := six_cells hT4
  obtain ⟨z0, z1, z2, z3, z4, z5, zf⟩ := six_cells hR4
  have HN1 : Hid _ := n1
  have HN2 : Hid _ := n2
  have HR2 : Hid _ := r2
  clear k0 k1 k2 k3 k4 k5 kf hk4 hpost hnext HAn n1 n2 r1 r2 hR5 x0 x1 x2
  unfold turnV
  go_wp2_with fail
  refine bodyPost_ret (v := turnV ov' c' t' ask' nm' st') (by simp [results, Tryz.results178, go_sem, turnV, z0, z1, z2, z3, z4, z5]) rfl ⟨⟨below_set6 (below_set6 HKB2.out.below HIN.out.1 _ _ _ _ _ _) (by have := HIN.out.2.2.2; omega) _ _ _ _ _ _, ?_⟩, ov', c', t', ask', nm', st', rfl, ?_, HIN.out.2.1, HIN.out.1, HML.out, ?_⟩
  · intro b cs X hX hbm hbT hb
    have hbl := blk_lt hb
    rw [set6_ne (by omega), set6_ne hbT]
    exact HKB2.out.keep b cs X hX hbm hb
  · rw [set6_ne hTR]; exact HN1.out
  · exact HNX.out.mono (fun ss pl st' lk k => HR2.out _ _ _ _ _ _ _ (HN2.out _ _ _ _ _ _ _ k))
def digB (n : Nat) : ByteArray := ⟨#[UInt8.ofNat (48 + n)]⟩
theorem digB_size (n : Nat) : (digB n).size = 1 := rfl
theorem itoa_in (n : Nat) (hn : n <= 5) (w : World) : Calls Tryz.prog 52 #[.int .i64 n] w fun e w' => e = .returned (.string (digB n)) /\ w = w' := by
  rcases (show n = 0 \/ n = 1 \/ n = 2 \/ n = 3 \/ n = 4 \/ n = 5 by omega) with rfl | rfl | rfl | rfl | rfl | rfl
  all_goals
    go_enter Tryz.func52, Tryz.ntmps52
    go_wp2
    go_ret
    exact ⟨rfl, rfl⟩
theorem l2Dec_in (n : Nat) (hn : n <= 5) (w : World) : Calls Tryz.prog 146 #[.int .i64 n] w fun e w' => e = .returned (.string (digB n)) /\ Below w.heap.size w w' := by
  have hu := dig_byte n (by omega)
  unfold digB
  generalize UInt8.ofNat (48 + n) = u at *
  have hcv := conv_one (w.alloc (.cells #[.int .u8 (48 + n)] 5)) w.heap.size (48 + n) u hu (by simp [go_sem])
  clear hu
  go_enter Tryz.func146, Tryz.ntmps146
  go_wp2
  go_ret
  exact ⟨rfl, (Below.refl _ _).alloc (Nat.le_refl _) _⟩
theorem specForm_yes (m : Nat) (t : ByteArray) (a : Option Addr) (cap : Nat) (w : World) (hm : m <= 5) (ht : t.size <= 2000) :
    Calls Tryz.prog 117 #[.agg #[.int .i64 m, .string t, .slice a 0 cap]] w fun e w' => e = .returned (.string (digB m ++ (⟨#[58]⟩ : ByteArray) ++ t)) /\ Below w.heap.size w w' := by
  have hd : (digB m).size <= 1 := Nat.le_of_eq (digB_size m)
  have HC : Hid (∀ W : World, Calls Tryz.prog 146 #[.int .i64 m] W fun e w' => e = .returned (.string (digB m)) /\ Below W.heap.size W w') := fun W => l2Dec_in m hm W
  generalize digB m = d at *
  have HD : Hid (∀ W : World, W.cell? ⟨w.heap.size, 1, none⟩ = some (.string t) -> Calls Tryz.prog 146 #[.int .i64 m] W fun e w' => e = .returned (.string d) /\ Below W.heap.size W w' /\ w'.cell? ⟨w.heap.size, 1, none⟩ = some (.string t)) := fun W hW => (HC.out W).mono fun e w' ⟨he, hb⟩ => ⟨he, hb, cell_below hb hW⟩
  have hx0 : (w.alloc (.cells #[.int .i64 m, .string t, .slice a 0 cap] 32)).cell? ⟨w.heap.size, 0, none⟩ = some (.int .i64 m) := by simp [go_sem]
  have hx1 : (w.alloc (.cells #[.int .i64 m, .string t, .slice a 0 cap] 32)).cell? ⟨w.heap.size, 1, none⟩ = some (.string t) := by simp [go_sem]
  go_enter Tryz.func117, Tryz.ntmps117
  go_wp2
  go_region_with (first | (go_at_call 146; refine (HD.out _ ?_).mono ?_; (focus (simp [go_sem]; done)); rintro e w1 ⟨rfl, hb1, hcc⟩))
  all_goals
    go_wp2
    go_ret
    exact ⟨rfl, (((Below.refl _ _).alloc (Nat.le_refl _) _).drew.trans (hb1.mono (by simp)))⟩
theorem implForm_yes (m : Nat) (t : ByteArray) (a : Option Addr) (cap : Nat) (w : World) (hm : m <= 5) (ht : t.size <= 2000) :
    Calls Tryz.prog 15 #[.agg #[.int .i64 m, .string t, .slice a 0 cap]] w fun e w' => e = .returned (.string (digB m ++ (⟨#[58]⟩ : ByteArray) ++ t)) /\ Below w.heap.size w w' := by
  have hd : (digB m).size <= 1 := Nat.le_of_eq (digB_size m)
  have HC : Hid (∀ W : World, Calls Tryz.prog 52 #[.int .i64 m] W fun e w' => e = .returned (.string (digB m)) /\ W = w') := fun W => itoa_in m hm W
  generalize digB m = d at *
  have hx0 : (w.alloc (.cells #[.int .i64 m, .string t, .slice a 0 cap] 32)).cell? ⟨w.heap.size, 0, none⟩ = some (.int .i64 m) := by simp [go_sem]
  have hx1 : (w.alloc (.cells #[.int .i64 m, .string t, .slice a 0 cap] 32)).cell? ⟨w.heap.size, 1, none⟩ = some (.string t) := by simp [go_sem]
  go_enter Tryz.func15, Tryz.ntmps15
  go_wp2
  go_region_with (first | (go_at_call 52; refine (HC.out _).mono ?_; rintro e w1 ⟨rfl, rfl⟩))
  all_goals
    go_wp2
    go_ret
    exact ⟨rfl, ((Below.refl _ _).alloc (Nat.le_refl _) _).drew⟩
end Go.Proofs.YtmeojnaoljgieaeGreatDoor
