import Derived.Test.YtmeojnaoljgieaeGreatDoorVMkX
import Derived.Test.YtmeojnaoljgieaeGreatDoorVVdA
import Derived.Test.YtmeojnaoljgieaeGreatDoorVPxB
import Derived.Deep.RegionWith
namespace Go.Proofs.YtmeojnaoljgieaeGreatDoor
open Go.RowKit
set_option linter.unusedVariables false
set_option maxHeartbeats 8000000
set_option maxRecDepth 100000
section
open Go.Deep
/-- A record's Go value out of its two slices. -/
def rvOf (c l : Value) (o : ByteArray) : RV := match c, l with
  | .slice ca cn cc, .slice la ln lc => ⟨ca, cn, cc, la, ln, lc, o⟩
  | _, _ => ⟨none, 0, 0, none, 0, 0, o⟩
theorem vdClos_any (v : Int) (g bo : Nat) (ca la : Option Addr) (cn cc ln lc : Nat) (out : ByteArray) (w : World) (hbo : w.cell? ⟨bo, 0, none⟩ = some (.pointer (some ⟨g, 0, none⟩)))
    (hv : ∀ W' : World, Below w.heap.size w W' -> Calls Tryz.prog 66 #[.pointer (some ⟨g, 0, none⟩), .agg #[.slice ca cn cc, .slice la ln lc, .string out]] W' fun e w' => Below W'.heap.size W' w' /\ e = .returned (.int .i64 v)) :
    Calls Tryz.prog 100 #[.agg #[.slice ca cn cc, .slice la ln lc, .string out], .pointer (some ⟨bo, 0, none⟩)] w fun e w' => Below w.heap.size w w' /\ e = .returned (.bool (v == 0)) := by
  obtain ⟨W, eW⟩ : ∃ y, w.alloc (.cells #[.slice ca cn cc, .slice la ln lc, .string out] 63) = y := ⟨_, rfl⟩
  have hb0 : Below w.heap.size w W := by rw [<- eW]; exact (Below.refl _ _).alloc (Nat.le_refl _) _
  have k0 : W.cell? ⟨w.heap.size, 0, none⟩ = some (.slice ca cn cc) := by rw [<- eW]; simp [go_sem]
  have k1 : W.cell? ⟨w.heap.size, 1, none⟩ = some (.slice la ln lc) := by rw [<- eW]; simp [go_sem]
  have k2 : W.cell? ⟨w.heap.size, 2, none⟩ = some (.string out) := by rw [<- eW]; simp [go_sem]
  have kb := cell_below hb0 hbo
  have HV : Hid (∀ _ : Unit, Calls Tryz.prog 66 #[.pointer (some ⟨g, 0, none⟩), .agg #[.slice ca cn cc, .slice la ln lc, .string out]] W fun e w' => Below W.heap.size W w' /\ e = .returned (.int .i64 v)) := fun _ => hv W hb0
  clear hv
  obtain ⟨q, hq⟩ : ∃ q, (v == 0) = q := ⟨_, rfl⟩
  rw [hq]
  go_enter Tryz.func100, Tryz.ntmps100
  go_wp2_with fail
  clear eW
  refine (HV.out ()).mono ?_
  rintro e w2 ⟨hb2, rfl⟩
  go_wp2
  go_ret
  exact ⟨bt hb0 hb2, rfl⟩
theorem those_any (qa : Option Addr) (qn qc bo : Nat) (w : World) :
    Calls Tryz.prog 99 #[.slice qa qn qc, .func (.func 100) #[] #[.pointer (some ⟨bo, 0, none⟩)]] w fun e w' => e = .returned (.func (.func 153) #[] #[.pointer (some ⟨w.heap.size, 0, none⟩), .pointer (some ⟨w.heap.size + 1, 0, none⟩)]) /\ w' = (w.alloc (.cells #[.slice qa qn qc] 54)).alloc (.cells #[.func (.func 100) #[] #[.pointer (some ⟨bo, 0, none⟩)]] 157) := by
  go_enter Tryz.func99, Tryz.ntmps99
  go_wp2
  go_ret
  exact ⟨rfl, rfl⟩
theorem collect_any (Bl Bs len : Nat) (vals : Nat -> RV) (stays : Nat -> Bool) (h63 : len <= 1048576) (w : World)
    (hseq : SeqStopsK Fence.wide 2 Tryz.prog 153 #[.pointer (some ⟨Bl, 0, none⟩), .pointer (some ⟨Bs, 0, none⟩)] (fun x : RV => #[x.agg]) (Below w.heap.size) (fun ys => ys = comes vals stays len) (fun _ => True) len w) :
    Calls Tryz.prog 98 #[.func (.func 153) #[] #[.pointer (some ⟨Bl, 0, none⟩), .pointer (some ⟨Bs, 0, none⟩)]] w fun e W' => ∃ v, e = .returned v /\ W'.ownsRow w.heap.size 63 3 v (comes vals stays len).length ((comes vals stays len).flatMap RV.cells) /\ Below w.heap.size w W' := by
  have H := appendSeq_any Bl Bs len vals stays h63 w hseq
  have HH : Hid (Calls Tryz.prog 152 #[.slice none 0 0, .func (.func 153) #[] #[.pointer (some ⟨Bl, 0, none⟩), .pointer (some ⟨Bs, 0, none⟩)]] w fun e W' => ∃ v, e = .returned v /\ W'.ownsRow w.heap.size 63 3 v (comes vals stays len).length ((comes vals stays len).flatMap RV.cells) /\ Below w.heap.size w W') := H
  clear H hseq
  go_enter Tryz.func98, Tryz.ntmps98
  go_wp2_with fail
  refine HH.out.mono ?_
  rintro e w2 ⟨v, rfl, h1, h2⟩
  have H1 : Hid (w2.ownsRow w.heap.size 63 3 v (comes vals stays len).length ((comes vals stays len).flatMap RV.cells)) := h1
  clear h1
  go_wp2
  go_ret
  exact ⟨v, rfl, H1.out, h2⟩
theorem flat3_get (l : List RV) (i : Nat) (hi : i < l.length) : (l.flatMap RV.cells)[i * 3]? = some (l[i]'hi).cv /\ (l.flatMap RV.cells)[i * 3 + 1]? = some (l[i]'hi).lv /\ (l.flatMap RV.cells)[i * 3 + 2]? = some (.string (l[i]'hi).out) := by
  induction l generalizing i with
  | nil => simp at hi
  | cons x l ih =>
    cases i with
    | zero => simp [RV.cells]
    | succ i =>
      have h := ih i (by simpa using hi)
      have e : ∀ r, ((x :: l).flatMap RV.cells)[(i + 1) * 3 + r]? = (l.flatMap RV.cells)[i * 3 + r]? := fun r => by
        rw [List.flatMap_cons, List.getElem?_append_right (by simp [RV.cells]; omega)]
        congr 1
        simp [RV.cells]
        omega
      refine ⟨by rw [show (i + 1) * 3 = (i + 1) * 3 + 0 by omega, e 0]; exact h.1, by rw [e 1]; exact h.2.1, by rw [e 2]; exact h.2.2⟩
/-- Some of the records, in a row of their own. -/
theorem OwnQ1.pick {w : World} {lo hi : Nat} {qv v : Value} {rs : List T3} {xs : List Value} {cv lv : Nat -> Value} (h : OwnQ1 w lo hi qv rs xs cv lv) (st : Nat -> Bool) (hr : w.ownsRow lo 63 3 v (comes (fun i => rvOf (cv i) (lv i) (qx rs i).out) st rs.length).length ((comes (fun i => rvOf (cv i) (lv i) (qx rs i).out) st rs.length).flatMap RV.cells)) (hh : hi <= w.heap.size)
    (hsl : ∀ i, i < rs.length -> (rvOf (cv i) (lv i) (qx rs i).out).cv = cv i /\ (rvOf (cv i) (lv i) (qx rs i).out).lv = lv i /\ (rvOf (cv i) (lv i) (qx rs i).out).out = (qx rs i).out) : OwnQ w lo w.heap.size v (((List.range rs.length).filter st).map (qx rs)) := by
  obtain ⟨ks, ek⟩ : ∃ ks, (List.range rs.length).filter st = ks := ⟨_, rfl⟩
  have hmem : ∀ x ∈ ks, x < rs.length := by
    rw [<- ek]
    intro x hx
    rw [List.mem_filter, List.mem_range] at hx
    exact hx.1
  have hlt : ∀ i (hi : i < ks.length), ks[i] < rs.length := fun i hi => hmem _ (List.getElem_mem hi)
  have hpw : ks.Pairwise (· < ·) := by rw [<- ek]; exact List.Pairwise.filter _ List.pairwise_lt_range
  have hlen : (comes (fun i => rvOf (cv i) (lv i) (qx rs i).out) st rs.length).length = ks.length := by unfold comes; rw [ek, List.length_map]
  have hget : ∀ i (hi : i < (comes (fun i => rvOf (cv i) (lv i) (qx rs i).out) st rs.length).length), (comes (fun i => rvOf (cv i) (lv i) (qx rs i).out) st rs.length)[i] = rvOf (cv (ks[i]'(by omega))) (lv (ks[i]'(by omega))) (qx rs (ks[i]'(by omega))).out := fun i hi => by
    unfold comes
    simp only [ek, List.getElem_map]
  have hq : ∀ i (hi : i < ks.length), qx (ks.map (qx rs)) i = qx rs ks[i] := fun i hi => by
    conv => lhs; unfold qx
    rw [List.getD_eq_getElem?_getD, List.getElem?_map, List.getElem?_eq_getElem hi]
    rfl
  have hcmp : ∀ i j (hij : i < j) (hj : j < ks.length), ks[i]'(by omega) < ks[j] := fun i j hij hj => (List.pairwise_iff_getElem.1 hpw) i j (by omega) hj hij
  rw [ek]
  refine ⟨(comes (fun i => rvOf (cv i) (lv i) (qx rs i).out) st rs.length).flatMap RV.cells, fun i => cv (ks.getD i 0), fun i => lv (ks.getD i 0), ?_⟩
  have hgd : ∀ i (hi : i < ks.length), ks.getD i 0 = ks[i] := fun i hi => by rw [List.getD_eq_getElem?_getD, List.getElem?_eq_getElem hi]; rfl
  constructor
  · rw [List.length_map, <- hlen]; exact RowO.new hr
  · intro i hi
    rw [List.length_map] at hi
    obtain ⟨a1, a2, a3⟩ := flat3_get _ i (by omega : i < (comes (fun i => rvOf (cv i) (lv i) (qx rs i).out) st rs.length).length)
    obtain ⟨b1, b2, b3⟩ := hsl _ (hlt i hi)
    rw [a1, a2, a3, hget i (by omega), hgd i hi, hq i hi, b1, b2, b3]
    exact ⟨rfl, rfl, rfl⟩
  · intro i hi
    rw [List.length_map] at hi
    rw [hgd i hi, hq i hi]
    obtain ⟨ys, k1, k2⟩ := h.code _ (hlt i hi)
    exact ⟨ys, RowO.wide k1 (Nat.le_refl _) hh, k2⟩
  · intro i hi
    rw [List.length_map] at hi
    rw [hgd i hi, hq i hi]
    obtain ⟨ys, k1, k2⟩ := h.look _ (hlt i hi)
    exact ⟨ys, RowO.wide k1 (Nat.le_refl _) hh, k2⟩
  · intro i j hij hj
    rw [List.length_map] at hj
    rw [hgd i (by omega), hgd j hj]
    exact h.apc _ _ (hcmp i j hij hj) (hlt j hj)
  · intro i j hij hj
    rw [List.length_map] at hj
    rw [hgd i (by omega), hgd j hj]
    exact h.apl _ _ (hcmp i j hij hj) (hlt j hj)
  · intro i hi
    rw [List.length_map] at hi
    rw [hgd i hi, hq i hi]
    exact h.som _ (hlt i hi)
theorem OwnQ1.vals {w : World} {lo hi : Nat} {qv : Value} {rs : List T3} {xs : List Value} {cv lv : Nat -> Value} (h : OwnQ1 w lo hi qv rs xs cv lv) (i : Nat) (hi' : i < rs.length) : ∃ ca cc la lc, cv i = .slice ca (qx rs i).code.length cc /\ lv i = .slice la (qx rs i).looks.length lc /\ Row3 w ca (qx rs i).code /\ RowG w la (qx rs i).looks := by
  obtain ⟨ys, k1, k2⟩ := h.code i hi'
  obtain ⟨zs, k3, k4⟩ := h.look i hi'
  obtain ⟨ca, cc, e1, r1⟩ := row3_RowO k1 k2
  obtain ⟨la, lc, e2, r2⟩ := rowG_RowO k3 k4
  exact ⟨ca, cc, la, lc, e1, e2, r1, r2⟩
theorem OwnQ1.rowAt {w : World} {lo hi : Nat} {qa : Option Addr} {qn qc : Nat} {rs : List T3} {xs : List Value} {cv lv : Nat -> Value} (h : OwnQ1 w lo hi (.slice qa qn qc) rs xs cv lv) (i : Nat) (hi' : i < rs.length) : ∃ b off, qa = some ⟨b, off, none⟩ /\ w.cell? ⟨b, off + i * 3, none⟩ = some (cv i) /\ w.cell? ⟨b, off + i * 3 + 1, none⟩ = some (lv i) /\ w.cell? ⟨b, off + i * 3 + 2, none⟩ = some (.string (qx rs i).out) := by
  have ho := RowO.own h.row
  rcases own_casesM ho with ⟨e, h0⟩ | ⟨g, c, e⟩
  · have := ho.2
    rcases this with ⟨_, h1⟩ | ⟨g, c, cur, e1, _⟩
    · omega
    · rw [e] at e1; cases e1
  · simp only [Value.slice.injEq] at e
    obtain ⟨rfl, rfl, rfl⟩ := e
    obtain ⟨f1, f2, f3⟩ := h.fil i hi'
    refine ⟨g, 0, rfl, ?_, ?_, ?_⟩
    · rw [Nat.zero_add, ho.cellAt _ (by omega), f1]
    · rw [Nat.zero_add, ho.cellAt _ (by omega), f2]
    · rw [Nat.zero_add, ho.cellAt _ (by omega), f3]
theorem implVouched_any (n : Int) (b off tc : Nat) (ra : Option Addr) (rc : Nat) (ts : List ByteArray) (rs : List T3) (w : World) (hT : Tab w) (hP : P10 w) (h : StIn w (some ⟨b, off, none⟩) ts ra rs) (rp : RowP w ra rs) :
    Calls Tryz.prog 42 #[.agg #[.int .i64 n, .slice (some ⟨b, off, none⟩) ts.length tc, .slice ra rs.length rc]] w fun e w' => Below w.heap.size w w' /\ VdOut w.heap.size w' e n ts rs := by
  obtain ⟨V, eV⟩ : ∃ V, (w.alloc (.cells #[.int .i64 n, .slice (some ⟨b, off, none⟩) ts.length tc, .slice ra rs.length rc] 56)).alloc (.cells #[.int .i64 0, .slice none 0 0, .slice none 0 0] 56) = V := ⟨_, rfl⟩
  have hbv : Below w.heap.size w V := by rw [<- eV]; exact ((Below.refl _ _).alloc (Nat.le_refl _) _).alloc (by simp) _
  have hk0 : V.heap[w.heap.size]? = some (.cells #[.int .i64 n, .slice (some ⟨b, off, none⟩) ts.length tc, .slice ra rs.length rc] 56 (0, 0)) := by rw [<- eV]; exact heapW_old2 _ _ _
  have hk1 : V.heap[w.heap.size + 1]? = some (.cells #[.int .i64 0, .slice none 0 0, .slice none 0 0] 56 (0, 0)) := by rw [<- eV]; exact heapW_new2 _ _ _
  have hVs : w.heap.size + 1 + 1 <= V.heap.size := by rw [<- eV]; simp
  obtain ⟨c0, c1, c2⟩ := blk_c3 hk0
  have HV1 : Hid (V.heap[w.heap.size + 1]? = some (.cells #[.int .i64 0, .slice none 0 0, .slice none 0 0] 56 (0, 0))) := hk1
  have HI : Hid (StIn w (some ⟨b, off, none⟩) ts ra rs) := h
  have HRP : Hid (RowP w ra rs) := rp
  have HT : Hid (Tab w) := hT
  have HP : Hid (P10 w) := hP
  clear h rp hk0 hk1 hT hP
  go_enter Tryz.func42, Tryz.ntmps42
  go_wp2_with fail
  clear eV
  refine (shelfOf_any n b off tc ra rc ts rs V (HT.out.below hbv) (HI.out.below hbv) (HRP.out.below hbv)).mono ?_
  rintro e w1 ⟨hb1, hcs⟩
  have hB1 := bt hbv hb1
  have hs1 : V.heap.size <= w1.heap.size := hb1.size
  have HR1 : Hid (w1.heap[w.heap.size + 1]? = some (.cells #[.int .i64 0, .slice none 0 0, .slice none 0 0] 56 (0, 0))) := blk_below HV1.out hb1
  clear c0 c1 c2 hbv hb1 HV1
  rcases hcs with ⟨hno, rfl⟩ | ⟨hok, g, g1, p1, sv, qv, rfl, hge, hsh⟩
  · have HN : Hid (¬ WdOk n ts rs) := hno
    have hb2 : Below w1.heap.size w1 (w1.alloc (.cells #[.pointer none] 117)) := (Below.refl _ _).alloc (Nat.le_refl _) _
    have kr := blk_below HR1.out hb2
    obtain ⟨r0, r1, r2⟩ := blk_c3 kr
    have fr : ∀ j, (w1.alloc (.cells #[.pointer none] 117)).frozen? ⟨w.heap.size + 1, j, none⟩ = false := fun j => Lib.frozen_of_heap kr j
    have hB2 := bt hB1 hb2
    clear hno kr hb2
    go_wp2
    refine bodyPost_ret (v := .agg #[.int .i64 0, .slice none 0 0, .slice none 0 0]) (by simp [results, Tryz.results42, go_sem, r0, r1, r2]) rfl ⟨below_set3P hB2 (by omega) _ _ _, 0, [], [], _, _, rfl, Or.inr ⟨HN.out, rfl, rfl, rfl⟩, OwnX.nil _ _ _, OwnQ.nil _ _ _⟩
  · obtain ⟨m, rfl⟩ := Int.eq_ofNat_of_zero_le (show 0 <= n by have := hok.1; omega)
    have HOK : Hid (WdOk m ts rs) := hok
    have h1 : 1 <= m := by have := hok.1; omega
    have h8 : m <= 8 := by have := hok.2.1; omega
    have hr2 : rs.length <= 2000 := hok.2.2.2.1
    obtain ⟨w2, e2⟩ : ∃ y, w1.alloc (.cells #[.pointer (some ⟨g, 0, none⟩)] 117) = y := ⟨_, rfl⟩
    have hb2 : Below w1.heap.size w1 w2 := by rw [<- e2]; exact (Below.refl _ _).alloc (Nat.le_refl _) _
    have kb : w2.cell? ⟨w1.heap.size, 0, none⟩ = some (.pointer (some ⟨g, 0, none⟩)) := by rw [<- e2]; simp [go_sem]
    have hs2 : w1.heap.size < w2.heap.size := World.block_lt_of_cell? _ _ kb
    obtain ⟨qa, qc, rfl, _⟩ := hsh.qs.sl
    have HSH : Hid (ShG w2 g V.heap.size w1.heap.size m sv (.slice (some ⟨g1, 0, none⟩) ts.length p1) (.slice qa rs.length qc) (ts.map (sumB m)) ts rs) := ShG.below hsh hb2
    have HR2 : Hid (w2.heap[w.heap.size + 1]? = some (.cells #[.int .i64 0, .slice none 0 0, .slice none 0 0] 56 (0, 0))) := blk_below HR1.out hb2
    have hB2 := bt hB1 hb2
    obtain ⟨q0, q1, q2, q3, qf⟩ := blk_c4 HSH.out.blk
    have hgl : g < w1.heap.size := ShG.lt hsh
    clear hok hsh hb2
    obtain ⟨u1, eu⟩ : ∃ y, (w2.drew.alloc (.cells #[.slice qa rs.length qc] 54)).alloc (.cells #[.func (.func 100) #[] #[.pointer (some ⟨w1.heap.size, 0, none⟩)]] 157) = y := ⟨_, rfl⟩
    have hbu : Below w2.heap.size w2 u1 := by rw [<- eu]; exact ((Below.refl _ _).drew.alloc (by simp) _).alloc (by simp) _
    have hsu : u1.heap.size = w2.heap.size + 1 + 1 := by rw [<- eu]; simp
    have HTH : Hid (∀ _ : Unit, Calls Tryz.prog 99 #[.slice qa rs.length qc, .func (.func 100) #[] #[.pointer (some ⟨w1.heap.size, 0, none⟩)]] w2.drew fun e w' => e = .returned (.func (.func 153) #[] #[.pointer (some ⟨w2.heap.size, 0, none⟩), .pointer (some ⟨w2.heap.size + 1, 0, none⟩)]) /\ w' = u1) := fun _ => by
      rw [<- eu]; exact those_any qa rs.length qc w1.heap.size w2.drew
    have HSU : Hid (ShG u1 g V.heap.size w1.heap.size m sv (.slice (some ⟨g1, 0, none⟩) ts.length p1) (.slice qa rs.length qc) (ts.map (sumB m)) ts rs) := HSH.out.below hbu
    have hBu := bt hB2 hbu
    have kbu := cell_below hbu kb
    obtain ⟨xs, cv, lv, hq1⟩ := HSU.out.qs
    have HQ1 : Hid (OwnQ1 u1 V.heap.size w1.heap.size (.slice qa rs.length qc) rs xs cv lv) := hq1
    obtain ⟨sa, sc, esv, hss⟩ := OwnX.sl HSU.out.sx
    rw [List.length_map] at esv
    subst esv
    obtain ⟨ta, tc', etv, hts⟩ := OwnX.sl HSU.out.tx
    have HSQ : Hid (SeqStopsK Fence.wide 2 Tryz.prog 153 #[.pointer (some ⟨w2.heap.size, 0, none⟩), .pointer (some ⟨w2.heap.size + 1, 0, none⟩)] (fun x : RV => #[x.agg]) (Below u1.heap.size) (fun ys => ys = comes (fun i => rvOf (cv i) (lv i) (qx rs i).out) (stayB m ts rs) rs.length) (fun _ => True) rs.length u1) := by
      refine those_stops 2 _ _ u1.heap.size w1.heap.size rs.length qc qa _ _ (by decide) (by omega) u1 (Nat.le_refl _) (by omega) (by omega) (by rw [<- eu]; simp [go_sem]) (by rw [<- eu]; simp [go_sem]) ?_ ?_
      · intro W' hW i hi
        obtain ⟨b', o', e, k1, k2, k3⟩ := (HQ1.out.below hW).rowAt i hi
        obtain ⟨ca, cc, la, lc, e1, e2, _, _⟩ := HQ1.out.vals i hi
        refine ⟨b', o', e, ?_, ?_, ?_⟩
        · rw [k1, e1, e2]; rfl
        · rw [k2, e1, e2]; rfl
        · rw [k3, e1, e2]; rfl
      · intro W' hW i hi
        obtain ⟨ca, cc, la, lc, e1, e2, k1, k2⟩ := HQ1.out.vals i hi
        have hRC := HOK.out.2.2.2.2 i hi
        have e3 : (rvOf (cv i) (lv i) (qx rs i).out).agg = .agg #[.slice ca (qx rs i).code.length cc, .slice la (qx rs i).looks.length lc, .string (qx rs i).out] := by rw [e1, e2]; rfl
        show Calls Tryz.prog 100 #[(rvOf (cv i) (lv i) (qx rs i).out).agg, _] W' _
        rw [e3]
        refine vdClos_any (vouV m ts (qx rs i)) g w1.heap.size ca la _ cc _ lc _ W' (cell_below hW kbu) ?_
        intro X hX
        have hWX := bt hW hX
        have hwX := bt hBu hWX
        exact vouch_v m g (some ⟨g1, 0, none⟩) qa sa ca la p1 rs.length qc sc cc lc ts (qx rs i) X h1 h8 (HSU.out.below hWX).blk (hss.below hWX) (HT.out.below hwX) (HP.out.below hwX) (by cases etv; exact hts.below hWX) HI.out.lt HOK.out.2.2.1.2.1 HOK.out.2.2.1.2.2 hRC.1 (k1.below hWX) (k2.below hWX) hRC.2.2.1
    have HCO : Hid (∀ _ : Unit, Calls Tryz.prog 98 #[.func (.func 153) #[] #[.pointer (some ⟨w2.heap.size, 0, none⟩), .pointer (some ⟨w2.heap.size + 1, 0, none⟩)]] u1 fun e W' => ∃ va vn vc, e = .returned (.slice va vn vc) /\ W'.ownsRow u1.heap.size 63 3 (.slice va vn vc) (comes (fun i => rvOf (cv i) (lv i) (qx rs i).out) (stayB m ts rs) rs.length).length ((comes (fun i => rvOf (cv i) (lv i) (qx rs i).out) (stayB m ts rs) rs.length).flatMap RV.cells) /\ Below u1.heap.size u1 W') := fun _ => (collect_any _ _ rs.length _ _ (by omega) u1 HSQ.out).mono (by
      rintro e W' ⟨v, rfl, k1, k2⟩
      rcases own_casesM k1 with ⟨e1, _⟩ | ⟨g', c', e1⟩
      · subst e1; exact ⟨_, _, _, rfl, k1, k2⟩
      · subst e1; exact ⟨_, _, _, rfl, k1, k2⟩)
    clear HSQ hq1 hss hts etv eu
    go_wp2_with fail
    clear e2
    refine Lt.begin 12 (fun w' => w'.cell? ⟨w1.heap.size, 0, none⟩ = some (.pointer (some ⟨g, 0, none⟩)) /\ w'.cell? ⟨g, 2, none⟩ = some (.slice qa rs.length qc)) (by kernel_rfl) ?_
    have hS0 : w2.drew.cell? ⟨w1.heap.size, 0, none⟩ = some (.pointer (some ⟨g, 0, none⟩)) /\ w2.drew.cell? ⟨g, 2, none⟩ = some (.slice qa rs.length qc) := ⟨kb, q2⟩
    refine Lt.take (i := 0) (oi := { dst := some 13, op := Op.load 117 (Operand.tmp 3), type := 117, pos := "l6_keep.go:135", after := #[], guard := none }) (v := ?_) rfl (by kernel_rfl) (by kernel_rfl) (by kernel_rfl) (by kernel_rfl) (fun _ _ _ h => h) hS0 (Or.inl ⟨by rfl, ?_⟩) ?_
    rotate_left 1
    · intro w hSw
      try dsimp only at hSw
      go_simp
      first | done | with_reducible rfl
    simp only [Act.put, List.setIfInBounds_toArray, List.set_cons_zero, List.set_cons_succ]
    refine Lt.take (i := 1) (oi := { dst := some 14, op := Op.load 117 (Operand.tmp 3), type := 117, pos := "l6_keep.go:135", after := #[], guard := none }) (v := ?_) rfl (by kernel_rfl) (by kernel_rfl) (by kernel_rfl) (by kernel_rfl) (fun _ _ _ h => h) hS0 (Or.inl ⟨by rfl, ?_⟩) ?_
    rotate_left 1
    · intro w hSw
      try dsimp only at hSw
      go_simp
      first | done | with_reducible rfl
    simp only [Act.put, List.setIfInBounds_toArray, List.set_cons_zero, List.set_cons_succ]
    refine Lt.take (i := 2) (oi := { dst := some 15, op := Op.nilCheck (Operand.tmp 14), type := 0, pos := "l6_keep.go:135", after := #[{ on := 1, ground := Ground.data }], guard := none }) (v := ?_) rfl (by kernel_rfl) (by kernel_rfl) (by kernel_rfl) (by kernel_rfl) (fun _ _ _ h => h) hS0 (Or.inl ⟨by rfl, ?_⟩) ?_
    rotate_left 1
    · intro w hSw
      try dsimp only at hSw
      go_simp
      first | done | with_reducible rfl
    simp only [Act.put, List.setIfInBounds_toArray, List.set_cons_zero, List.set_cons_succ]
    refine Lt.take (i := 3) (oi := { dst := some 16, op := Op.fieldAddr 156 (Operand.tmp 15) 0, type := 0, pos := "l6_keep.go:135", after := #[{ on := 2, ground := Ground.data }], guard := none }) (v := ?_) rfl (by kernel_rfl) (by kernel_rfl) (by kernel_rfl) (by kernel_rfl) (fun _ _ _ h => h) hS0 (Or.inl ⟨by rfl, ?_⟩) ?_
    rotate_left 1
    · intro w hSw
      try dsimp only at hSw
      go_simp
      first | done | with_reducible rfl
    simp only [Act.put, List.setIfInBounds_toArray, List.set_cons_zero, List.set_cons_succ]
    refine Lt.take (i := 4) (oi := { dst := some 17, op := Op.fieldAddr 56 (Operand.tmp 16) 2, type := 0, pos := "l6_keep.go:135", after := #[{ on := 3, ground := Ground.data }], guard := none }) (v := ?_) rfl (by kernel_rfl) (by kernel_rfl) (by kernel_rfl) (by kernel_rfl) (fun _ _ _ h => h) hS0 (Or.inl ⟨by rfl, ?_⟩) ?_
    rotate_left 1
    · intro w hSw
      try dsimp only at hSw
      go_simp
      first | done | with_reducible rfl
    simp only [Act.put, List.setIfInBounds_toArray, List.set_cons_zero, List.set_cons_succ]
    refine Lt.take (i := 5) (oi := { dst := some 18, op := Op.load 54 (Operand.tmp 17), type := 54, pos := "l6_keep.go:135", after := #[{ on := 4, ground := Ground.data }], guard := none }) (v := ?_) rfl (by kernel_rfl) (by kernel_rfl) (by kernel_rfl) (by kernel_rfl) (fun _ _ _ h => h) hS0 (Or.inl ⟨by rfl, ?_⟩) ?_
    rotate_left 1
    · intro w hSw
      try dsimp only at hSw
      go_simp
      first | done | with_reducible rfl
    simp only [Act.put, List.setIfInBounds_toArray, List.set_cons_zero, List.set_cons_succ]
    refine Lt.take (i := 6) (oi := { dst := some 19, op := Op.makeFunc (Fn.func 100) #[] #[Operand.tmp 3], type := 157, pos := "l6_keep.go:135", after := #[], guard := none }) (v := ?_) rfl (by kernel_rfl) (by kernel_rfl) (by kernel_rfl) (by kernel_rfl) (fun _ _ _ h => h) hS0 (Or.inl ⟨by rfl, ?_⟩) ?_
    rotate_left 1
    · intro w hSw
      try dsimp only at hSw
      go_simp
      first | done | with_reducible rfl
    simp only [Act.put, List.setIfInBounds_toArray, List.set_cons_zero, List.set_cons_succ]
    refine Lt.step (i := 7) (o := { dst := some 20, op := Op.call { callee := Callee.value (Operand.func 99), args := #[Operand.tmp 18, Operand.tmp 19], argTypes := #[54, 157] }, type := 153, pos := "l6_keep.go:135", after := #[{ on := 5, ground := Ground.data }, { on := 6, ground := Ground.data }], guard := none }) (by kernel_rfl) rfl (fun K hK => ?_)
    go_simp
    refine (HTH.out ()).mono ?_
    rintro e w3 ⟨rfl, ew3⟩
    rw [ew3]
    clear ew3
    refine hK.out _ _ (fun _ => ⟨kbu, (blk_c4 HSU.out.blk).2.2.1⟩) (fun hS1 => ?_)
    replace hS1 := hS1 (by decide)
    clear hK K hS0
    refine Lt.step (i := 8) (o := { dst := some 21, op := Op.call { callee := Callee.value (Operand.func 98), args := #[Operand.tmp 20], argTypes := #[153] }, type := 54, pos := "l6_keep.go:135", after := #[{ on := 7, ground := Ground.data }, { on := 7, ground := Ground.chain }], guard := none }) (by kernel_rfl) rfl (fun K hK => ?_)
    go_simp
    refine (HCO.out ()).mono ?_
    rintro e w4 ⟨va, vn, vc, rfl, hov, hb4⟩
    have kb4 := cell_below hb4 kbu
    have HS4 : Hid (ShG w4 g V.heap.size w1.heap.size m (.slice sa ts.length sc) (.slice (some ⟨g1, 0, none⟩) ts.length p1) (.slice qa rs.length qc) (ts.map (sumB m)) ts rs) := HSU.out.below hb4
    have HQ4 : Hid (OwnQ1 w4 V.heap.size w1.heap.size (.slice qa rs.length qc) rs xs cv lv) := HQ1.out.below hb4
    have HOV : Hid (w4.ownsRow u1.heap.size 63 3 (.slice va vn vc) (comes (fun i => rvOf (cv i) (lv i) (qx rs i).out) (stayB m ts rs) rs.length).length ((comes (fun i => rvOf (cv i) (lv i) (qx rs i).out) (stayB m ts rs) rs.length).flatMap RV.cells)) := hov
    have hB4 := bt hBu hb4
    have hs4 : u1.heap.size <= w4.heap.size := hb4.size
    have HR4 : Hid (w4.heap[w.heap.size + 1]? = some (.cells #[.int .i64 0, .slice none 0 0, .slice none 0 0] 56 (0, 0))) := blk_below (blk_below HR2.out hbu) hb4
    refine hK.out _ _ (fun _ => ⟨kb4, (blk_c4 HS4.out.blk).2.2.1⟩) (fun hS2 => ?_)
    replace hS2 := hS2 (by decide)
    clear hK K hS1 hov hb4
    try simp only [Act.put, List.setIfInBounds_toArray, List.set_cons_zero, List.set_cons_succ]
    refine Lt.step (i := 9) (o := { dst := some 22, op := Op.nilCheck (Operand.tmp 13), type := 0, pos := "l6_keep.go:135", after := #[{ on := 0, ground := Ground.data }, { on := 0, ground := Ground.phase }, { on := 1, ground := Ground.phase }, { on := 2, ground := Ground.phase }, { on := 3, ground := Ground.phase }, { on := 4, ground := Ground.phase }, { on := 5, ground := Ground.phase }, { on := 6, ground := Ground.phase }, { on := 7, ground := Ground.phase }, { on := 8, ground := Ground.phase }], guard := none }) (by kernel_rfl) rfl (fun K hK => ?_)
    go_simp
    refine hK.out _ _ (fun _ => hS2) (fun _ => ?_)
    clear hK K
    refine Lt.step (i := 10) (o := { dst := some 23, op := Op.fieldAddr 156 (Operand.tmp 22) 0, type := 0, pos := "l6_keep.go:135", after := #[{ on := 9, ground := Ground.data }, { on := 0, ground := Ground.phase }, { on := 1, ground := Ground.phase }, { on := 2, ground := Ground.phase }, { on := 3, ground := Ground.phase }, { on := 4, ground := Ground.phase }, { on := 5, ground := Ground.phase }, { on := 6, ground := Ground.phase }, { on := 7, ground := Ground.phase }, { on := 8, ground := Ground.phase }], guard := none }) (by kernel_rfl) rfl (fun K hK => ?_)
    go_simp
    refine hK.out _ _ (fun _ => hS2) (fun _ => ?_)
    clear hK K
    refine Lt.step (i := 11) (o := { dst := some 24, op := Op.fieldAddr 56 (Operand.tmp 23) 2, type := 0, pos := "l6_keep.go:135", after := #[{ on := 10, ground := Ground.data }, { on := 0, ground := Ground.phase }, { on := 1, ground := Ground.phase }, { on := 2, ground := Ground.phase }, { on := 3, ground := Ground.phase }, { on := 4, ground := Ground.phase }, { on := 5, ground := Ground.phase }, { on := 6, ground := Ground.phase }, { on := 7, ground := Ground.phase }, { on := 8, ground := Ground.phase }], guard := none }) (by kernel_rfl) rfl (fun K hK => ?_)
    go_simp
    refine hK.out _ _ (fun _ => hS2) (fun _ => ?_)
    clear hK K
    obtain ⟨z0, z1, z2, z3, zf⟩ := blk_c4 HS4.out.blk
    refine Lt.step (i := 12) (o := { dst := none, op := Op.store 54 (Operand.tmp 24) (Operand.tmp 21), type := 0, pos := "l6_keep.go:135", after := #[{ on := 11, ground := Ground.data }, { on := 8, ground := Ground.data }, { on := 8, ground := Ground.chain }, { on := 0, ground := Ground.phase }, { on := 1, ground := Ground.phase }, { on := 2, ground := Ground.phase }, { on := 3, ground := Ground.phase }, { on := 4, ground := Ground.phase }, { on := 5, ground := Ground.phase }, { on := 6, ground := Ground.phase }, { on := 7, ground := Ground.phase }, { on := 8, ground := Ground.phase }], guard := none }) (by kernel_rfl) rfl (fun K hK => ?_)
    go_simp
    refine hK.out _ _ (fun h => absurd rfl h) (fun _ => ?_)
    clear hK K hS2
    refine Lt.done (by kernel_rfl) ?_ _
    have ht4 : HasT w4 g 156 := ⟨_, HS4.out.blk⟩
    have HTX : Hid (OwnX (w4.setCell ⟨g, 2, none⟩ (.slice va vn vc)) V.heap.size w4.heap.size (.slice (some ⟨g1, 0, none⟩) ts.length p1) ts) := (HS4.out.tx.setT ht4 (by decide) _).wide (Nat.le_refl _) (by omega)
    have HQX : Hid (OwnQ (w4.setCell ⟨g, 2, none⟩ (.slice va vn vc)) V.heap.size w4.heap.size (.slice va vn vc) (kept m ts rs rs.length)) := OwnQ.setT (HQ4.out.pick (stayB m ts rs) (own_base HOV.out (by omega)) (by omega) (fun i hi => by
      obtain ⟨ca, cc, la, lc, e1, e2, _, _⟩ := HQ4.out.vals i hi
      rw [e1, e2]; exact ⟨rfl, rfl, rfl⟩)) ht4 (by decide) (by decide) (by decide) _
    have hB5 : Below w.heap.size w (w4.setCell ⟨g, 2, none⟩ (.slice va vn vc)) := hB4.setCell (p := ⟨g, 2, none⟩) (by show w.heap.size <= g; omega) _
    have hne1 : w1.heap.size ≠ g := by omega
    have hne2 : w.heap.size + 1 ≠ g := by omega
    obtain ⟨r0, r1, r2⟩ := blk_c3 HR4.out
    have fr : ∀ j, w4.frozen? ⟨w.heap.size + 1, j, none⟩ = false := fun j => Lib.frozen_of_heap HR4.out j
    clear ht4 HOV HQ4 HS4 HCO HTH
    go_wp2
    refine bodyPost_ret (v := .agg #[.int .i64 (m : Int), .slice (some ⟨g1, 0, none⟩) ts.length p1, .slice va vn vc]) (by simp [results, Tryz.results42, go_sem, r0, r1, r2]) rfl ⟨below_set3P hB5 (by omega) _ _ _, m, ts, kept m ts rs rs.length, _, _, rfl, Or.inl ⟨HOK.out, rfl, rfl, rfl⟩, ?_, ?_⟩
    · exact (((HTX.out.set (by omega) _).set (by omega) _).set (by omega) _).wide (by omega) (by simp)
    · exact (((HQX.out.set (by omega) _).set (by omega) _).set (by omega) _).wide (by omega) (by simp)
end
section
open Go.Deep

end
end Go.Proofs.YtmeojnaoljgieaeGreatDoor
