import Derived.Test.YtmanoabocelpeaaGreatDoorEdK
import Derived.Test.YtmanoabocelpeaaGreatDoorTOrd
import Derived.Test.YtmanoabocelpeaaGreatDoorTClR
import Derived.Test.YtmanoabocelpeaaGreatDoorTLwT
import Derived.Test.YtmanoabocelpeaaGreatDoorEdI
namespace Go.Proofs.YtmanoabocelpeaaGreatDoor
open Go.RowKit Go.Deep
set_option linter.unusedVariables false
set_option linter.unusedSimpArgs false
def DrC (w : World) (e : Ending) (w' : World) : Prop := Below w.heap.size w w' /\ ∃ v1 v2 l1 l2, ∃ nm : ByteArray, e = .returned (.tuple #[.agg #[v1, v2], .string nm]) /\ Dw w' w.heap.size v1 v2 l1 l2 /\ BdS l1 l2 /\ nm.size <= 50000 /\ Shal (l2.map (·.t))
theorem DrC.mk' {w w2 W : World} {v1 v2 x y : Value} {l1 : List S2} {l2 : List TC} {nm : ByteArray} {R : Nat} (hb : Below w.heap.size w w2) (hg : w2.grownBy W (some R)) (hR : w.heap.size < R) (hd : Dw W w.heap.size v1 v2 l1 l2) (hbd : BdS l1 l2) (hq : W.heap[w.heap.size]? = some (.cells #[x, y] 26 (0, 0))) (h1 : nm.size <= 50000) (h2 : Shal (l2.map (·.t))) :
  DrC w (.returned (.tuple #[.agg #[v1, v2], .string nm])) ((W.setCell ⟨w.heap.size, 0, none⟩ v1).setCell ⟨w.heap.size, 1, none⟩ v2) := by
 have hbW : Below w.heap.size w W := hb.grown hg hb.size (fun k hk => by cases hk; omega)
 exact ⟨below_set2 hbW (Nat.le_refl _) _ _, v1, v2, l1, l2, nm, rfl, hd.ret hq, hbd, h1, h2⟩
set_option maxRecDepth 100000 in
set_option maxHeartbeats 16000000 in
theorem drawClean_any (w : World) (a : Option Addr) (len cap : Nat) (h : Bytes w a len) (hlc : len <= cap) (hl : len <= 1048576) :
  Calls Tryz.prog 11 #[.slice a len cap] w fun e w' => DrC w e w' := by
 obtain ⟨w1, e1⟩ : ∃ y, w.alloc (.cells #[.slice none 0 0, .slice none 0 0] 26) = y := ⟨_, rfl⟩
 have hb1 : Below w.heap.size w w1 := by rw [<- e1]; exact (Below.refl _ _).alloc (Nat.le_refl _) _
 have hs1 : w1.heap.size = w.heap.size + 1 := by rw [<- e1]; simp
 have HQ : Hid (w1.heap[w.heap.size]? = some (.cells #[.slice none 0 0, .slice none 0 0] 26 (0, 0))) := by show _ = _; rw [<- e1]; exact heapW_new _ _
 have hby : Bytes w1 a len := fun i hi => by obtain ⟨b, off, v, h1, h2, h3⟩ := h i hi; exact ⟨b, off, v, h1, cell_below hb1 h2, h3⟩
 have HO := hid (l1Open_any w1 a len cap hby hlc hl)
 obtain ⟨R, eR⟩ : ∃ y, w1.heap.size = y := ⟨_, rfl⟩
 rw [eR] at HO
 have hRw : w.heap.size < R := by omega
 have HER := hid eR
 have HB1 := hid hb1
 clear hby h hlc hs1 eR hb1
 go_enter Tryz.func11, Tryz.ntmps11
 go_wp2_with fail
 clear e1
 refine HO.out.mono ?_
 rintro e w2 ⟨len', rfl, hr, hsz, hb2⟩
 clear HO
 have hR2 : R < w2.heap.size := by omega
 have hBw : R + 1 <= w2.heap.size := by omega
 have HB : Hid (Below w.heap.size w w2) := HB1.out.trans (hb2.mono (by have := HER.out; omega))
 replace HQ := hid (blk_below HQ.out (by rw [HER.out]; exact hb2))
 have HR0 := hid hr
 clear hr hsz hb2 HER HB1
 go_wp2_with fail
 refine (l3Any_any (R + 1) R a len' cap 0 w2 HR0.out hBw (by omega)).mono ?_
 unfold SpS
 rintro e w3 ⟨v1, v2, l1, l2, rfl, hd, hbd, hk, hsh⟩
 replace HQ := hid (blk_gb HQ.out hk.1 (by omega))
 clear HR0
 have HR := hid hk
 have HSH := hid hsh
 obtain ⟨a1, p1, rfl⟩ := hd.s1
 obtain ⟨a2, p2, rfl⟩ := hd.s2
 obtain ⟨w4, e4⟩ : ∃ y, w3.alloc (.cells #[.slice a1 l1.length p1, .slice a2 l2.length p2] 26) = y := ⟨_, rfl⟩
 have hb4 : Below w3.heap.size w3 w4 := by rw [<- e4]; exact (Below.refl _ _).alloc (Nat.le_refl _) _
 obtain ⟨P, eP⟩ : ∃ P, w3.heap.size = P := ⟨_, rfl⟩
 have HP : Hid (w4.heap[P]? = some (.cells #[.slice a1 l1.length p1, .slice a2 l2.length p2] 26 (0, 0))) := by show _ = _; rw [<- e4, <- eP]; exact heapW_new _ _
 have hPR : R < P := by have := hk.size; omega
 have hPQ : w.heap.size < P := by omega
 have HD := hid (hd.below hb4)
 have HBD := hid hbd
 replace HQ := hid (blk_below HQ.out hb4)
 replace HR := hid (HR.out.below hBw hb4)
 clear hd hbd hk hb4 hsh
 go_wp2_with fail
 clear e4 eP
 refine Lt.begin 5 (fun w' => w'.heap[P]? = some (.cells #[.slice a1 l1.length p1, .slice a2 l2.length p2] 26 (0, 0))) (by kernel_rfl) ?_
 obtain ⟨wD, eD⟩ : ∃ y, w4.drew = y := ⟨_, rfl⟩
 rw [eD]
 have hbD : Below w4.heap.size w4 wD := by rw [<- eD]; exact (Below.refl _ _).drew
 clear eD
 replace HP := hid (blk_below HP.out hbD)
 replace HQ := hid (blk_below HQ.out hbD)
 replace HD := hid (HD.out.below hbD)
 replace HR := hid (HR.out.below hBw hbD)
 have hS0 : (fun w' => w'.heap[P]? = some (.cells #[.slice a1 l1.length p1, .slice a2 l2.length p2] 26 (0, 0))) wD := HP.out
 change K 0 _
 iterate 3
  refine Lt.ti (v := ?_) hS0 ?_ ?_
  rotate_left 1
  ·rintro w hSw; obtain ⟨c0, c1⟩ := blk_c hSw; go_simp; first | done | with_reducible rfl
  simp only [gX]
 refine Lt.sp (i := 3) (fun K hK => ?_)
 go_simp
 obtain ⟨k1, p5, k2, k3⟩ := HR.out
 refine (l3Asked_any (R + 1) R a len' cap p5 wD k3 (Nat.le_trans hBw k1.size) (by omega) HD.out HBD.out hR2).mono ?_
 rintro e wT ⟨nm, rfl, hnm, hk⟩
 have hg1 := hk.1
 have hr1 := RdK.then k1 k2 hk
 clear hk k1 k2 k3
 replace HP := hid (blk_gb HP.out hg1 (by omega))
 replace HQ := hid (blk_gb HQ.out hg1 (by omega))
 replace HD := hid (HD.out.gb hg1 hR2)
 replace HR := hid hr1
 have hS1 : (fun w' => w'.heap[P]? = some (.cells #[.slice a1 l1.length p1, .slice a2 l2.length p2] 26 (0, 0))) wT := HP.out
 refine hK.out _ _ (fun _ => hS1) (fun _ => ?_)
 clear hK K hg1 hr1
 try simp only [gX]
 obtain ⟨r0, r1⟩ := blk_c HQ.out
 have fr := fun j => Lib.frozen_of_heap HQ.out j
 refine Lt.sp (i := 4) (fun K hK => ?_)
 go_simp
 have hS8 : (fun w' => w'.heap[P]? = some (.cells #[.slice a1 l1.length p1, .slice a2 l2.length p2] 26 (0, 0))) ((wT.setCell ⟨w.heap.size, 0, none⟩ (.slice a1 l1.length p1)).setCell ⟨w.heap.size, 1, none⟩ (.slice a2 l2.length p2)) := blk_set (blk_set HP.out (by omega) _) (by omega) _
 refine hK.out _ _ (fun _ => hS8) (fun _ => ?_)
 clear hK K hS8
 try simp only [gX]
 refine Lt.sp (i := 5) (fun K hK => ?_)
 go_simp
 refine hK.out _ _ (fun h => absurd rfl h) (fun _ => ?_)
 clear hK K
 refine Lt.done (by kernel_rfl) ?_ _
 go_wp2
 refine bodyPost_ret (v := .tuple #[.agg #[.slice a1 l1.length p1, .slice a2 l2.length p2], .string nm]) (by simp [results, Tryz.results11, go_sem, r0, r1]) rfl ?_
 exact DrC.mk' HB.out HR.out.1 hRw (HD.out.base (by omega)) HBD.out HQ.out hnm HSH.out
theorem drawTrail_any (w : World) (a : Option Addr) (len cap : Nat) (h : Bytes w a len) (hlc : len <= cap) (hl : len <= 1048576) :
  Calls Tryz.prog 4 #[.slice a len cap] w fun e w' => DrC w e w' := by
 obtain ⟨w1, e1⟩ : ∃ y, w.alloc (.cells #[.slice none 0 0, .slice none 0 0] 26) = y := ⟨_, rfl⟩
 have hb1 : Below w.heap.size w w1 := by rw [<- e1]; exact (Below.refl _ _).alloc (Nat.le_refl _) _
 have hs1 : w.heap.size < w1.heap.size := by rw [<- e1]; simp
 have HQ : Hid (w1.heap[w.heap.size]? = some (.cells #[.slice none 0 0, .slice none 0 0] 26 (0, 0))) := by show _ = _; rw [<- e1]; exact heapW_new _ _
 have hby : Bytes w1 a len := fun i hi => by obtain ⟨b, off, v, h1, h2, h3⟩ := h i hi; exact ⟨b, off, v, h1, cell_below hb1 h2, h3⟩
 have HO := hid (drawClean_any w1 a len cap hby hlc hl)
 have HB1 := hid hb1
 clear hby h hb1
 go_enter Tryz.func4, Tryz.ntmps4
 go_wp2_with fail
 clear e1
 refine HO.out.mono ?_
 rintro e w2 ⟨hb2, v1, v2, l1, l2, nm, rfl, hd, hbd, hnm, hsh⟩
 replace HQ := hid (blk_below HQ.out hb2)
 obtain ⟨a1, p1, rfl⟩ := hd.s1
 obtain ⟨a2, p2, rfl⟩ := hd.s2
 obtain ⟨r0, r1⟩ := blk_c HQ.out
 have fr := fun j => Lib.frozen_of_heap HQ.out j
 have HD := hid (hd.base (Nat.le_of_lt hs1))
 have HBW := hid (bt HB1.out hb2)
 clear hd hb2
 go_wp2
 refine bodyPost_ret (v := .tuple #[.agg #[.slice a1 l1.length p1, .slice a2 l2.length p2], .string nm]) (by simp [results, Tryz.results4, go_sem, r0, r1]) rfl ?_
 exact ⟨below_set2 HBW.out (Nat.le_refl _) _ _, _, _, l1, l2, nm, rfl, HD.out.ret HQ.out, hbd, hnm, hsh⟩
end Go.Proofs.YtmanoabocelpeaaGreatDoor
namespace Go.Proofs.YtmanoabocelpeaaGreatDoor
open Go.RowKit
set_option linter.unusedVariables false
theorem strEq {s t : ByteArray} (h : s = t) : (s.toList == t.toList) = true := by rw [h]; simp
set_option maxHeartbeats 4000000 in
theorem wList_same (a a' : Option Addr) (cap cap' n : Nat) (ss : List ByteArray) (w : World) (hn : n = ss.length) (hc : Strs w a ss) (hc' : Strs w a' ss) (hl : n <= 1048576) :
  Calls Tryz.prog 17 #[.slice a n cap, .slice a' n cap'] w fun e w' => e = .returned (.bool true) /\ Below w.heap.size w w' := by
 have HN : Hid (n = ss.length) := hn
 clear hn
 go_enter Tryz.func17, Tryz.ntmps17
 go_wp2
 go_loopw [5] (fun i wr => ∃ k : Nat, k <= n /\ i = .int .i64 k /\ Below w.heap.size w wr) (fun i _ => n - (intOf i).toNat)
 case atStart => exact ⟨0, Nat.zero_le _, rfl, Below.refl _ _⟩
 case round =>
  obtain ⟨k, hk, rfl, hB⟩ := hrel
  by_cases hlt : k < n
  ·obtain ⟨b, off, rfl, e1⟩ := (hc.below hB) k (by have := HN.out; omega)
   obtain ⟨b', off', rfl, f1⟩ := (hc'.below hB) k (by have := HN.out; omega)
   have hkI : (k : Int) < (n : Int) := by omega
   have hk0 : (0 : Int) <= (k : Int) := by omega
   generalize ss.getD k ByteArray.empty = tx at *
   go_wp2_with fail
   go_region_held3 (fun w' => w'.cell? ⟨b, off + k, none⟩ = some (.string tx) /\ w'.cell? ⟨b', off' + k, none⟩ = some (.string tx))
    (first | assumption | (simp [*]; done)) (fail)
   all_goals
    go_wp2
    exact ⟨⟨k + 1, by omega, by go_num, hB.drew⟩, by simp [intOf]; omega⟩
  ·have ek : k = n := by omega
   subst ek
   go_wp2
   go_ret
   exact ⟨rfl, hB⟩
set_option maxHeartbeats 1000000 in
theorem wResult_eq (c : Int) (t : ByteArray) (a a' : Option Addr) (cap cap' n : Nat) (ss : List ByteArray) (w : World) (hn : n = ss.length) (hc : Strs w a ss) (hc' : Strs w a' ss) (hl : n <= 1048576) : Calls Tryz.prog 7 #[.agg #[.int .i64 c, .string t, .slice a n cap], .agg #[.int .i64 c, .string t, .slice a' n cap']] w fun e w' => e = .returned (.bool true) /\ Below w.heap.size w w' := by
 have heq := strEq (rfl : t = t)
 obtain ⟨W, eW⟩ : ∃ W, (w.alloc (.cells #[.int .i64 c, .string t, .slice a n cap] 32)).alloc (.cells #[.int .i64 c, .string t, .slice a' n cap'] 32) = W := ⟨_, rfl⟩
 have hbW : Below w.heap.size w W := eW ▸ ((Below.refl _ _).alloc (Nat.le_refl _) _).alloc (by simp) _
 have x0 : W.cell? ⟨w.heap.size, 0, none⟩ = some (.int .i64 c) := by rw [<- eW]; simp [go_sem]
 have x1 : W.cell? ⟨w.heap.size, 1, none⟩ = some (.string t) := by rw [<- eW]; simp [go_sem]
 have x2 : W.cell? ⟨w.heap.size, 2, none⟩ = some (.slice a n cap) := by rw [<- eW]; simp [go_sem]
 have y0 : W.cell? ⟨w.heap.size + 1, 0, none⟩ = some (.int .i64 c) := by rw [<- eW]; simp [go_sem]
 have y1 : W.cell? ⟨w.heap.size + 1, 1, none⟩ = some (.string t) := by rw [<- eW]; simp [go_sem]
 have y2 : W.cell? ⟨w.heap.size + 1, 2, none⟩ = some (.slice a' n cap') := by rw [<- eW]; simp [go_sem]
 have HW := hid (wList_same a a' cap cap' n ss W hn (hc.below hbW) (hc'.below hbW) hl)
 clear hn hc hc'
 go_enter Tryz.func7, Tryz.ntmps7
 go_wp2_with fail
 refine HW.out.mono ?_
 rintro e w2 ⟨rfl, hb2⟩
 have hB2 := bN hbW hb2
 clear hb2 x0 x1 x2 y0 y1 y2 hbW eW
 go_wp2
 go_ret
 exact ⟨rfl, hB2⟩
end Go.Proofs.YtmanoabocelpeaaGreatDoor
namespace Go.Proofs.YtmanoabocelpeaaGreatDoor
open Go.RowKit
set_option linter.unusedVariables false
theorem CleanP.trail {ss : List S2} {ts : List T2} {nm : ByteArray} {c : Int} {t : ByteArray} {ch : List ByteArray} (h : CleanP ss ts nm c t ch) : ∃ ls, TrailP ss ts nm ls c t ch := by
 rcases h with ⟨n, h⟩ | ⟨y1, y2, ms, a, hd, k⟩
 ·exact ⟨[], Or.inl ⟨n, rfl, h⟩⟩
 ·cases a with
  | ok d => exact ⟨d.ls, Or.inr ⟨y1, y2, ms, _, hd, rfl, k⟩⟩
  | circle l => exact ⟨[], Or.inr ⟨y1, y2, ms, _, hd, rfl, k⟩⟩
  | deep x => exact ⟨[], Or.inr ⟨y1, y2, ms, _, hd, rfl, k⟩⟩
theorem clean_uniq {w : World} {sa ta : Option Addr} {ss : List S2} {ts : List T2} (ho : SpOk w sa ss ta ts) {nm : ByteArray} {c c' : Int} {t t' : ByteArray} {ch ch' : List ByteArray} (h : CleanP ss ts nm c t ch) (h' : CleanP ss ts nm c' t' ch') : c' = c /\ t' = t /\ ch' = ch := by
 obtain ⟨l, k⟩ := h.trail
 obtain ⟨l', k'⟩ := h'.trail
 exact (TrailP.uniq ho k k').2
theorem own_strs {w : World} {B n cap : Nat} {a : Option Addr} {ss : List ByteArray} (h : w.ownsRow B 9 1 (.slice a n cap) ss.length (strV ss)) : n = ss.length /\ Strs w a ss := by
 rcases h.2 with ⟨hv, h0⟩ | ⟨g, c, cur, hv, _⟩
 ·cases hv
  exact ⟨h0.symm, fun i hi => by omega⟩
 ·cases hv
  exact ⟨rfl, strs_row h⟩
end Go.Proofs.YtmanoabocelpeaaGreatDoor
