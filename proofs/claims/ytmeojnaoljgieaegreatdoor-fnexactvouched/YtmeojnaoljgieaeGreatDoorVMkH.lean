import Derived.RangeFuncNested
import Derived.RangeFuncBound
import Derived.RangeFuncCalls
import Derived.RangeFuncLeaves
import Derived.Shelf.Abstract
import Derived.Shelf.RegionOpen
import Derived.WalkKit
import Derived.OwnWalkIn
import Derived.TacticsInMore
import Derived.LoopNIn
import Derived.LoopIn
import Derived.Maps.AppendAt
import Derived.Test.YtmeojnaoljgieaeGreatDoorProg
import Derived.Test.YtmeojnaoljgieaeGreatDoorVStrs
namespace Go.Proofs.YtmeojnaoljgieaeGreatDoor
open Go.RowKit
set_option linter.unusedVariables false
set_option maxHeartbeats 8000000
set_option maxRecDepth 100000
section
open Go.Shelf
attribute [local go_sem] Oper.semAt_some
/-- A record as a Go value. -/
structure RV where
  ca : Option Addr
  cn : Nat
  cc : Nat
  la : Option Addr
  ln : Nat
  lc : Nat
  out : ByteArray
def RV.cv (x : RV) : Value := .slice x.ca x.cn x.cc
def RV.lv (x : RV) : Value := .slice x.la x.ln x.lc
def RV.cells (x : RV) : List Value := [x.cv, x.lv, .string x.out]
def RV.agg (x : RV) : Value := .agg #[.slice x.ca x.cn x.cc, .slice x.la x.ln x.lc, .string x.out]
/-- What has come when k are over. -/
def comes (vals : Nat -> RV) (stays : Nat -> Bool) (k : Nat) : List RV := ((List.range k).filter stays).map vals
theorem comes_yes {vals : Nat -> RV} {stays : Nat -> Bool} {k : Nat} (h : stays k = true) : comes vals stays (k + 1) = comes vals stays k ++ [vals k] := by simp [comes, List.range_succ, h]
theorem comes_no {vals : Nat -> RV} {stays : Nat -> Bool} {k : Nat} (h : stays k = false) : comes vals stays (k + 1) = comes vals stays k := by simp [comes, List.range_succ, h]
theorem comes_length (vals : Nat -> RV) (stays : Nat -> Bool) (k : Nat) : (comes vals stays k).length <= k := by
  unfold comes
  rw [List.length_map]
  exact Nat.le_trans (List.length_filter_le _ _) (by simp)
theorem grown_of_below {w w' : World} (h : Below w.heap.size w w') : w.grownBy w' none := ⟨h.os, h.tape, h.output, h.size, fun k hk _ => h.block k hk⟩
theorem those1_in (n l Bl Bs n₀ sb len qc Bj N : Nat) (qa : Option Addr) (vals : Nat -> RV) (stays : Nat -> Bool) (hn : 1 <= n) (hN : len <= N) (h63 : len <= 1048576) (J Jx : List RV -> World -> Prop) (hJ : AbidesFrom Bj J)
    (hY : ∀ pre x W, J pre W -> pre.length < N -> YieldAt Fence.wide (n - 1) Tryz.prog l #[x.agg] W fun e W' =>
      (e = .returned (.bool true) /\ J (pre ++ [x]) W' /\ Below n₀ W W') \/ (e = .returned (.bool false) /\ Jx (pre ++ [x]) W'))
    (W : World) (hn0 : n₀ <= W.heap.size) (hBl : Bl < n₀) (hBs : Bs < n₀) (hl : W.cell? ⟨Bl, 0, none⟩ = some (.slice qa len qc)) (hs : W.cell? ⟨Bs, 0, none⟩ = some (.func (.func 100) #[] #[.pointer (some ⟨sb, 0, none⟩)]))
    (hrow : ∀ W', Below n₀ W W' -> ∀ i, i < len -> ∃ b off, qa = some ⟨b, off, none⟩ /\ W'.cell? ⟨b, off + i * 3, none⟩ = some (vals i).cv /\ W'.cell? ⟨b, off + i * 3 + 1, none⟩ = some (vals i).lv /\ W'.cell? ⟨b, off + i * 3 + 2, none⟩ = some (.string (vals i).out))
    (hst : ∀ W', Below n₀ W W' -> ∀ i, i < len -> Calls Tryz.prog 100 #[(vals i).agg, .pointer (some ⟨sb, 0, none⟩)] W' fun e w' => Below W'.heap.size W' w' /\ e = .returned (.bool (stays i)))
    (h0 : J [] W) :
    CallsIn Fence.wide n Tryz.prog 153 #[.func (.yield l) #[] #[], .pointer (some ⟨Bl, 0, none⟩), .pointer (some ⟨Bs, 0, none⟩)] W fun e W' => (∃ v, e = .returned v) ∧
      ((∃ ys, ys = comes vals stays len /\ J ys W') \/ (∃ pre, True /\ Jx pre W')) := by
  refine callsIn_of_wp Tryz.func153 rfl trivial ?_ rfl
  simp only [Tryz.ntmps153, List.size_toArray, List.length_cons, List.length_nil, Nat.reduceAdd, Nat.reduceSub, Array.replicate_succ, Array.replicate_zero, List.push_toArray, List.append_toArray, List.nil_append, List.cons_append]
  gi_wp2
  gi_loopw [8] (fun i wr => ∃ k : Nat, k <= len /\ i = .int .i64 k /\ Hid (J (comes vals stays k) wr) /\ Below n₀ W wr) (fun i _ => len - (intOf i).toNat)
  case atStart => exact ⟨0, Nat.zero_le _, rfl, h0, Below.refl _ _⟩
  case round =>
    obtain ⟨k, hk, rfl, HJ, hbr⟩ := hrel
    by_cases hlt : k < len
    · have hkI : (k : Int) < (len : Int) := by omega
      obtain ⟨b, off, rfl, c1, c2, c3⟩ := hrow wr hbr k hlt
      obtain ⟨x, ex⟩ : ∃ x, vals k = x := ⟨_, rfl⟩
      rw [ex] at c1 c2 c3
      have HX : Hid (vals k = x) := ex
      have hn0r : n₀ <= wr.heap.size := by have := hbr.size; omega
      obtain ⟨w1, e1⟩ : ∃ y, wr.alloc (.cells #[x.cv, x.lv, .string x.out] 63) = y := ⟨_, rfl⟩
      have hb1 : Below wr.heap.size wr w1 := by rw [<- e1]; exact (Below.refl _ _).alloc (Nat.le_refl _) _
      have hB1 : Below n₀ W w1 := hbr.trans (hb1.mono hn0r)
      have d1 : w1.cell? ⟨wr.heap.size, 0, none⟩ = some x.cv := by rw [<- e1]; simp [go_sem]
      have d2 : w1.cell? ⟨wr.heap.size, 1, none⟩ = some x.lv := by rw [<- e1]; simp [go_sem]
      have d3 : w1.cell? ⟨wr.heap.size, 2, none⟩ = some (.string x.out) := by rw [<- e1]; simp [go_sem]
      have s1 : w1.cell? ⟨Bs, 0, none⟩ = some (.func (.func 100) #[] #[.pointer (some ⟨sb, 0, none⟩)]) := (hB1.cell (p := ⟨Bs, 0, none⟩) hBs).trans hs
      have HST : Hid (Calls Tryz.prog 100 #[x.agg, .pointer (some ⟨sb, 0, none⟩)] w1 fun e w' => Below w1.heap.size w1 w' /\ e = .returned (.bool (stays k))) := by
        have h := hst w1 hB1 k hlt
        rw [ex] at h
        exact h
      have HJ1 : Hid (J (comes vals stays k) w1) := hJ _ _ _ _ HJ.out (grown_of_below hb1) (fun r e => by cases e)
      clear ex hb1
      obtain ⟨ca, cn, cc, la, ln, lc, out⟩ := x
      simp only [RV.cv, RV.lv, RV.agg] at *
      obtain ⟨v, hv⟩ : ∃ v, stays k = v := ⟨_, rfl⟩
      rw [hv] at HST
      have HV : Hid (stays k = v) := hv
      clear hv
      gi_wp2
      refine ⟨trivial, (callsIn_wide.2 HST.out).mono ?_⟩
      rintro e w2 ⟨hb2, rfl⟩
      dsimp only
      have hs1 : wr.heap.size < w1.heap.size := World.block_lt_of_cell? _ _ d1
      have hB2 : Below n₀ W w2 := hB1.trans (hb2.mono (by omega))
      have HJ2 : Hid (J (comes vals stays k) w2) := hJ _ _ _ _ HJ1.out (grown_of_below hb2) (fun r e => by cases e)
      have f1 := (hb2.cell (p := ⟨wr.heap.size, 0, none⟩) hs1).trans d1
      have f2 := (hb2.cell (p := ⟨wr.heap.size, 1, none⟩) hs1).trans d2
      have f3 := (hb2.cell (p := ⟨wr.heap.size, 2, none⟩) hs1).trans d3
      clear d1 d2 d3 s1 hb2 hB1 HST HJ HJ1 c1 c2 c3 e1
      cases v
      · have HC : Hid (comes vals stays (k + 1) = comes vals stays k) := comes_no HV.out
        gi_wp2
        refine ⟨fun _ h => (by cases h), ?_⟩
        gi_wp2
        go_roundw
        case rel => exact ⟨k + 1, by omega, by go_num, by rw [HC.out]; exact HJ2.out, hB2⟩
        case measure => simp [intOf]; omega
      · have HC : Hid (comes vals stays (k + 1) = comes vals stays k ++ [⟨ca, cn, cc, la, ln, lc, out⟩]) := by show _ = _; rw [comes_yes HV.out, HX.out]
        obtain ⟨fn, tmps, assign, body, hy, hR⟩ := hY (comes vals stays k) ⟨ca, cn, cc, la, ln, lc, out⟩ w2 HJ2.out (by have := comes_length vals stays k; omega)
        dsimp only [RV.agg] at hy
        gi_wp2
        refine hR.mono ?_
        rintro e w3 (⟨rfl, hJ3, hk3⟩ | ⟨rfl, hJx3⟩)
        · have HJ3 : Hid (J (comes vals stays (k + 1)) w3) := by show J _ _; rw [HC.out]; exact hJ3
          have hB3 : Below n₀ W w3 := hB2.trans hk3
          clear hJ3 hk3
          gi_wp2
          go_roundw
          case rel => exact ⟨k + 1, by omega, by go_num, HJ3.out, hB3⟩
          case measure => simp [intOf]; omega
        · gi_wp2
          refine bodyPost_ret (results_none rfl _ _ _) rfl ?_
          exact ⟨⟨_, rfl⟩, .inr ⟨_, trivial, hJx3⟩⟩
    · have hkI : ¬ (k : Int) < (len : Int) := by omega
      obtain rfl : k = len := by omega
      gi_wp2
      go_end0
      exact ⟨⟨_, rfl⟩, Or.inl HJ.out⟩
end
def digM (n : Nat) : ByteArray := ⟨#[UInt8.ofNat (48 + n)]⟩
theorem dig_byteM (d : Nat) (h : d < 10) : ((UInt8.ofNat (48 + d)).toNat : Int) = 48 + d := by rw [UInt8.toNat_ofNat']; omega
theorem conv_oneM (W : World) (g : Nat) (c : Int) (u : UInt8) (hu : (u.toNat : Int) = c) (h : W.cell? ⟨g, 0, none⟩ = some (.int .u8 c)) : (convert 22 9 (.slice (some ⟨g, 0, none⟩) 1 1)).run Tryz.prog W = .ok (.string ⟨#[u]⟩) W := by
  subst hu
  exact run_convert_bytes_back (P := Tryz.prog) W 22 9 5 ⟨g, 0, none⟩ 1 [u] Tryz.underlying22 Tryz.underlying5 Tryz.underlying9 (fun t ht => by
    obtain rfl : t = 0 := by simp at ht; omega
    simpa [Addr.add] using h)
/-- The decimal of k ahead of a text. -/
def mtL : Nat -> Nat -> ByteArray -> ByteArray
  | 0, _, out => out
  | f + 1, k, out => if k = 0 then out else mtL f (k / 10) (digM (k % 10) ++ out)
theorem mtL_zero (f : Nat) (out : ByteArray) : mtL f 0 out = out := by cases f <;> simp [mtL]
def mt (k : Nat) : ByteArray := ⟨#[109]⟩ ++ mtL 16 k ⟨#[]⟩
theorem markText_any (K : Nat) (w : World) (h1 : 1 <= K) (h2 : K < 1000000000000000) :
    Calls Tryz.prog 95 #[.int .i64 K] w fun e w' => Below w.heap.size w w' /\ e = .returned (.string (mt K)) := by
  go_enter Tryz.func95, Tryz.ntmps95
  go_wp2
  go_loopw [0, 3] (fun a v wr => ∃ (f k : Nat) (out : ByteArray), a = .int .i64 k /\ v = .string out /\ Hid (mtL f k out = mtL 16 K ⟨#[]⟩) /\ k < 10 ^ f /\ f <= 16 /\ out.size + f = 16 /\ Below w.heap.size w wr) (fun a _ _ => (intOf a).toNat)
  case atStart => exact ⟨16, K, ⟨#[]⟩, rfl, rfl, rfl, by omega, by omega, rfl, Below.refl _ _⟩
  case round =>
    obtain ⟨f, k, out, rfl, rfl, HM, hk, hf, ho, hbr⟩ := hrel
    by_cases h0 : k = 0
    · subst h0
      have HO : Hid (mt K = (⟨#[109]⟩ : ByteArray) ++ out) := by
        show mt K = _
        unfold mt
        rw [<- HM.out, mtL_zero]
      have hs : ((⟨#[109]⟩ : ByteArray) ++ out).size = 1 + out.size := ByteArray.size_append
      go_wp2
      go_ret
      exact ⟨hbr, by rw [HO.out]; rfl⟩
    · obtain ⟨g, rfl⟩ : ∃ g, f = g + 1 := by
        cases f with
        | zero => simp at hk; omega
        | succ g => exact ⟨g, rfl⟩
      have hk' : k / 10 < 10 ^ g := by rw [Nat.pow_succ] at hk; omega
      obtain ⟨d, ed⟩ : ∃ d, k % 10 = d := ⟨_, rfl⟩
      have hd : d < 10 := by omega
      have HM2 : Hid (mtL g (k / 10) (digM d ++ out) = mtL 16 K ⟨#[]⟩) := by
        show mtL g (k / 10) (digM d ++ out) = _
        rw [<- HM.out, <- ed]
        simp only [mtL, h0, if_false]
      have hu := dig_byteM d hd
      have hs : (digM d ++ out).size = 1 + out.size := ByteArray.size_append
      unfold digM at HM2 hs
      generalize UInt8.ofNat (48 + d) = u at *
      have e1 : (k : Int) % 10 = (d : Int) := by omega
      obtain ⟨k2, e2⟩ : ∃ k2, k / 10 = k2 := ⟨_, rfl⟩
      rw [e2] at HM2 hk'
      have e3 : (k : Int) / 10 = (k2 : Int) := by omega
      have hlt : k2 < k := by omega
      have hkI : (0 : Int) < (k : Int) := by omega
      have hcv := conv_oneM (wr.alloc (.cells #[.int .u8 (48 + d)] 5)) wr.heap.size (48 + d) u hu (by simp [go_sem])
      have hkb : k < 10000000000000000 := Nat.lt_of_lt_of_le hk (Nat.pow_le_pow_right (by omega) hf)
      have HK' : Hid (k2 < 10 ^ g) := hk'
      clear hu ed e2 hk hk' h0
      go_wp2
      go_roundw
      case rel => exact ⟨g, k2, _, by go_num, rfl, HM2.out, HK'.out, by omega, by rw [hs]; omega, hbr.alloc hbr.size _⟩
      case measure => simp [intOf]; omega
/-- All blocks but g stay. -/
def KeepB (g : Nat) (w w' : World) : Prop := ∀ b, b < w.heap.size -> b ≠ g -> w'.heap[b]? = w.heap[b]?
theorem KeepB.set {g : Nat} {w w' : World} (h : KeepB g w w') (j : Nat) (v : Value) : KeepB g w (w'.setCell ⟨g, j, none⟩ v) := fun b hb hne => by
  rw [Below.heap_setCell w' ⟨g, j, none⟩ v b hne]; exact h b hb hne
theorem KeepB.below {g : Nat} {w w' w2 : World} (h : KeepB g w w') (hs : w.heap.size <= w'.heap.size) (hb : Below w'.heap.size w' w2) : KeepB g w w2 := fun b hl hne => by
  rw [hb.block b (by omega)]; exact h b hl hne
/-- The first n instructions of the row bear the marks from K on. -/
def MkI (K n : Nat) (ys : List Value) : Prop := ∀ i, i < n -> ys[i * 3]? = some (.int .i64 ((K + 3 * i : Nat) : Int)) /\ ys[i * 3 + 1]? = some (.string (mt (K + 3 * i + 1))) /\ ys[i * 3 + 2]? = some (.int .i64 ((K + 3 * i + 2 : Nat) : Int))
theorem mkI_set {K k : Nat} {ys : List Value} (h : MkI K k ys) (hx : k * 3 + 2 < ys.length) :
    MkI K (k + 1) (((ys.set (k * 3) (.int .i64 ((K + 3 * k : Nat) : Int))).set (k * 3 + 1) (.string (mt (K + 3 * k + 1)))).set (k * 3 + 2) (.int .i64 ((K + 3 * k + 2 : Nat) : Int))) := by
  intro i hi
  rcases Nat.lt_or_ge i k with hl | hl
  · obtain ⟨h1, h2, h3⟩ := h i hl
    simp only [List.getElem?_set]
    rw [if_neg (by omega), if_neg (by omega), if_neg (by omega), if_neg (by omega), if_neg (by omega), if_neg (by omega), if_neg (by omega), if_neg (by omega), if_neg (by omega)]
    exact ⟨h1, h2, h3⟩
  · obtain rfl : i = k := by omega
    refine ⟨?_, ?_, ?_⟩ <;> simp [List.getElem?_set] <;> omega
theorem markInsS_any (B g n cap K : Nat) (xs : List Value) (w : World) (hown : w.ownsRow B 209 3 (.slice (some ⟨g, 0, none⟩) n cap) n xs) (hB : B <= w.heap.size) (hn : n <= 1048576) (h1 : 1 <= K) (h2 : K <= 900000000000000) :
    Calls Tryz.prog 138 #[.slice (some ⟨g, 0, none⟩) n cap, .int .i64 K] w fun e w' => e = .returned (.int .i64 ((K + 3 * n : Nat) : Int)) /\ Below B w w' /\ KeepB g w w' /\ ∃ ys, w'.ownsRow B 209 3 (.slice (some ⟨g, 0, none⟩) n cap) n ys /\ MkI K n ys := by
  have hBg : B <= g := (hown.lt g rfl).1
  go_enter Tryz.func138, Tryz.ntmps138
  go_wp2
  go_loopw [1, 5] (fun k i wr => ∃ (m : Nat) (ys : List Value), m <= n /\ i = .int .i64 m /\ k = .int .i64 ((K + 3 * m : Nat) : Int) /\ Hid (wr.ownsRow B 209 3 (.slice (some ⟨g, 0, none⟩) n cap) n ys) /\ Hid (MkI K m ys) /\ Hid (KeepB g w wr) /\ w.heap.size <= wr.heap.size /\ Below B w wr) (fun _ i _ => n - (intOf i).toNat)
  case atStart => exact ⟨0, xs, Nat.zero_le _, rfl, rfl, hown, (fun i hi => by omega : MkI K 0 xs), (fun b _ _ => rfl : KeepB g w w), Nat.le_refl _, Below.refl _ _⟩
  case round =>
    obtain ⟨m, ys, hm, rfl, rfl, HO, HM, HK, hsz, hbr⟩ := hrel
    clear hown
    by_cases hlt : m < n
    · have hlx : m * 3 + 2 < ys.length := by rw [HO.out.1]; omega
      have HM2 : Hid (MkI K (m + 1) (((ys.set (m * 3) (.int .i64 ((K + 3 * m : Nat) : Int))).set (m * 3 + 1) (.string (mt (K + 3 * m + 1)))).set (m * 3 + 2) (.int .i64 ((K + 3 * m + 2 : Nat) : Int)))) := mkI_set HM.out hlx
      have hKb : K + 3 * m + 1 < 1000000000000000 := by omega
      have HT : Hid (∀ W : World, Calls Tryz.prog 95 #[.int .i64 ((K + 3 * m + 1 : Nat) : Int)] W fun e w' => Below W.heap.size W w' /\ e = .returned (.string (mt (K + 3 * m + 1)))) := fun W => markText_any (K + 3 * m + 1) W (by omega) hKb
      generalize mt (K + 3 * m + 1) = t at *
      obtain ⟨c, ec⟩ : ∃ c, K + 3 * m = c := ⟨_, rfl⟩
      rw [ec] at HM2 HT hKb ⊢
      have HE : Hid (K + 3 * m = c) := ec
      clear ec
      obtain ⟨o1, d1⟩ := cell_of_length3 HO.out (j := m * 3) (by omega)
      have hfr := HO.out.frozenAt
      have hown1 := (HO.out.stored (m * 3) (.int .i64 (c : Int))).1
      have hmI : (m : Int) < (n : Int) := by omega
      go_wp2_with fail
      refine (HT.out _).mono ?_
      rintro e w2 ⟨hb2, rfl⟩
      have hown2 := ownsRow_below hown1 hb2
      have hbw : Below B w w2 := (hbr.setCell (p := ⟨g, m * 3, none⟩) hBg _).trans (hb2.mono (by simp; omega))
      have hfr2 := hown2.frozenAt
      obtain ⟨o2, d2⟩ := cell_of_length3 hown2 (j := m * 3 + 1) (by omega)
      obtain ⟨o3, d3⟩ := cell_of_length3 hown2 (j := m * 3 + 2) (by omega)
      have HO2 : Hid (w2.ownsRow B 209 3 (.slice (some ⟨g, 0, none⟩) n cap) n (ys.set (m * 3) (.int .i64 (c : Int)))) := hown2
      have HK2 : Hid (KeepB g w w2) := (HK.out.set (m * 3) (.int .i64 (c : Int))).below (by simpa using hsz) hb2
      have hs2 : w.heap.size <= w2.heap.size := by have := hb2.size; simp at this; omega
      clear hown1 hown2 hb2 hfr d1 hbr
      go_wp2
      go_roundw
      case rel => exact ⟨m + 1, _, by omega, by go_num, congrArg (Value.int .i64) (by have := HE.out; omega), ((HO2.out.stored _ _).1.stored _ _).1, HM2.out, (HK2.out.set _ _).set _ _, by simpa using hs2, (hbw.setCell (p := ⟨g, m * 3 + 1, none⟩) hBg _).setCell (p := ⟨g, m * 3 + 2, none⟩) hBg _⟩
      case measure => simp [intOf]; omega
    · have em : m = n := by omega
      subst em
      go_wp2
      go_ret
      exact ⟨rfl, hbr, HK.out, ys, HO.out, HM.out⟩
/-- The marks are read back. -/
def RdI (K n : Nat) (w : World) (g : Nat) : Prop := ∀ i, i < n -> w.cell? ⟨g, i * 3, none⟩ = some (.int .i64 ((K + 3 * i : Nat) : Int)) /\ w.cell? ⟨g, i * 3 + 1, none⟩ = some (.string (mt (K + 3 * i + 1))) /\ w.cell? ⟨g, i * 3 + 2, none⟩ = some (.int .i64 ((K + 3 * i + 2 : Nat) : Int))
theorem MkI.read {w : World} {B g n cap K : Nat} {ys : List Value} (h : w.ownsRow B 209 3 (.slice (some ⟨g, 0, none⟩) n cap) n ys) (hm : MkI K n ys) : RdI K n w g := by
  intro i hi
  obtain ⟨h1, h2, h3⟩ := hm i hi
  exact ⟨by rw [h.cellAt _ (by omega)]; exact h1, by rw [h.cellAt _ (by omega)]; exact h2, by rw [h.cellAt _ (by omega)]; exact h3⟩
theorem RdI.below {w w' : World} {g n K : Nat} (h : RdI K n w g) (hb : Below w.heap.size w w') : RdI K n w' g := fun i hi =>
  ⟨cell_below hb (h i hi).1, cell_below hb (h i hi).2.1, cell_below hb (h i hi).2.2⟩
theorem heldInsS_any (g n cap K : Nat) (w : World) (hr : RdI K n w g) (hn : n <= 1048576) (h1 : 1 <= K) (h2 : K <= 900000000000000) :
    Calls Tryz.prog 155 #[.slice (some ⟨g, 0, none⟩) n cap, .int .i64 K] w fun e w' => e = .returned (.int .i64 ((K + 3 * n : Nat) : Int)) /\ Below w.heap.size w w' := by
  have HR : Hid (RdI K n w g) := hr
  clear hr
  go_enter Tryz.func155, Tryz.ntmps155
  go_wp2
  go_loopw [1, 5] (fun k i wr => ∃ (m : Nat), m <= n /\ i = .int .i64 m /\ k = .int .i64 ((K + 3 * m : Nat) : Int) /\ Below w.heap.size w wr) (fun _ i _ => n - (intOf i).toNat)
  case atStart => exact ⟨0, Nat.zero_le _, rfl, rfl, Below.refl _ _⟩
  case round =>
    obtain ⟨m, hm, rfl, rfl, hbr⟩ := hrel
    by_cases hlt : m < n
    · obtain ⟨c1, c2, c3⟩ := (HR.out.below hbr) m hlt
      have hKb : K + 3 * m + 1 < 1000000000000000 := by omega
      have HT : Hid (∀ W : World, Calls Tryz.prog 95 #[.int .i64 ((K + 3 * m + 1 : Nat) : Int)] W fun e w' => Below W.heap.size W w' /\ e = .returned (.string (mt (K + 3 * m + 1)))) := fun W => markText_any (K + 3 * m + 1) W (by omega) hKb
      generalize mt (K + 3 * m + 1) = t at *
      obtain ⟨c, ec⟩ : ∃ c, K + 3 * m = c := ⟨_, rfl⟩
      rw [ec] at c1 c3 HT hKb ⊢
      have HE : Hid (K + 3 * m = c) := ec
      clear ec
      have et := str_eq (rfl : t = t)
      have hmI : (m : Int) < (n : Int) := by omega
      have hm0 : (0 : Int) <= (m : Int) := by omega
      have e1 : (((c + 1 : Nat) : Int)) = (c : Int) + 1 := by omega
      have e2 : (((c + 2 : Nat) : Int)) = (c : Int) + 1 + 1 := by omega
      rw [e2] at c3
      have hbA : Below wr.heap.size wr wr.drew := (Below.refl _ _).drew
      clear e1 e2
      go_wp2_with fail
      go_region_held3 (fun w' => w'.cell? ⟨g, m * 3, none⟩ = some (.int .i64 (c : Int)) /\ w'.cell? ⟨g, m * 3 + 1, none⟩ = some (.string t) /\ w'.cell? ⟨g, m * 3 + 2, none⟩ = some (.int .i64 ((c : Int) + 1 + 1)))
        (first | assumption | (simp [*]; done) | exact ⟨cell_below hb2 (by simp [*]), cell_below hb2 (by simp [*]), cell_below hb2 (by simp [*])⟩)
        (first | (go_at_call 95; refine (HT.out _).mono ?_; rintro e w2 ⟨hb2, rfl⟩))
      all_goals
        have d3 := cell_below hb2 (cell_below hbA c3)
        have hB2 := bt hbr (bt hbA hb2)
        clear c1 c2 c3 hb2 hbA
        go_wp2
        go_roundw
        case rel => exact ⟨m + 1, by omega, by go_num, congrArg (Value.int .i64) (by have := HE.out; omega), hB2⟩
        case measure => simp [intOf]; omega
    · have em : m = n := by omega
      subst em
      go_wp2
      go_ret
      exact ⟨rfl, hbr⟩
def mb (k : Nat) : Bool := decide (k % 3 = 0)
/-- The first n looks of the row bear the marks from K on. -/
def MkG (K n : Nat) (ys : List Value) : Prop := ∀ i, i < n -> ys[i * 3]? = some (.string (mt (K + 3 * i))) /\ ys[i * 3 + 1]? = some (.bool (mb (K + 3 * i + 1))) /\ ys[i * 3 + 2]? = some (.string (mt (K + 3 * i + 2)))
theorem mkG_set {K k : Nat} {ys : List Value} (h : MkG K k ys) (hx : k * 3 + 2 < ys.length) :
    MkG K (k + 1) (((ys.set (k * 3) (.string (mt (K + 3 * k)))).set (k * 3 + 1) (.bool (mb (K + 3 * k + 1)))).set (k * 3 + 2) (.string (mt (K + 3 * k + 2)))) := by
  intro i hi
  rcases Nat.lt_or_ge i k with hl | hl
  · obtain ⟨h1, h2, h3⟩ := h i hl
    simp only [List.getElem?_set]
    rw [if_neg (by omega), if_neg (by omega), if_neg (by omega), if_neg (by omega), if_neg (by omega), if_neg (by omega), if_neg (by omega), if_neg (by omega), if_neg (by omega)]
    exact ⟨h1, h2, h3⟩
  · obtain rfl : i = k := by omega
    refine ⟨?_, ?_, ?_⟩ <;> simp [List.getElem?_set] <;> omega
theorem rem3 (c : Nat) : (((c : Int) + 1) % 3 == 0) = mb (c + 1) := by
  unfold mb
  rw [Bool.eq_iff_iff]
  simp
  omega
theorem markGlanceS_any (B g n cap K : Nat) (xs : List Value) (w : World) (hown : w.ownsRow B 170 3 (.slice (some ⟨g, 0, none⟩) n cap) n xs) (hB : B <= w.heap.size) (hn : n <= 1048576) (h1 : 1 <= K) (h2 : K <= 900000000000000) :
    Calls Tryz.prog 154 #[.slice (some ⟨g, 0, none⟩) n cap, .int .i64 K] w fun e w' => e = .returned (.int .i64 ((K + 3 * n : Nat) : Int)) /\ Below B w w' /\ KeepB g w w' /\ ∃ ys, w'.ownsRow B 170 3 (.slice (some ⟨g, 0, none⟩) n cap) n ys /\ MkG K n ys := by
  have hBg : B <= g := (hown.lt g rfl).1
  go_enter Tryz.func154, Tryz.ntmps154
  go_wp2
  go_loopw [1, 5] (fun k i wr => ∃ (m : Nat) (ys : List Value), m <= n /\ i = .int .i64 m /\ k = .int .i64 ((K + 3 * m : Nat) : Int) /\ Hid (wr.ownsRow B 170 3 (.slice (some ⟨g, 0, none⟩) n cap) n ys) /\ Hid (MkG K m ys) /\ Hid (KeepB g w wr) /\ w.heap.size <= wr.heap.size /\ Below B w wr) (fun _ i _ => n - (intOf i).toNat)
  case atStart => exact ⟨0, xs, Nat.zero_le _, rfl, rfl, hown, (fun i hi => by omega : MkG K 0 xs), (fun b _ _ => rfl : KeepB g w w), Nat.le_refl _, Below.refl _ _⟩
  case round =>
    obtain ⟨m, ys, hm, rfl, rfl, HO, HM, HK, hsz, hbr⟩ := hrel
    clear hown
    by_cases hlt : m < n
    · have hlx : m * 3 + 2 < ys.length := by rw [HO.out.1]; omega
      have HM2 : Hid (MkG K (m + 1) (((ys.set (m * 3) (.string (mt (K + 3 * m)))).set (m * 3 + 1) (.bool (mb (K + 3 * m + 1)))).set (m * 3 + 2) (.string (mt (K + 3 * m + 2))))) := mkG_set HM.out hlx
      have hKb : K + 3 * m + 2 < 1000000000000000 := by omega
      have HT : Hid (∀ W : World, Calls Tryz.prog 95 #[.int .i64 ((K + 3 * m : Nat) : Int)] W fun e w' => Below W.heap.size W w' /\ e = .returned (.string (mt (K + 3 * m)))) := fun W => markText_any (K + 3 * m) W (by omega) (by omega)
      have HU : Hid (∀ W : World, Calls Tryz.prog 95 #[.int .i64 ((K + 3 * m : Nat) + 1 + 1 : Int)] W fun e w' => Below W.heap.size W w' /\ e = .returned (.string (mt (K + 3 * m + 2)))) := fun W => by
        have h := markText_any (K + 3 * m + 2) W (by omega) hKb
        rw [show ((K + 3 * m + 2 : Nat) : Int) = ((K + 3 * m : Nat) : Int) + 1 + 1 by omega] at h
        exact h
      have r1 := rem3 (K + 3 * m)
      generalize mt (K + 3 * m) = t at *
      generalize mt (K + 3 * m + 2) = u at *
      generalize mb (K + 3 * m + 1) = q at *
      obtain ⟨c, ec⟩ : ∃ c, K + 3 * m = c := ⟨_, rfl⟩
      rw [ec] at HT HU hKb r1 ⊢
      have HE : Hid (K + 3 * m = c) := ec
      clear ec
      have hmI : (m : Int) < (n : Int) := by omega
      go_wp2_with fail
      refine (HT.out _).mono ?_
      rintro e w2 ⟨hb2, rfl⟩
      have hown2 := ownsRow_below HO.out hb2
      have hbw : Below B w w2 := hbr.trans (hb2.mono (by omega))
      have hfr2 := hown2.frozenAt
      obtain ⟨o1, d1⟩ := cell_of_length3 hown2 (j := m * 3) (by omega)
      obtain ⟨o2, d2⟩ := cell_of_length3 hown2 (j := m * 3 + 1) (by omega)
      have HO2 : Hid (w2.ownsRow B 170 3 (.slice (some ⟨g, 0, none⟩) n cap) n ys) := hown2
      have HK2 : Hid (KeepB g w w2) := HK.out.below hsz hb2
      have hs2 : w.heap.size <= w2.heap.size := by have := hb2.size; omega
      clear hown2 hb2 hbr HO
      go_wp2_with fail
      refine (HU.out _).mono ?_
      rintro e w3 ⟨hb3, rfl⟩
      have hown3 := ownsRow_below ((HO2.out.stored (m * 3) (.string t)).1.stored (m * 3 + 1) (.bool q)).1 hb3
      have hbw3 : Below B w w3 := ((hbw.setCell (p := ⟨g, m * 3, none⟩) hBg _).setCell (p := ⟨g, m * 3 + 1, none⟩) hBg _).trans (hb3.mono (by simp; omega))
      have HK3 : Hid (KeepB g w w3) := ((HK2.out.set (m * 3) _).set (m * 3 + 1) _).below (by simpa using hs2) hb3
      have hs3 : w.heap.size <= w3.heap.size := by have := hb3.size; simp at this; omega
      have hfr3 := hown3.frozenAt
      obtain ⟨o3, d3⟩ := cell_of_length3 hown3 (j := m * 3 + 2) (by omega)
      have HO3 : Hid (w3.ownsRow B 170 3 (.slice (some ⟨g, 0, none⟩) n cap) n ((ys.set (m * 3) (.string t)).set (m * 3 + 1) (.bool q))) := hown3
      clear hown3 hb3 d1 d2 hbw hfr2 HO2
      go_wp2
      go_roundw
      case rel => exact ⟨m + 1, _, by omega, by go_num, congrArg (Value.int .i64) (by have := HE.out; omega), (HO3.out.stored _ _).1, HM2.out, HK3.out.set _ _, by simpa using hs3, hbw3.setCell (p := ⟨g, m * 3 + 2, none⟩) hBg _⟩
      case measure => simp [intOf]; omega
    · have em : m = n := by omega
      subst em
      go_wp2
      go_ret
      exact ⟨rfl, hbr, HK.out, ys, HO.out, HM.out⟩
theorem cell_of_length1 {w : World} {B g n cap j T : Nat} {xs : List Value} (h : w.ownsRow B T 1 (.slice (some ⟨g, 0, none⟩) n cap) n xs) (hj : j < n) : ∃ v, w.cell? ⟨g, j, none⟩ = some v := by
  have hl := h.1
  exact ⟨xs[j]'(by omega), by rw [h.cellAt j (by omega)]; exact List.getElem?_eq_getElem _⟩
/-- The marks are read back. -/
def RdG (K n : Nat) (w : World) (g : Nat) : Prop := ∀ i, i < n -> w.cell? ⟨g, i * 3, none⟩ = some (.string (mt (K + 3 * i))) /\ w.cell? ⟨g, i * 3 + 1, none⟩ = some (.bool (mb (K + 3 * i + 1))) /\ w.cell? ⟨g, i * 3 + 2, none⟩ = some (.string (mt (K + 3 * i + 2)))
theorem MkG.read {w : World} {B g n cap K T : Nat} {ys : List Value} (h : w.ownsRow B T 3 (.slice (some ⟨g, 0, none⟩) n cap) n ys) (hm : MkG K n ys) : RdG K n w g := by
  intro i hi
  obtain ⟨h1, h2, h3⟩ := hm i hi
  exact ⟨by rw [h.cellAt _ (by omega)]; exact h1, by rw [h.cellAt _ (by omega)]; exact h2, by rw [h.cellAt _ (by omega)]; exact h3⟩
theorem RdG.below {w w' : World} {g n K : Nat} (h : RdG K n w g) (hb : Below w.heap.size w w') : RdG K n w' g := fun i hi =>
  ⟨cell_below hb (h i hi).1, cell_below hb (h i hi).2.1, cell_below hb (h i hi).2.2⟩
theorem heldGlanceS_any (g n cap K : Nat) (w : World) (hr : RdG K n w g) (hn : n <= 1048576) (h1 : 1 <= K) (h2 : K <= 900000000000000) :
    Calls Tryz.prog 156 #[.slice (some ⟨g, 0, none⟩) n cap, .int .i64 K] w fun e w' => e = .returned (.int .i64 ((K + 3 * n : Nat) : Int)) /\ Below w.heap.size w w' := by
  have HR : Hid (RdG K n w g) := hr
  clear hr
  go_enter Tryz.func156, Tryz.ntmps156
  go_wp2
  go_loopw [1, 5] (fun k i wr => ∃ (m : Nat), m <= n /\ i = .int .i64 m /\ k = .int .i64 ((K + 3 * m : Nat) : Int) /\ Below w.heap.size w wr) (fun _ i _ => n - (intOf i).toNat)
  case atStart => exact ⟨0, Nat.zero_le _, rfl, rfl, Below.refl _ _⟩
  case round =>
    obtain ⟨m, hm, rfl, rfl, hbr⟩ := hrel
    by_cases hlt : m < n
    · obtain ⟨c1, c2, c3⟩ := (HR.out.below hbr) m hlt
      have hKb : K + 3 * m + 2 < 1000000000000000 := by omega
      have HT : Hid (∀ W : World, Calls Tryz.prog 95 #[.int .i64 ((K + 3 * m : Nat) : Int)] W fun e w' => Below W.heap.size W w' /\ e = .returned (.string (mt (K + 3 * m)))) := fun W => markText_any (K + 3 * m) W (by omega) (by omega)
      have HU : Hid (∀ W : World, Calls Tryz.prog 95 #[.int .i64 ((K + 3 * m : Nat) + 1 + 1 : Int)] W fun e w' => Below W.heap.size W w' /\ e = .returned (.string (mt (K + 3 * m + 2)))) := fun W => by
        have h := markText_any (K + 3 * m + 2) W (by omega) hKb
        rw [show ((K + 3 * m + 2 : Nat) : Int) = ((K + 3 * m : Nat) : Int) + 1 + 1 by omega] at h
        exact h
      have r1 := rem3 (K + 3 * m)
      generalize mt (K + 3 * m) = t at *
      generalize mt (K + 3 * m + 2) = u at *
      generalize mb (K + 3 * m + 1) = q at *
      obtain ⟨c, ec⟩ : ∃ c, K + 3 * m = c := ⟨_, rfl⟩
      rw [ec] at HT HU hKb r1 ⊢
      have HE : Hid (K + 3 * m = c) := ec
      clear ec
      have et := str_eq (rfl : t = t)
      have eu := str_eq (rfl : u = u)
      have hmI : (m : Int) < (n : Int) := by omega
      have hm0 : (0 : Int) <= (m : Int) := by omega
      have hbA : Below wr.heap.size wr wr.drew := (Below.refl _ _).drew
      go_wp2_with fail
      go_region_held3 (fun w' => w'.cell? ⟨g, m * 3, none⟩ = some (.string t) /\ w'.cell? ⟨g, m * 3 + 1, none⟩ = some (.bool q) /\ w'.cell? ⟨g, m * 3 + 2, none⟩ = some (.string u))
        (first | assumption | (simp [*]; done) | exact ⟨cell_below hb2 (by simp [*]), cell_below hb2 (by simp [*]), cell_below hb2 (by simp [*])⟩)
        (first | (go_at_call 95; refine (HT.out _).mono ?_; rintro e w2 ⟨hb2, rfl⟩))
      all_goals
        have d2 := cell_below hb2 (cell_below hbA c2)
        have d3 := cell_below hb2 (cell_below hbA c3)
        have hB2 := bt hbr (bt hbA hb2)
        clear c1 c2 c3 hb2 hbA
        have hbC : Below w2.heap.size w2 w2.drew := (Below.refl _ _).drew
        go_wp2_with fail
        go_region_held3 (fun w' => w'.cell? ⟨g, m * 3 + 2, none⟩ = some (.string u))
          (first | assumption | (simp [*]; done) | exact cell_below hb3 (by simp [*]))
          (first | (go_at_call 95; refine (HU.out _).mono ?_; rintro e w3 ⟨hb3, rfl⟩))
        all_goals
          have hB3 := bt hB2 (bt hbC hb3)
          clear d2 d3 hb3 hbC
          go_wp2
          go_roundw
          case rel => exact ⟨m + 1, by omega, by go_num, congrArg (Value.int .i64) (by have := HE.out; omega), hB3⟩
          case measure => simp [intOf]; omega
    · have em : m = n := by omega
      subst em
      go_wp2
      go_ret
      exact ⟨rfl, hbr⟩
end Go.Proofs.YtmeojnaoljgieaeGreatDoor
