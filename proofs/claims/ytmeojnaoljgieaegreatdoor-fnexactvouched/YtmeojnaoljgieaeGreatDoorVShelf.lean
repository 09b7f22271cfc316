import Derived.Test.YtmeojnaoljgieaeGreatDoorVValidS
import Derived.Lib.ItoaNum
import Derived.Deep.RegionWith
import Derived.Deep.RegionHeld3
import Derived.Shelf.Strconv.Itoa0
import Derived.Shelf.Strconv.Itoa1
import Derived.Shelf.LaysM
import Derived.Shelf.Strconv.Itoa2
import Derived.Shelf.Strconv.Itoa3
import Derived.Test.YtmeojnaoljgieaeGreatDoorProg
namespace Go.Proofs.YtmeojnaoljgieaeGreatDoor
open Go.RowKit
set_option linter.unusedVariables false

def progOk (is : List I3) : Bool := decide (1 <= is.length) && decide (is.length <= 200) && decide (∀ i, i < is.length -> insOk (ix is i) = true)

theorem insOk_out {i : I3} (h : i.op < 1 \/ 15 < i.op) : insOk i = false := by
  rw [Bool.eq_false_iff]
  simp only [insOk, ne_eq, Bool.and_eq_true, decide_eq_true_eq]
  omega
theorem insOk_in (o : Nat) (t : ByteArray) (n : Int) (h1 : 1 <= o) (h2 : o <= 15) : insOk ⟨o, t, n⟩ = (decide ((t.size : Int) <= mostT (kindOf o)) && decide (0 <= n) && decide (n <= mostN (kindOf o))) := by
  have d1 : decide (1 <= (o : Int)) = true := by simp; omega
  have d2 : decide ((o : Int) <= 15) = true := by simp; omega
  simp only [insOk, d1, d2, Bool.true_and]

theorem validIns_any (i : I3) (w : World) (hT : Tab w) (ht : i.text.size <= 9223372036854775807) :
    Calls Tryz.prog 176 #[.agg #[.int .i64 i.op, .string i.text, .int .i64 i.n]] w fun e w' => Below w.heap.size w w' /\ e = .returned (.bool (insOk i)) := by
  by_cases h : i.op < 1 \/ 15 < i.op
  · rw [insOk_out h]; exact validIns_out i w h
  · obtain ⟨op, t, n⟩ := i
    obtain ⟨o, rfl⟩ := Int.eq_ofNat_of_zero_le (show 0 <= op by simp at h; omega)
    have h1 : 1 <= o := by simp at h; omega
    have h2 : o <= 15 := by simp at h; omega
    rw [insOk_in o t n h1 h2]
    exact validIns_in o t n w _ h1 h2 ht (hT o (by omega)).2.1

theorem l2InsOk_any (i : I3) (w : World) (ht : i.text.size <= 9223372036854775807) :
    Calls Tryz.prog 150 #[.agg #[.int .i64 i.op, .string i.text, .int .i64 i.n]] w fun e w' => Below w.heap.size w w' /\ e = .returned (.bool (insOk i)) := by
  by_cases h : i.op < 1 \/ 15 < i.op
  · rw [insOk_out h]; exact l2InsOk_out i w h
  · obtain ⟨op, t, n⟩ := i
    obtain ⟨o, rfl⟩ := Int.eq_ofNat_of_zero_le (show 0 <= op by simp at h; omega)
    have h1 : 1 <= o := by simp at h; omega
    have h2 : o <= 15 := by simp at h; omega
    rw [insOk_in o t n h1 h2]
    exact l2InsOk_in o t n w h1 h2 ht

theorem progOk_bad {is : List I3} {k : Nat} (hk : k < is.length) (h : insOk (ix is k) = false) : progOk is = false := by
  rw [Bool.eq_false_iff]
  simp only [progOk, ne_eq, Bool.and_eq_true, decide_eq_true_eq]
  intro hh
  have := hh.2 k hk
  rw [h] at this; cases this
theorem progOk_good {is : List I3} (h : ∀ i, i < is.length -> insOk (ix is i) = true) : progOk is = (decide (1 <= is.length) && decide (is.length <= 200)) := by
  simp only [progOk, decide_eq_true h, Bool.and_true]

set_option maxHeartbeats 800000 in
theorem specValid_any (a : Option Addr) (cap : Nat) (is : List I3) (w : World) (hc : Row3 w a is) (hl : is.length <= 1048576) (hs : ∀ i, (ix is i).text.size <= 9223372036854775807) :
    Calls Tryz.prog 92 #[.agg #[.slice a is.length cap]] w fun e w' => Below w.heap.size w w' /\ e = .returned (.bool (progOk is)) := by
  have hb0 : Below w.heap.size w (w.alloc (.cells #[.slice a is.length cap] 60)) := (Below.refl _ _).alloc (Nat.le_refl _) _
  go_enter Tryz.func92, Tryz.ntmps92
  go_wp2
  go_loopw [3] (fun i wr => ∃ k : Nat, k <= is.length /\ i = .int .i64 k /\ (∀ i, i < k -> insOk (ix is i) = true) /\ Below w.heap.size w wr /\ wr.cell? ⟨w.heap.size, 0, none⟩ = some (.slice a is.length cap)) (fun i _ => is.length - (intOf i).toNat)
  case atStart => exact ⟨0, Nat.zero_le _, rfl, fun i hi => by omega, hb0, by simp [go_sem]⟩
  case round =>
    obtain ⟨k, hk, rfl, hok, hbr, hcs⟩ := hrel
    have HK : Hid (∀ i, i < k -> insOk (ix is i) = true) := hok
    clear hok
    by_cases hlt : k < is.length
    · obtain ⟨b, off, rfl, c1, c2, c3⟩ := (hc.below hbr) k hlt
      have hsk := hs k
      obtain ⟨i, hi⟩ : ∃ i, i = ix is k := ⟨_, rfl⟩
      rw [<- hi] at c1 c2 c3 hsk
      have HI : Hid (i = ix is k) := hi
      clear hi hs hc hb0
      go_wp2_with fail
      refine (l2InsOk_any i _ hsk).mono ?_
      rintro e w1 ⟨hb1, rfl⟩
      have hbw : Below w.heap.size w w1 := hbr.trans (hb1.mono hbr.size)
      have hcs1 := cell_below hb1 hcs
      by_cases hb : insOk i = true
      · go_wp2
        go_roundw
        case rel =>
          refine ⟨k + 1, by omega, by go_num, fun i' hi' => ?_, hbw, hcs1⟩
          rcases Nat.lt_or_ge i' k with h | h
          · exact HK.out i' h
          · obtain rfl : i' = k := by omega
            rw [<- HI.out]; exact hb
        case measure => simp [intOf]; omega
      · have hb' : insOk i = false := by simpa using hb
        have hf : progOk is = false := progOk_bad hlt (by rw [<- HI.out]; exact hb')
        have HF : Hid (progOk is = false) := hf
        clear hf hb
        go_wp2
        go_ret
        exact ⟨hbw, by rw [HF.out]; rfl⟩
    · have hall : ∀ i, i < is.length -> insOk (ix is i) = true := fun i hi => HK.out i (by omega)
      have HG : Hid (progOk is = (decide (1 <= is.length) && decide (is.length <= 200))) := progOk_good hall
      clear hall hs
      by_cases h1 : 1 <= is.length
      · have d1 : decide ((1 : Int) <= is.length) = true := by simp; omega
        have d1' : decide (1 <= is.length) = true := by simpa using h1
        go_wp2
        go_ret
        exact ⟨hbr, by rw [HG.out, d1', Bool.true_and]; show Ending.returned (.bool (decide ((is.length : Int) <= 200))) = _; exact congrArg (fun b => Ending.returned (.bool b)) (by rw [Bool.eq_iff_iff, decide_eq_true_eq, decide_eq_true_eq]; omega)⟩
      · have d1 : decide ((1 : Int) <= is.length) = false := by simp; omega
        have d1' : decide (1 <= is.length) = false := by rw [decide_eq_false_iff_not]; exact h1
        go_wp2
        go_ret
        exact ⟨hbr, by rw [HG.out, d1', Bool.false_and]; rfl⟩

theorem progOk_len {is : List I3} (h : is.length < 1 \/ 200 < is.length) : progOk is = false := by
  rw [Bool.eq_false_iff]
  simp only [progOk, ne_eq, Bool.and_eq_true, decide_eq_true_eq]
  omega

set_option maxHeartbeats 800000 in
theorem implValid_any (a : Option Addr) (cap : Nat) (is : List I3) (w : World) (hT : Tab w) (hc : Row3 w a is) (hl : is.length <= 1048576) (hs : ∀ i, (ix is i).text.size <= 9223372036854775807) :
    Calls Tryz.prog 126 #[.agg #[.slice a is.length cap]] w fun e w' => Below w.heap.size w w' /\ e = .returned (.bool (progOk is)) := by
  have hb0 : Below w.heap.size w (w.alloc (.cells #[.slice a is.length cap] 60)) := (Below.refl _ _).alloc (Nat.le_refl _) _
  by_cases hlen : is.length < 1 \/ 200 < is.length
  · rw [progOk_len hlen]
    by_cases h1 : is.length < 1
    · have d1 : decide ((is.length : Int) < 1) = true := by simp; omega
      go_enter Tryz.func126, Tryz.ntmps126
      go_wp2
      go_ret
      exact ⟨hb0, rfl⟩
    · have d1 : decide ((is.length : Int) < 1) = false := by simp; omega
      have d2 : decide (200 < (is.length : Int)) = true := by simp; omega
      go_enter Tryz.func126, Tryz.ntmps126
      go_wp2
      go_ret
      exact ⟨hb0, rfl⟩
  · have d1 : decide ((is.length : Int) < 1) = false := by simp; omega
    have d2 : decide (200 < (is.length : Int)) = false := by simp; omega
    have l1 : 1 <= is.length := by omega
    have l2 : is.length <= 200 := by omega
    clear hlen
    go_enter Tryz.func126, Tryz.ntmps126
    go_wp2
    go_loopw [18] (fun i wr => ∃ k : Nat, k <= is.length /\ i = .int .i64 k /\ (∀ i, i < k -> insOk (ix is i) = true) /\ Below w.heap.size w wr) (fun i _ => is.length - (intOf i).toNat)
    case atStart => exact ⟨0, Nat.zero_le _, rfl, fun i hi => by omega, hb0⟩
    case round =>
      obtain ⟨k, hk, rfl, hok, hbr⟩ := hrel
      have HK : Hid (∀ i, i < k -> insOk (ix is i) = true) := hok
      clear hok
      by_cases hlt : k < is.length
      · obtain ⟨b, off, rfl, c1, c2, c3⟩ := (hc.below hbr) k hlt
        have hsk := hs k
        obtain ⟨i, hi⟩ : ∃ i, i = ix is k := ⟨_, rfl⟩
        rw [<- hi] at c1 c2 c3 hsk
        have HI : Hid (i = ix is k) := hi
        have hTr := hT.below hbr
        have HTr : Hid (Tab wr) := hTr
        clear hi hs hc hb0 hT hTr
        go_wp2_with fail
        have hba : Below wr.heap.size wr (wr.alloc (.cells #[.int .i64 i.op, .string i.text, .int .i64 i.n] 209)) := (Below.refl _ _).alloc (Nat.le_refl _) _
        refine (validIns_any i _ (HTr.out.below hba) hsk).mono ?_
        rintro e w1 ⟨hb1, rfl⟩
        have hbw : Below w.heap.size w w1 := (hbr.trans (hba.mono hbr.size)).trans (hb1.mono (by simp; have := hbr.size; omega))
        clear hba hb1
        by_cases hb : insOk i = true
        · go_wp2
          go_roundw
          case rel =>
            refine ⟨k + 1, by omega, by go_num, fun i' hi' => ?_, hbw⟩
            rcases Nat.lt_or_ge i' k with h | h
            · exact HK.out i' h
            · obtain rfl : i' = k := by omega
              rw [<- HI.out]; exact hb
          case measure => simp [intOf]; omega
        · have hb' : insOk i = false := by simpa using hb
          have HF : Hid (progOk is = false) := progOk_bad hlt (by rw [<- HI.out]; exact hb')
          clear hb
          go_wp2
          go_ret
          exact ⟨hbw, by rw [HF.out]; rfl⟩
      · have hall : ∀ i, i < is.length -> insOk (ix is i) = true := fun i hi => HK.out i (by omega)
        have HG : Hid (progOk is = true) := by
          show progOk is = true
          rw [progOk_good hall, decide_eq_true l1, decide_eq_true l2]; rfl
        clear hall hs
        go_wp2
        go_ret
        exact ⟨hbr, by rw [HG.out]; rfl⟩

end Go.Proofs.YtmeojnaoljgieaeGreatDoor
namespace Go.Proofs.YtmeojnaoljgieaeGreatDoor
open Go.RowKit
set_option linter.unusedVariables false

theorem dec_length : ∀ (k n : Nat), n < 10 ^ (k + 1) -> (Lib.decDigits n).length <= k + 1
  | 0, n, h => by rw [Lib.decDigits, dif_pos (by simpa using h)]; simp
  | k + 1, n, h => by
    rw [Lib.decDigits]
    split
    · simp
    · have := dec_length k (n / 10) (by rw [Nat.pow_succ] at h; omega)
      simp; omega
end Go.Proofs.YtmeojnaoljgieaeGreatDoor
namespace Go.Proofs.YtmeojnaoljgieaeGreatDoor
open Go.RowKit
set_option linter.unusedVariables false

theorem conv_one (W : World) (g : Nat) (c : Int) (u : UInt8) (hu : (u.toNat : Int) = c) (h : W.cell? ⟨g, 0, none⟩ = some (.int .u8 c)) : (convert 22 9 (.slice (some ⟨g, 0, none⟩) 1 1)).run Tryz.prog W = .ok (.string ⟨#[u]⟩) W := by
  subst hu
  exact run_convert_bytes_back (P := Tryz.prog) W 22 9 5 ⟨g, 0, none⟩ 1 [u] Tryz.underlying22 Tryz.underlying5 Tryz.underlying9 (fun t ht => by
    obtain rfl : t = 0 := by simp at ht; omega
    simpa [Addr.add] using h)

theorem dig_byte (d : Nat) (h : d < 10) : ((UInt8.ofNat (48 + d)).toNat : Int) = 48 + d := by rw [UInt8.toNat_ofNat']; omega

theorem str_snoc (l : List UInt8) (u : UInt8) : (⟨l.toArray⟩ : ByteArray) ++ (⟨#[u]⟩ : ByteArray) = ⟨(l ++ [u]).toArray⟩ := by
  apply WideShapes.bytes_inj
  simp [ByteArray.data_append]

set_option maxRecDepth 100000 in
set_option maxHeartbeats 400000 in
theorem l2Dec_any : ∀ (n : Nat) (w : World), n <= 1000000 -> Calls Tryz.prog 146 #[.int .i64 n] w fun e w' => e = .returned (.string ⟨(Lib.decDigits n).toArray⟩) /\ Below w.heap.size w w' := by
  intro n
  induction n using Nat.strongRecOn with
  | _ n ih =>
    intro w hn
    by_cases h : n < 10
    · have hdd : Lib.decDigits n = [UInt8.ofNat (48 + n)] := by rw [Lib.decDigits, dif_pos h]
      have hu := dig_byte n h
      rw [hdd]
      generalize UInt8.ofNat (48 + n) = u at *
      have hcv := conv_one (w.alloc (.cells #[.int .u8 (48 + n)] 5)) w.heap.size (48 + n) u hu (by simp [go_sem])
      clear hdd ih hu
      go_enter Tryz.func146, Tryz.ntmps146
      go_wp2
      go_ret
      exact ⟨rfl, (Below.refl _ _).alloc (Nat.le_refl _) _⟩
    · have hdd : Lib.decDigits n = Lib.decDigits (n / 10) ++ [UInt8.ofNat (48 + n % 10)] := by rw [Lib.decDigits, dif_neg h]
      rw [hdd, <- str_snoc]
      have hl := dec_length 6 (n / 10) (by omega)
      have hq : (⟨(Lib.decDigits (n / 10)).toArray⟩ : ByteArray).size <= 10 := by
        show (Lib.decDigits (n / 10)).toArray.size <= 10
        rw [List.size_toArray]; omega
      have IH : Hid (∀ W : World, Calls Tryz.prog 146 #[.int .i64 ((n / 10 : Nat) : Int)] W fun e w' => e = .returned (.string ⟨(Lib.decDigits (n / 10)).toArray⟩) /\ Below W.heap.size W w') := fun W => ih (n / 10) (by omega) W (by omega)
      clear ih hdd hl
      generalize (⟨(Lib.decDigits (n / 10)).toArray⟩ : ByteArray) = q at *
      obtain ⟨m, e1, em⟩ : ∃ m : Nat, (n : Int) / 10 = (m : Int) /\ n / 10 = m := ⟨n / 10, by omega, rfl⟩
      rw [em] at IH
      clear em
      have hdb := dig_byte (n % 10) (by omega)
      have hmod : (n : Int).tmod 10 = ((n % 10 : Nat) : Int) := by rw [Int.tmod_eq_emod_of_nonneg (by omega)]; omega
      obtain ⟨c, e3, hu⟩ : ∃ c : Int, IntKind.u8.wrap (IntKind.i64.wrap (48 + (n : Int).tmod 10)) = c /\ ((UInt8.ofNat (48 + n % 10)).toNat : Int) = c := by
        refine ⟨_, rfl, ?_⟩
        rw [hdb, hmod, IntWalk.i64_in _ ⟨by omega, by omega⟩]
        have : IntKind.u8.wrap (48 + ((n % 10 : Nat) : Int)) = (48 + ((n % 10 : Nat) : Int)) % 256 := by simp [IntKind.wrap, IntKind.bits, IntKind.signed]
        rw [this]; omega
      generalize UInt8.ofNat (48 + n % 10) = u at *
      clear hdb hmod
      have hcv := fun (W : World) (g : Nat) => conv_one W g c u hu
      have IH2 : Hid (∀ W : World, W.cell? ⟨w.heap.size, 0, none⟩ = some (.int .u8 c) -> Calls Tryz.prog 146 #[.int .i64 (m : Int)] W fun e w' => e = .returned (.string q) /\ Below W.heap.size W w' /\ w'.cell? ⟨w.heap.size, 0, none⟩ = some (.int .u8 c)) := fun W hW => (IH.out W).mono fun e w' ⟨he, hb⟩ => ⟨he, hb, cell_below hb hW⟩
      clear hu
      go_enter Tryz.func146, Tryz.ntmps146
      go_wp2
      go_region_with (first | (go_at_call 146; rw [show IntKind.i64.wrap (m : Int) = (m : Int) from IntWalk.i64_in _ ⟨by omega, by omega⟩]; refine (IH2.out _ ?_).mono ?_; (focus (simp [go_sem]; done)); rintro e w1 ⟨rfl, hb1, hcc⟩) | (go_at_call 146; rw [show IntKind.i64.wrap (m : Int) = (m : Int) from IntWalk.i64_in _ ⟨by omega, by omega⟩]; refine (IH.out _).mono ?_; rintro e w1 ⟨rfl, hb1⟩))
      all_goals go_wp2
      all_goals go_ret
      · exact ⟨rfl, ((Below.refl _ _).drew.trans hb1).alloc (by have := hb1.size; simpa using this) _⟩
      · exact ⟨rfl, (((Below.refl _ _).drew.alloc (Nat.le_refl _) _).trans (hb1.mono (by simp)))⟩
      · exact ⟨rfl, (((Below.refl _ _).drew.alloc (Nat.le_refl _) _).trans (hb1.mono (by simp)))⟩

end Go.Proofs.YtmeojnaoljgieaeGreatDoor
namespace Go.Proofs
open Go.Shelf
def Tryz.laysM171_ren : Go.Shelf.Ren := ⟨fun | 171 => 52 | 243 => 109 | 246 => 169 | 283 => 195 | 284 => 196 | 285 => 197 | 286 => 198 | 129 => 222 | 317 => 221 | 318 => 223 | 319 => 224 | 320 => 225 | 337 => 235 | 338 => 236 | n => n, fun | 3 => 3 | 9 => 9 | 2 => 2 | 4 => 4 | 171 => 262 | 0 => 0 | 53 => 234 | 37 => 22 | 5 => 5 | 173 => 265 | 212 => 288 | 51 => 289 | 20 => 20 | 213 => 290 | 46 => 281 | 232 => 300 | 233 => 301 | n => n, fun | 17 => 1 | 18 => 2 | 19 => 3 | n => n⟩
theorem Tryz.laysM171 : Go.Proofs.LaysM.n171 Tryz.prog Tryz.laysM171_ren := {
  mixed := by kernel_rfl
  f129 := Tryz.func222.trans (congrArg some (by kernel_rfl))
  f171 := Tryz.func52.trans (congrArg some (by kernel_rfl))
  f243 := Tryz.func109.trans (congrArg some (by kernel_rfl))
  f246 := Tryz.func169.trans (congrArg some (by kernel_rfl))
  f283 := Tryz.func195.trans (congrArg some (by kernel_rfl))
  f284 := Tryz.func196.trans (congrArg some (by kernel_rfl))
  f285 := Tryz.func197.trans (congrArg some (by kernel_rfl))
  f286 := Tryz.func198.trans (congrArg some (by kernel_rfl))
  f317 := Tryz.func221.trans (congrArg some (by kernel_rfl))
  f318 := Tryz.func223.trans (congrArg some (by kernel_rfl))
  f319 := Tryz.func224.trans (congrArg some (by kernel_rfl))
  f320 := Tryz.func225.trans (congrArg some (by kernel_rfl))
  f337 := Tryz.func235.trans (congrArg some (by kernel_rfl))
  f338 := Tryz.func236.trans (congrArg some (by kernel_rfl))
  t0 := Tryz.underlying0
  a0 := Tryz.isAgg0
  z0 := Tryz.sizeOf0
  v0 := Tryz.zeroValue0
  t2 := Tryz.underlying2
  a2 := Tryz.isAgg2
  z2 := Tryz.sizeOf2
  v2 := Tryz.zeroValue2
  t3 := Tryz.underlying3
  a3 := Tryz.isAgg3
  z3 := Tryz.sizeOf3
  v3 := Tryz.zeroValue3
  t4 := Tryz.underlying4
  a4 := Tryz.isAgg4
  z4 := Tryz.sizeOf4
  v4 := Tryz.zeroValue4
  t5 := Tryz.underlying5
  a5 := Tryz.isAgg5
  z5 := Tryz.sizeOf5
  v5 := Tryz.zeroValue5
  t9 := Tryz.underlying9
  a9 := Tryz.isAgg9
  z9 := Tryz.sizeOf9
  v9 := Tryz.zeroValue9
  t20 := Tryz.underlying20
  a20 := Tryz.isAgg20
  z20 := Tryz.sizeOf20
  v20 := Tryz.zeroValue20
  t37 := Tryz.underlying22
  a37 := Tryz.isAgg22
  z37 := Tryz.sizeOf22
  v37 := Tryz.zeroValue22
  t46 := Tryz.underlying281
  a46 := Tryz.isAgg281
  z46 := Tryz.sizeOf281
  v46 := Tryz.zeroValue281
  t51 := Tryz.underlying289
  a51 := Tryz.isAgg289
  z51 := Tryz.sizeOf289
  v51 := Tryz.zeroValue289
  t53 := Tryz.underlying234
  a53 := Tryz.isAgg234
  z53 := Tryz.sizeOf234
  v53 := Tryz.zeroValue234
  t171 := Tryz.underlying262
  a171 := Tryz.isAgg262
  z171 := Tryz.sizeOf262
  v171 := Tryz.zeroValue262
  t173 := Tryz.underlying265
  a173 := Tryz.isAgg265
  z173 := Tryz.sizeOf265
  v173 := Tryz.zeroValue265
  t212 := Tryz.underlying288
  a212 := Tryz.isAgg288
  z212 := Tryz.sizeOf288
  v212 := Tryz.zeroValue288
  t213 := Tryz.underlying290
  a213 := Tryz.isAgg290
  z213 := Tryz.sizeOf290
  t232 := Tryz.underlying300
  a232 := Tryz.isAgg300
  z232 := Tryz.sizeOf300
  v232 := Tryz.zeroValue300
  t233 := Tryz.underlying301
  a233 := Tryz.isAgg301
  z233 := Tryz.sizeOf301
  v233 := Tryz.zeroValue301
  g17 := by kernel_rfl
  g18 := by kernel_rfl
  g19 := by kernel_rfl
  i0 := by kernel_rfl
  i2 := by kernel_rfl
  i3 := by kernel_rfl
  i4 := by kernel_rfl
  i5 := by kernel_rfl
  i9 := by kernel_rfl
  i20 := by kernel_rfl
  i37 := by kernel_rfl
  i46 := by kernel_rfl
  i51 := by kernel_rfl
  i53 := by kernel_rfl
  i171 := by kernel_rfl
  i173 := by kernel_rfl
  i212 := by kernel_rfl
  i232 := by kernel_rfl
  i233 := by kernel_rfl
  m17 := by kernel_rfl
  m18 := by kernel_rfl
  m19 := by kernel_rfl }
open Go.RowKit Go.Sort Go.Lib in
theorem Tryz.strconv_Itoa (n : Int) (h0 : -9223372036854775808 <= n) (h1 : n <= 9223372036854775807) (w : World) (htab : Lib.TabIs Tryz.prog w "internal/strconv.uint64pow10" .u64 Lib.pow10Tab) :
    Calls Tryz.prog 52 #[.int .i64 n] w fun e w' => e = .returned (.string ⟨(Lib.itoa n).toArray⟩) /\ ∃ k os, w' = grow (w.drewN k) os := Any.strconv_Itoa Tryz.laysM171 n h0 h1 w htab
end Go.Proofs
