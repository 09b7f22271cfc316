/-
  PLAIN: how an instruction is written.
-/
import Derived.Test.YtmpgajfccaoboaeGreatDoorValid
import Derived.Lib.ItoaNum
import Derived.Deep.RegionWith
import Derived.Deep.RegionHeld3
namespace Go.Proofs.YtmpgajfccaoboaeGreatDoor
open Go.RowKit
set_option linter.unusedVariables false

def hexL : List UInt8 := [48, 49, 50, 51, 52, 53, 54, 55, 56, 57, 97, 98, 99, 100, 101, 102]
def hexd (j : Nat) : UInt8 := hexL.getD j 0
def plainB (u : UInt8) : Bool := decide (32 ≤ u.toNat) && decide (u.toNat ≤ 126) && decide (u.toNat ≠ 34) && decide (u.toNat ≠ 92)
def qbyte (u : UInt8) : List UInt8 := if plainB u then [u] else [92, hexd (u.toNat / 16), hexd (u.toNat % 16)]
def quoteL (l : List UInt8) : List UInt8 := [34] ++ l.flatMap qbyte ++ [34]
def lineL (i : I3) : List UInt8 :=
  (wordB i.op.toNat).data.toList ++ (if kindOf i.op = 1 then 32 :: quoteL i.text.data.toList else if kindOf i.op = 0 then [] else 32 :: Lib.decDigits i.n.toNat)
def printL (is : List I3) (k : Nat) : List UInt8 := (List.range k).flatMap fun j => lineL (ix is j) ++ [10]
theorem printL_succ (is : List I3) (k : Nat) : printL is (k + 1) = printL is k ++ (lineL (ix is k) ++ [10]) := by simp [printL, List.range_succ]
theorem qbyte_length (u : UInt8) : (qbyte u).length ≤ 3 := by unfold qbyte; split <;> simp
theorem flat_length (l : List UInt8) : (l.flatMap qbyte).length ≤ 3 * l.length := by
  induction l with
  | nil => simp
  | cons u l ih => have := qbyte_length u; rw [List.flatMap_cons, List.length_append, List.length_cons]; omega
theorem quoteL_length (l : List UInt8) : (quoteL l).length ≤ 3 * l.length + 2 := by
  have := flat_length l
  unfold quoteL
  rw [List.length_append, List.length_append, List.length_singleton]
  omega
theorem dec_length : ∀ (k n : Nat), n < 10 ^ (k + 1) → (Lib.decDigits n).length ≤ k + 1
  | 0, n, h => by rw [Lib.decDigits, dif_pos (by simpa using h)]; simp
  | k + 1, n, h => by
    rw [Lib.decDigits]
    split
    · simp
    · have := dec_length k (n / 10) (by rw [Nat.pow_succ] at h; omega)
      simp; omega
theorem word_length (o : Nat) : (wordB o).data.toList.length ≤ 6 := by
  by_cases h : o < 16
  · rcases (show o = 0 ∨ o = 1 ∨ o = 2 ∨ o = 3 ∨ o = 4 ∨ o = 5 ∨ o = 6 ∨ o = 7 ∨ o = 8 ∨ o = 9 ∨ o = 10 ∨ o = 11 ∨ o = 12 ∨ o = 13 ∨ o = 14 ∨ o = 15 from by omega) with rfl | rfl | rfl | rfl | rfl | rfl | rfl | rfl | rfl | rfl | rfl | rfl | rfl | rfl | rfl | rfl <;> decide
  · have e : words.getD o [] = [] := by
      rw [List.getD_eq_getElem?_getD, List.getElem?_eq_none (show words.length ≤ o from by have : words.length = 16 := rfl; omega)]; rfl
    unfold wordB
    rw [e]; simp
theorem lineL_length {i : I3} (h : insOk i = true) : (lineL i).length ≤ 6100 := by
  simp only [insOk, Bool.and_eq_true, decide_eq_true_eq] at h
  obtain ⟨⟨⟨⟨_, _⟩, ht⟩, h0⟩, hn⟩ := h
  have hw := word_length i.op.toNat
  unfold lineL
  rw [List.length_append]
  split
  · rename_i hk
    rw [hk] at ht
    have ht' : i.text.size ≤ 2000 := by simp [mostT] at ht; omega
    have hq := quoteL_length i.text.data.toList
    have he : i.text.data.toList.length = i.text.size := Array.length_toList
    rw [List.length_cons]; omega
  · split
    · rw [List.length_nil]; omega
    · have hm : i.n.toNat ≤ 2000 := by
        have : mostN (kindOf i.op) ≤ 2000 := by
          unfold mostN
          split
          · omega
          · split <;> omega
        omega
      have hd := dec_length 3 i.n.toNat (by omega)
      rw [List.length_cons]; omega
theorem printL_length {is : List I3} (h : ∀ i, i < is.length → insOk (ix is i) = true) : ∀ k, k ≤ is.length → (printL is k).length ≤ 6101 * k
  | 0, _ => by simp [printL]
  | k + 1, hk => by
    have := printL_length h k (by omega)
    have h2 := lineL_length (h k (by omega))
    rw [printL_succ]; simp; omega

def bcells (l : List UInt8) : List Value := l.map fun b => Value.int .u8 b.toNat
theorem bcells_append (l m : List UInt8) : bcells (l ++ m) = bcells l ++ bcells m := by simp [bcells]
theorem bcells_length (l : List UInt8) : (bcells l).length = l.length := by simp [bcells]
theorem bcells_one (l : List UInt8) : ∀ u ∈ bcells l, u.oneCell' = true := by
  intro u hu; obtain ⟨_, _, rfl⟩ := List.mem_map.1 hu; rfl

open Go.RowKit
set_option linter.unusedVariables false

theorem conv_one (W : World) (g : Nat) (c : Int) (u : UInt8) (hu : (u.toNat : Int) = c) (h : W.cell? ⟨g, 0, none⟩ = some (.int .u8 c)) : (convert 22 9 (.slice (some ⟨g, 0, none⟩) 1 1)).run Tryz.prog W = .ok (.string ⟨#[u]⟩) W := by
  subst hu
  exact run_convert_bytes_back (P := Tryz.prog) W 22 9 5 ⟨g, 0, none⟩ 1 [u] Tryz.underlying22 Tryz.underlying5 Tryz.underlying9 (fun t ht => by
    obtain rfl : t = 0 := by simp at ht; omega
    simpa [Addr.add] using h)

theorem dig_byte (d : Nat) (h : d < 10) : ((UInt8.ofNat (48 + d)).toNat : Int) = 48 + d := by rw [UInt8.toNat_ofNat']; omega

theorem str_snoc (l : List UInt8) (u : UInt8) : (⟨l.toArray⟩ : ByteArray) ++ (⟨#[u]⟩ : ByteArray) = ⟨(l ++ [u]).toArray⟩ := by
  apply WideShapes.bytes_inj
  simp [ByteArray.data_append]

set_option maxRecDepth 100000 in
set_option maxHeartbeats 400000 in
theorem l2Dec_any : ∀ (n : Nat) (w : World), n ≤ 1000000 → Calls Tryz.prog 132 #[.int .i64 n] w fun e w' => e = .returned (.string ⟨(Lib.decDigits n).toArray⟩) ∧ Below w.heap.size w w' := by
  intro n
  induction n using Nat.strongRecOn with
  | _ n ih =>
    intro w hn
    by_cases h : n < 10
    · have hdd : Lib.decDigits n = [UInt8.ofNat (48 + n)] := by rw [Lib.decDigits, dif_pos h]
      have hu := dig_byte n h
      rw [hdd]
      generalize UInt8.ofNat (48 + n) = u at *
      have hcv := conv_one (w.alloc (.cells #[.int .u8 (48 + n)] 5)) w.heap.size (48 + n) u hu (by simp [go_sem])
      clear hdd ih hu
      go_enter Tryz.func132, Tryz.ntmps132
      go_wp2
      go_ret
      exact ⟨rfl, (Below.refl _ _).alloc (Nat.le_refl _) _⟩
    · have hdd : Lib.decDigits n = Lib.decDigits (n / 10) ++ [UInt8.ofNat (48 + n % 10)] := by rw [Lib.decDigits, dif_neg h]
      rw [hdd, ← str_snoc]
      have hl := dec_length 6 (n / 10) (by omega)
      have hq : (⟨(Lib.decDigits (n / 10)).toArray⟩ : ByteArray).size ≤ 10 := by
        show (Lib.decDigits (n / 10)).toArray.size ≤ 10
        rw [List.size_toArray]; omega
      have IH : Hid (∀ W : World, Calls Tryz.prog 132 #[.int .i64 ((n / 10 : Nat) : Int)] W fun e w' => e = .returned (.string ⟨(Lib.decDigits (n / 10)).toArray⟩) ∧ Below W.heap.size W w') := fun W => ih (n / 10) (by omega) W (by omega)
      clear ih hdd hl
      generalize (⟨(Lib.decDigits (n / 10)).toArray⟩ : ByteArray) = q at *
      obtain ⟨m, e1, em⟩ : ∃ m : Nat, (n : Int) / 10 = (m : Int) ∧ n / 10 = m := ⟨n / 10, by omega, rfl⟩
      rw [em] at IH
      clear em
      have hdb := dig_byte (n % 10) (by omega)
      have hmod : (n : Int).tmod 10 = ((n % 10 : Nat) : Int) := by rw [Int.tmod_eq_emod_of_nonneg (by omega)]; omega
      obtain ⟨c, e3, hu⟩ : ∃ c : Int, IntKind.u8.wrap (IntKind.i64.wrap (48 + (n : Int).tmod 10)) = c ∧ ((UInt8.ofNat (48 + n % 10)).toNat : Int) = c := by
        refine ⟨_, rfl, ?_⟩
        rw [hdb, hmod, IntWalk.i64_in _ ⟨by omega, by omega⟩]
        have : IntKind.u8.wrap (48 + ((n % 10 : Nat) : Int)) = (48 + ((n % 10 : Nat) : Int)) % 256 := by simp [IntKind.wrap, IntKind.bits, IntKind.signed]
        rw [this]; omega
      generalize UInt8.ofNat (48 + n % 10) = u at *
      clear hdb hmod
      have hcv := fun (W : World) (g : Nat) => conv_one W g c u hu
      have IH2 : Hid (∀ W : World, W.cell? ⟨w.heap.size, 0, none⟩ = some (.int .u8 c) → Calls Tryz.prog 132 #[.int .i64 (m : Int)] W fun e w' => e = .returned (.string q) ∧ Below W.heap.size W w' ∧ w'.cell? ⟨w.heap.size, 0, none⟩ = some (.int .u8 c)) := fun W hW => (IH.out W).mono fun e w' ⟨he, hb⟩ => ⟨he, hb, cell_below hb hW⟩
      clear hu
      go_enter Tryz.func132, Tryz.ntmps132
      go_wp2
      go_region_with (first | (go_at_call 132; rw [show IntKind.i64.wrap (m : Int) = (m : Int) from IntWalk.i64_in _ ⟨by omega, by omega⟩]; refine (IH2.out _ ?_).mono ?_; (focus (simp [go_sem]; done)); rintro e w1 ⟨rfl, hb1, hcc⟩) | (go_at_call 132; rw [show IntKind.i64.wrap (m : Int) = (m : Int) from IntWalk.i64_in _ ⟨by omega, by omega⟩]; refine (IH.out _).mono ?_; rintro e w1 ⟨rfl, hb1⟩))
      all_goals go_wp2
      all_goals go_ret
      · exact ⟨rfl, ((Below.refl _ _).drew.trans hb1).alloc (by have := hb1.size; simpa using this) _⟩
      · exact ⟨rfl, (((Below.refl _ _).drew.alloc (Nat.le_refl _) _).trans (hb1.mono (by simp)))⟩
      · exact ⟨rfl, (((Below.refl _ _).drew.alloc (Nat.le_refl _) _).trans (hb1.mono (by simp)))⟩

end Go.Proofs.YtmpgajfccaoboaeGreatDoor
