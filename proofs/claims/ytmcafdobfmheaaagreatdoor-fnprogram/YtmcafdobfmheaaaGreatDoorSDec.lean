/-
  The walk of spec.l2Dec.
-/
import Derived.Test.YtmcafdobfmheaaaGreatDoorPPlain
import Derived.Deep.RegionWith
import Derived.Deep.RegionHeld3
namespace Go.Proofs.YtmcafdobfmheaaaGreatDoor
open Go.RowKit
set_option linter.unusedVariables false

theorem conv_one (W : World) (g : Nat) (c : Int) (u : UInt8) (hu : (u.toNat : Int) = c) (h : W.cell? ⟨g, 0, none⟩ = some (.int .u8 c)) : (convert 22 9 (.slice (some ⟨g, 0, none⟩) 1 1)).run Tryz.prog W = .ok (.string ⟨#[u]⟩) W := by
  subst hu
  exact run_convert_bytes_back (P := Tryz.prog) W 22 9 5 ⟨g, 0, none⟩ 1 [u] Tryz.underlying22 Tryz.underlying5 Tryz.underlying9 (fun t ht => by
    obtain rfl : t = 0 := by simp at ht; omega
    simpa [Addr.add] using h)

theorem dig_byte (d : Nat) (h : d < 10) : ((UInt8.ofNat (48 + d)).toNat : Int) = 48 + d := by rw [UInt8.toNat_ofNat']; omega

theorem str_snoc (l : List UInt8) (u : UInt8) : (⟨l.toArray⟩ : ByteArray) ++ (⟨#[u]⟩ : ByteArray) = ⟨(l ++ [u]).toArray⟩ := by
  apply WideShapes.bytes_inj
  simp [ByteArray.data_append]

set_option maxRecDepth 100000 in
set_option maxHeartbeats 400000 in
theorem l2Dec_any : ∀ (n : Nat) (w : World), n ≤ 1000000 → Calls Tryz.prog 57 #[.int .i64 n] w fun e w' => e = .returned (.string ⟨(Lib.decDigits n).toArray⟩) ∧ Below w.heap.size w w' := by
  intro n
  induction n using Nat.strongRecOn with
  | _ n ih =>
    intro w hn
    by_cases h : n < 10
    · have hdd : Lib.decDigits n = [UInt8.ofNat (48 + n)] := by rw [Lib.decDigits, dif_pos h]
      have hu := dig_byte n h
      rw [hdd]
      generalize UInt8.ofNat (48 + n) = u at *
      have hcv := conv_one (w.alloc (.cells #[.int .u8 (48 + n)] 5)) w.heap.size (48 + n) u hu (by simp [go_sem])
      clear hdd ih hu
      go_enter Tryz.func57, Tryz.ntmps57
      go_wp2
      go_ret
      exact ⟨rfl, (Below.refl _ _).alloc (Nat.le_refl _) _⟩
    · have hdd : Lib.decDigits n = Lib.decDigits (n / 10) ++ [UInt8.ofNat (48 + n % 10)] := by rw [Lib.decDigits, dif_neg h]
      rw [hdd, ← str_snoc]
      have hl := dec_length 6 (n / 10) (by omega)
      have hq : (⟨(Lib.decDigits (n / 10)).toArray⟩ : ByteArray).size ≤ 10 := by
        show (Lib.decDigits (n / 10)).toArray.size ≤ 10
        rw [List.size_toArray]; omega
      have IH : Hid (∀ W : World, Calls Tryz.prog 57 #[.int .i64 ((n / 10 : Nat) : Int)] W fun e w' => e = .returned (.string ⟨(Lib.decDigits (n / 10)).toArray⟩) ∧ Below W.heap.size W w') := fun W => ih (n / 10) (by omega) W (by omega)
      clear ih hdd hl
      generalize (⟨(Lib.decDigits (n / 10)).toArray⟩ : ByteArray) = q at *
      obtain ⟨m, e1, em⟩ : ∃ m : Nat, (n : Int) / 10 = (m : Int) ∧ n / 10 = m := ⟨n / 10, by omega, rfl⟩
      rw [em] at IH
      clear em
      have hdb := dig_byte (n % 10) (by omega)
      have hmod : (n : Int).tmod 10 = ((n % 10 : Nat) : Int) := by rw [Int.tmod_eq_emod_of_nonneg (by omega)]; omega
      obtain ⟨c, e3, hu⟩ : ∃ c : Int, IntKind.u8.wrap (IntKind.i64.wrap (48 + (n : Int).tmod 10)) = c ∧ ((UInt8.ofNat (48 + n % 10)).toNat : Int) = c := by
        refine ⟨_, rfl, ?_⟩
        rw [hdb, hmod, IntWalk.i64_in _ ⟨by omega, by omega⟩]
        have : IntKind.u8.wrap (48 + ((n % 10 : Nat) : Int)) = (48 + ((n % 10 : Nat) : Int)) % 256 := by simp [IntKind.wrap, IntKind.bits, IntKind.signed]
        rw [this]; omega
      generalize UInt8.ofNat (48 + n % 10) = u at *
      clear hdb hmod
      have hcv := fun (W : World) (g : Nat) => conv_one W g c u hu
      have IH2 : Hid (∀ W : World, W.cell? ⟨w.heap.size, 0, none⟩ = some (.int .u8 c) → Calls Tryz.prog 57 #[.int .i64 (m : Int)] W fun e w' => e = .returned (.string q) ∧ Below W.heap.size W w' ∧ w'.cell? ⟨w.heap.size, 0, none⟩ = some (.int .u8 c)) := fun W hW => (IH.out W).mono fun e w' ⟨he, hb⟩ => ⟨he, hb, cell_below hb hW⟩
      clear hu
      go_enter Tryz.func57, Tryz.ntmps57
      go_wp2
      go_region_with (first | (go_at_call 57; rw [show IntKind.i64.wrap (m : Int) = (m : Int) from IntWalk.i64_in _ ⟨by omega, by omega⟩]; refine (IH2.out _ ?_).mono ?_; (focus (simp [go_sem]; done)); rintro e w1 ⟨rfl, hb1, hcc⟩) | (go_at_call 57; rw [show IntKind.i64.wrap (m : Int) = (m : Int) from IntWalk.i64_in _ ⟨by omega, by omega⟩]; refine (IH.out _).mono ?_; rintro e w1 ⟨rfl, hb1⟩))
      all_goals go_wp2
      all_goals go_ret
      · exact ⟨rfl, ((Below.refl _ _).drew.trans hb1).alloc (by have := hb1.size; simpa using this) _⟩
      · exact ⟨rfl, (((Below.refl _ _).drew.alloc (Nat.le_refl _) _).trans (hb1.mono (by simp)))⟩
      · exact ⟨rfl, (((Below.refl _ _).drew.alloc (Nat.le_refl _) _).trans (hb1.mono (by simp)))⟩

end Go.Proofs.YtmcafdobfmheaaaGreatDoor
