import Derived.Test.YtjdjhenijihpfaaGreatDoorDrO
import Derived.Deep.RegionWith
import Derived.Deep.RegionHeld3
import Derived.Test.YtjdjhenijihpfaaGreatDoorDrA
namespace Go.Proofs.YtjdjhenijihpfaaGreatDoor
open Go.RowKit
set_option linter.unusedVariables false

theorem conv_one (W : World) (g : Nat) (c : Int) (u : UInt8) (hu : (u.toNat : Int) = c) (h : W.cell? ⟨g, 0, none⟩ = some (.int .u8 c)) : (convert 22 9 (.slice (some ⟨g, 0, none⟩) 1 1)).run Tryz.prog W = .ok (.string ⟨#[u]⟩) W := by
  subst hu
  exact run_convert_bytes_back (P := Tryz.prog) W 22 9 5 ⟨g, 0, none⟩ 1 [u] Tryz.underlying22 Tryz.underlying5 Tryz.underlying9 (fun t ht => by
    obtain rfl : t = 0 := by simp at ht; omega
    simpa [Addr.add] using h)

theorem dig_byte (d : Nat) (h : d < 10) : ((UInt8.ofNat (48 + d)).toNat : Int) = 48 + d := by rw [UInt8.toNat_ofNat']; omega

theorem str_snoc (l : List UInt8) (u : UInt8) : (⟨l.toArray⟩ : ByteArray) ++ (⟨#[u]⟩ : ByteArray) = ⟨(l ++ [u]).toArray⟩ := by
  apply WideShapes.bytes_inj
  simp [ByteArray.data_append]

set_option maxRecDepth 100000 in
set_option maxHeartbeats 400000 in
theorem l2Dec_any : ∀ (n : Nat) (w : World), n ≤ 1000000 → Calls Tryz.prog 57 #[.int .i64 n] w fun e w' => e = .returned (.string ⟨(Lib.decDigits n).toArray⟩) ∧ Below w.heap.size w w' := by
  intro n
  induction n using Nat.strongRecOn with
  | _ n ih =>
    intro w hn
    by_cases h : n < 10
    · have hdd : Lib.decDigits n = [UInt8.ofNat (48 + n)] := by rw [Lib.decDigits, dif_pos h]
      have hu := dig_byte n h
      rw [hdd]
      generalize UInt8.ofNat (48 + n) = u at *
      have hcv := conv_one (w.alloc (.cells #[.int .u8 (48 + n)] 5)) w.heap.size (48 + n) u hu (by simp [go_sem])
      clear hdd ih hu
      go_enter Tryz.func57, Tryz.ntmps57
      go_wp2
      go_ret
      exact ⟨rfl, (Below.refl _ _).alloc (Nat.le_refl _) _⟩
    · have hdd : Lib.decDigits n = Lib.decDigits (n / 10) ++ [UInt8.ofNat (48 + n % 10)] := by rw [Lib.decDigits, dif_neg h]
      rw [hdd, ← str_snoc]
      have hl := dec_length 6 (n / 10) (by omega)
      have hq : (⟨(Lib.decDigits (n / 10)).toArray⟩ : ByteArray).size ≤ 10 := by
        show (Lib.decDigits (n / 10)).toArray.size ≤ 10
        rw [List.size_toArray]; omega
      have IH : Hid (∀ W : World, Calls Tryz.prog 57 #[.int .i64 ((n / 10 : Nat) : Int)] W fun e w' => e = .returned (.string ⟨(Lib.decDigits (n / 10)).toArray⟩) ∧ Below W.heap.size W w') := fun W => ih (n / 10) (by omega) W (by omega)
      clear ih hdd hl
      generalize (⟨(Lib.decDigits (n / 10)).toArray⟩ : ByteArray) = q at *
      obtain ⟨m, e1, em⟩ : ∃ m : Nat, (n : Int) / 10 = (m : Int) ∧ n / 10 = m := ⟨n / 10, by omega, rfl⟩
      rw [em] at IH
      clear em
      have hdb := dig_byte (n % 10) (by omega)
      have hmod : (n : Int).tmod 10 = ((n % 10 : Nat) : Int) := by rw [Int.tmod_eq_emod_of_nonneg (by omega)]; omega
      obtain ⟨c, e3, hu⟩ : ∃ c : Int, IntKind.u8.wrap (IntKind.i64.wrap (48 + (n : Int).tmod 10)) = c ∧ ((UInt8.ofNat (48 + n % 10)).toNat : Int) = c := by
        refine ⟨_, rfl, ?_⟩
        rw [hdb, hmod, IntWalk.i64_in _ ⟨by omega, by omega⟩]
        have : IntKind.u8.wrap (48 + ((n % 10 : Nat) : Int)) = (48 + ((n % 10 : Nat) : Int)) % 256 := by simp [IntKind.wrap, IntKind.bits, IntKind.signed]
        rw [this]; omega
      generalize UInt8.ofNat (48 + n % 10) = u at *
      clear hdb hmod
      have hcv := fun (W : World) (g : Nat) => conv_one W g c u hu
      have IH2 : Hid (∀ W : World, W.cell? ⟨w.heap.size, 0, none⟩ = some (.int .u8 c) → Calls Tryz.prog 57 #[.int .i64 (m : Int)] W fun e w' => e = .returned (.string q) ∧ Below W.heap.size W w' ∧ w'.cell? ⟨w.heap.size, 0, none⟩ = some (.int .u8 c)) := fun W hW => (IH.out W).mono fun e w' ⟨he, hb⟩ => ⟨he, hb, cell_below hb hW⟩
      clear hu
      go_enter Tryz.func57, Tryz.ntmps57
      go_wp2
      go_region_with (first | (go_at_call 57; rw [show IntKind.i64.wrap (m : Int) = (m : Int) from IntWalk.i64_in _ ⟨by omega, by omega⟩]; refine (IH2.out _ ?_).mono ?_; (focus (simp [go_sem]; done)); rintro e w1 ⟨rfl, hb1, hcc⟩) | (go_at_call 57; rw [show IntKind.i64.wrap (m : Int) = (m : Int) from IntWalk.i64_in _ ⟨by omega, by omega⟩]; refine (IH.out _).mono ?_; rintro e w1 ⟨rfl, hb1⟩))
      all_goals go_wp2
      all_goals go_ret
      · exact ⟨rfl, ((Below.refl _ _).drew.trans hb1).alloc (by have := hb1.size; simpa using this) _⟩
      · exact ⟨rfl, (((Below.refl _ _).drew.alloc (Nat.le_refl _) _).trans (hb1.mono (by simp)))⟩
      · exact ⟨rfl, (((Below.refl _ _).drew.alloc (Nat.le_refl _) _).trans (hb1.mono (by simp)))⟩

end Go.Proofs.YtjdjhenijihpfaaGreatDoor
namespace Go.Proofs.YtjdjhenijihpfaaGreatDoor
open Go.RowKit
set_option linter.unusedVariables false
set_option maxRecDepth 100000
theorem gb_below {w a b : World} {R : Nat} (h : w.grownBy a (some R)) (h2 : Below a.heap.size a b) : w.grownBy b (some R) :=
  ⟨h2.os.trans h.os, h2.tape.trans h.tape, h2.output.trans h.output, Nat.le_trans h.size h2.size, fun k hk hne => (h2.block k (by have := h.size; omega)).trans (h.block k hk hne)⟩
theorem gb_refl (w : World) (R : Nat) : w.grownBy w (some R) := ⟨rfl, rfl, rfl, Nat.le_refl _, fun _ _ _ => rfl⟩
theorem Rd.below {B : Nat} {w w' : World} {R : Nat} {a : Option Addr} {len cap p : Nat} (h : Rd B w R a len cap p) (hB : B ≤ w.heap.size) (hb : Below w.heap.size w w') : Rd B w' R a len cap p :=
  h.kept (row := none) hB ⟨hb.os, hb.tape, hb.output, hb.size, fun k hk _ => hb.block k hk⟩ (by simp)
/-- The reader goes on by at most K. -/
def RdK (B R : Nat) (a : Option Addr) (len cap p K : Nat) (w w' : World) : Prop := w.grownBy w' (some R) ∧ ∃ p', p' ≤ p + K ∧ Rd B w' R a len cap p'
set_option maxHeartbeats 1000000 in
theorem l1Many_any (s : ByteArray) (n : Nat) (w : World) (hs : s.size ≤ 100) (hn : n ≤ 5000) :
    Calls Tryz.prog 22 #[.string s, .int .i64 n] w fun e w' => ∃ r : ByteArray, e = .returned (.string r) ∧ r.size = s.size * n ∧ w' = w := by
  obtain ⟨T, eT⟩ : ∃ T, s.size * n = T := ⟨_, rfl⟩
  have hT : T ≤ 500000 := by rw [← eT]; exact Nat.le_trans (Nat.mul_le_mul hs hn) (by omega)
  have HT : Hid (s.size * n = T) := eT
  rw [eT]
  clear eT
  go_enter Tryz.func22, Tryz.ntmps22
  go_wp2
  go_loopw [0, 1, 5] (fun x i o wr => ∃ (y r : ByteArray) (m : Nat), m ≤ 5000 ∧ y.size ≤ 1000000 + 100 ∧ x = .string y ∧ i = .int .i64 m ∧ o = .string r ∧ Hid (r.size + y.size * m = T) ∧ wr = w) (fun _ i _ _ => (intOf i).toNat)
  case atStart => exact ⟨s, ⟨#[]⟩, n, hn, by omega, rfl, rfl, rfl, by show 0 + s.size * n = T; rw [Nat.zero_add]; exact HT.out, rfl⟩
  case round =>
    obtain ⟨y, r, m, hm, hy, rfl, rfl, rfl, HI, rfl⟩ := hrel
    by_cases h0 : 0 < m
    · have h0I : (0 : Int) < (m : Int) := by omega
      have hyT : y.size ≤ T := by
        have := HI.out
        have h2 : y.size * 1 ≤ y.size * m := Nat.mul_le_mul (Nat.le_refl _) h0
        omega
      have hrT : r.size ≤ T := by have := HI.out; omega
      by_cases h1 : m % 2 = 1
      · have h1I : ((m : Int) % 2 == 1) = true := by simp; omega
        have HN : Hid ((r ++ y).size + (y ++ y).size * (m / 2) = T) := by
          show _ = _
          rw [ByteArray.size_append, ByteArray.size_append, ← HI.out]
          have e : m = 2 * (m / 2) + 1 := by omega
          generalize m / 2 = k at e
          subst e
          rw [Nat.add_mul, Nat.mul_add, Nat.mul_one, ← Nat.mul_assoc, Nat.mul_comm y.size 2, Nat.mul_assoc]
          omega
        go_wp2_with fail
        have e2 : (m : Int) / 2 = ((m / 2 : Nat) : Int) := by omega
        rw [e2]
        exact ⟨⟨y ++ y, r ++ y, m / 2, by omega, by rw [ByteArray.size_append]; omega, rfl, rfl, rfl, HN, trivial⟩, by simp [intOf]; omega⟩
      · have h1I : ((m : Int) % 2 == 1) = false := by simp; omega
        have HN : Hid (r.size + (y ++ y).size * (m / 2) = T) := by
          show _ = _
          rw [ByteArray.size_append, ← HI.out]
          have e : m = 2 * (m / 2) := by omega
          generalize m / 2 = k at e
          subst e
          rw [Nat.add_mul, ← Nat.mul_assoc, Nat.mul_comm y.size 2, Nat.mul_assoc]
          omega
        go_wp2_with fail
        have e2 : (m : Int) / 2 = ((m / 2 : Nat) : Int) := by omega
        rw [e2]
        exact ⟨⟨y ++ y, r, m / 2, by omega, by rw [ByteArray.size_append]; omega, rfl, rfl, rfl, HN, trivial⟩, by simp [intOf]; omega⟩
    · obtain rfl : m = 0 := by omega
      have h0I : ¬ (0 : Int) < ((0 : Nat) : Int) := by omega
      have HR : Hid (r.size = T) := by have := HI.out; rw [Nat.mul_zero, Nat.add_zero] at this; exact this
      go_wp2_with fail
      exact bodyPost_ret (v := .string r) (by simp [results, Tryz.results22, go_sem]) rfl ⟨r, rfl, HR.out, rfl⟩
set_option maxHeartbeats 1000000 in
theorem l2Name_any (w : World) (B R : Nat) (a : Option Addr) (len cap p : Nat) (h : Rd B w R a len cap p) (hB : B ≤ w.heap.size) (hp : p ≤ 90000) :
    Calls Tryz.prog 18 #[.pointer (some ⟨R, 0, none⟩)] w fun e w' => ∃ s : ByteArray, e = .returned (.string s) ∧ s.size ≤ 10 ∧ RdK B R a len cap p 1 w w' := by
  go_enter Tryz.func18, Tryz.ntmps18
  go_wp2_with fail
  refine (pick_int w B R a len cap p _ h (by omega) (by omega) (by omega)).mono ?_
  rintro e w1 ⟨x, rfl, hx, hR1, hg1⟩
  have HK : Hid (RdK B R a len cap p 1 w w1) := ⟨hg1, p + 1, Nat.le_refl _, hR1⟩
  have HG : Hid (w.grownBy w1 (some R) ∧ Rd B w1 R a len cap (p + 1) ∧ B ≤ w1.heap.size) := ⟨hg1, hR1, Nat.le_trans hB hg1.size⟩
  clear hg1 hR1 h
  by_cases h6 : x < 6
  · have h6I : (x : Int) < 6 := by omega
    rcases (show x = 0 ∨ x = 1 ∨ x = 2 ∨ x = 3 ∨ x = 4 ∨ x = 5 from by omega) with rfl | rfl | rfl | rfl | rfl | rfl
    all_goals
      go_wp2
      go_ret
      exact ⟨_, rfl, by decide, HK.out⟩
  · have h6I : ¬ (x : Int) < 6 := by omega
    by_cases h14 : x < 14
    · have h14I : (x : Int) < 14 := by omega
      obtain ⟨m, rfl⟩ : ∃ m, x = m + 6 := ⟨x - 6, by omega⟩
      have e6 : ((m + 6 : Nat) : Int) - 6 = (m : Int) := by omega
      have HDC : Hid (Calls Tryz.prog 57 #[.int .i64 m] w1 _) := l2Dec_any m w1 (by omega)
      have hdl : (Lib.decDigits m).length ≤ 1 := dec_length 0 m (by omega)
      go_wp2_with fail
      refine HDC.out.mono ?_
      rintro e w2 ⟨rfl, hb2⟩
      have HB2 : Hid (Below w1.heap.size w1 w2) := hb2
      obtain ⟨q, eq⟩ : ∃ q, (⟨(Lib.decDigits m).toArray⟩ : ByteArray) = q := ⟨_, rfl⟩
      have hq : q.size ≤ 1 := by rw [← eq]; show (Lib.decDigits m).toArray.size ≤ 1; simpa using hdl
      rw [eq]
      clear hb2 eq HDC
      go_wp2_with fail
      exact bodyPost_ret (v := .string (⟨#[116]⟩ ++ q)) (by simp [results, Tryz.results18, go_sem]) rfl ⟨_, rfl, by rw [ByteArray.size_append]; show 1 + q.size ≤ 10; omega, gb_below HG.out.1 HB2.out, p + 1, Nat.le_refl _, HG.out.2.1.below HG.out.2.2 HB2.out⟩
    · have h14I : ¬ (x : Int) < 14 := by omega
      go_wp2
      go_ret
      exact ⟨_, rfl, by decide, HK.out⟩
set_option maxHeartbeats 1000000 in
theorem l2Lit_any (s : ByteArray) (w : World) : Calls Tryz.prog 53 #[.string s] w fun e w' => e = .returned (.agg #[.int .i64 1, .string s, .int .i64 0]) ∧ Below w.heap.size w w' := by
  go_enter Tryz.func53, Tryz.ntmps53
  go_wp2
  exact bodyPost_ret (v := .agg #[.int .i64 1, .string s, .int .i64 0]) (by simp [results, Tryz.results53, go_sem]) rfl ⟨rfl, (Below.refl _ _).alloc (Nat.le_refl _) _⟩
set_option maxHeartbeats 1000000 in
theorem l2Op_any (o : Int) (w : World) : Calls Tryz.prog 54 #[.int .i64 o] w fun e w' => e = .returned (.agg #[.int .i64 o, .string ⟨#[]⟩, .int .i64 0]) ∧ Below w.heap.size w w' := by
  go_enter Tryz.func54, Tryz.ntmps54
  go_wp2
  exact bodyPost_ret (v := .agg #[.int .i64 o, .string ⟨#[]⟩, .int .i64 0]) (by simp [results, Tryz.results54, go_sem]) rfl ⟨rfl, (Below.refl _ _).alloc (Nat.le_refl _) _⟩
set_option maxHeartbeats 1000000 in
theorem l2OpN_any (o n : Int) (w : World) : Calls Tryz.prog 76 #[.int .i64 o, .int .i64 n] w fun e w' => e = .returned (.agg #[.int .i64 o, .string ⟨#[]⟩, .int .i64 n]) ∧ Below w.heap.size w w' := by
  go_enter Tryz.func76, Tryz.ntmps76
  go_wp2
  exact bodyPost_ret (v := .agg #[.int .i64 o, .string ⟨#[]⟩, .int .i64 n]) (by simp [results, Tryz.results76, go_sem]) rfl ⟨rfl, (Below.refl _ _).alloc (Nat.le_refl _) _⟩
theorem l2Small_any (n : Int) (w : World) : Calls Tryz.prog 91 #[.int .i64 n] w fun e w' => (∃ m : Int, e = .returned (.int .i64 m)) ∧ w' = w := by
  by_cases h : (200 : Int) < n
  · go_enter Tryz.func91, Tryz.ntmps91
    go_wp2
    go_ret
    exact ⟨⟨200, rfl⟩, rfl⟩
  · go_enter Tryz.func91, Tryz.ntmps91
    go_wp2
    go_ret
    exact ⟨⟨n, rfl⟩, rfl⟩
/-- A row of instructions of our own, its texts short. -/
structure Ow (w0 w : World) (g n c : Nat) (is : List I3) : Prop where
  ln : n = is.length
  row : w.ownsRow w0.heap.size 84 3 (.slice (some ⟨g, 0, none⟩) n c) n (insC is)
  tx : ∀ x ∈ is, x.text.size ≤ 50000
theorem Ow.below {w0 w w' : World} {g n c : Nat} {is : List I3} (h : Ow w0 w g n c is) (hb : Below w.heap.size w w') : Ow w0 w' g n c is := ⟨h.ln, own_keepD h.row (fun b _ hb' => hb.block b hb'), h.tx⟩
end Go.Proofs.YtjdjhenijihpfaaGreatDoor
