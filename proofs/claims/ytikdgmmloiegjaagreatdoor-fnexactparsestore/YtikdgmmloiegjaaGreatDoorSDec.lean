import Derived.Test.YtikdgmmloiegjaaGreatDoorPsC
import Derived.Test.YtikdgmmloiegjaaGreatDoorGRow
import Derived.Deep.RegionWith
import Derived.Deep.RegionHeld3
namespace Go.Proofs.YtikdgmmloiegjaaGreatDoor
open Go.RowKit
set_option linter.unusedVariables false

theorem hid {P : Prop} (h : P) : Hid P := h
def EnvF (p : Nat → Addr) (F : Nat) (w : World) : Prop := ∃ w0, Env p w0 ∧ w0.heap.size ≤ F ∧ Below w0.heap.size w0 w
theorem EnvF.env {p : Nat → Addr} {F : Nat} {w : World} (h : EnvF p F w) : Env p w := by
  obtain ⟨w0, h1, h2, h3⟩ := h; exact h1.below h3
theorem EnvF.below {p : Nat → Addr} {F : Nat} {w w' : World} (h : EnvF p F w) (hb : Below F w w') : EnvF p F w' := by
  obtain ⟨w0, h1, h2, h3⟩ := h; exact ⟨w0, h1, h2, h3.trans (hb.mono h2)⟩
theorem FS.cells {F : Nat} {s : Sta} {tv qv pv : Value} {es ce : List Ent} {w : World} (h : FS F s tv qv pv es ce w) : w.cell? ⟨F, 0, none⟩ = some (.int .i64 (s.w : Int)) ∧ w.cell? ⟨F, 1, none⟩ = some tv ∧ w.cell? ⟨F, 2, none⟩ = some qv ∧ w.cell? ⟨F, 3, none⟩ = some pv ∧ w.frozen? ⟨F, 0, none⟩ = false ∧ w.frozen? ⟨F, 1, none⟩ = false ∧ w.frozen? ⟨F, 2, none⟩ = false ∧ w.frozen? ⟨F, 3, none⟩ = false :=
  ⟨by rw [Lib.cell_of_heap h.blk]; rfl, by rw [Lib.cell_of_heap h.blk]; rfl, by rw [Lib.cell_of_heap h.blk]; rfl, by rw [Lib.cell_of_heap h.blk]; rfl, Lib.frozen_of_heap h.blk 0, Lib.frozen_of_heap h.blk 1, Lib.frozen_of_heap h.blk 2, Lib.frozen_of_heap h.blk 3⟩
theorem FS.lt {F : Nat} {s : Sta} {tv qv pv : Value} {es ce : List Ent} {w : World} (h : FS F s tv qv pv es ce w) : F < w.heap.size := hlt h.blk
def fnOf : Md → Nat
  | .head => 11
  | .text => 30
  | .recd => 51
  | .ins => 69
  | .look => 89
def fnV (F : Nat) (m : Md) : Value := .func (.func (fnOf m)) #[.pointer (some ⟨F, 0, none⟩)] #[]
/-- What a method gives. -/
def StepR (F : Nat) (o : Option (Md × Sta)) (e : Ending) (w' : World) : Prop := (o = none ∧ e = .returned .nilFunc) ∨ ∃ m s, o = some (m, s) ∧ e = .returned (fnV F m) ∧ ∃ tv qv pv es ce, FS F s tv qv pv es ce w'
theorem cut32 {p : Nat → Addr} {F : Nat} {w : World} (hE : EnvF p F w) {l : ByteArray} (hl : l.size ≤ 200000) : Calls Tryz.prog 12 #[.string l, .string ⟨#[32]⟩] w fun e w' => Below w.heap.size w w' ∧ e = .returned (.tuple #[.string ⟨(cutL 32 l.data.toList).1.toArray⟩, .string ⟨(cutL 32 l.data.toList).2.1.toArray⟩, .bool (cutL 32 l.data.toList).2.2]) := by
  refine (cut_any p l 32 w hE.env (by omega)).mono ?_
  rintro e w' ⟨h1, h2⟩
  exact ⟨h2, h1⟩
theorem cut_size {l : ByteArray} (hl : l.size ≤ 200000) : (cutL 32 l.data.toList).2.1.length ≤ 200000 := by
  have := (cutL_len 32 l.data.toList).2.1
  rw [toList_len] at this; omega
theorem bmono {F : Nat} {w a b : World} (h1 : Below F w a) (hF : F ≤ a.heap.size) (h2 : Below a.heap.size a b) : Below F w b := h1.trans (h2.mono hF)
set_option maxRecDepth 100000 in
set_option maxHeartbeats 1000000 in
theorem head_any (p : Nat → Addr) (F : Nat) (s : Sta) (l : ByteArray) (tv qv pv : Value) (es ce : List Ent) (w : World) (hE : EnvF p F w) (hF : FS F s tv qv pv es ce w) (hl : l.size ≤ 200000) :
    Calls Tryz.prog 11 #[.pointer (some ⟨F, 0, none⟩), .string l] w fun e w' => Below F w w' ∧ StepR F (stHead s l.data.toList) e w' := by
  have HC := hid (cut32 hE hl)
  have hlr := cut_size hl
  have HO : Hid (∀ o, stHead s l.data.toList = o → (match numOf 8 (cutL 32 l.data.toList).2.1 with
  | none => none
  | some n => if (cutL 32 l.data.toList).1 = wStore then some (Md.text, (⟨n, s.ts, s.rs, s.cur⟩ : Sta)) else none) = o) := fun o h => h
  generalize stHead s l.data.toList = O at *
  have HO := HO.out O rfl
  generalize cutL 32 l.data.toList = q at *
  obtain ⟨wd, rs, fl⟩ := q
  dsimp only at HC HO hlr
  have HO := hid HO
  have hlF := hF.lt
  go_enter Tryz.func11, Tryz.ntmps11
  go_wp2_with fail
  refine HC.out.mono ?_
  rintro e w1 ⟨hb1, rfl⟩
  have HF1 : Hid (FS F s tv qv pv es ce w1) := hF.below hb1
  have hB1 : Below F w w1 := hb1.mono (by omega)
  have HE1 : Hid (EnvF p F w1) := hE.below hB1
  have hF1 := HF1.out.lt
  have HN := hid (readNumber_any p ⟨rs.toArray⟩ 8 w1 HE1.out.env (by rw [bytes_size]; omega) (by omega))
  clear hF HC hE
  go_wp2_with fail
  refine HN.out.mono ?_
  clear HN
  rintro e w2 ⟨hb2, ⟨n, hn8, hn, rfl⟩ | ⟨hno, rfl⟩⟩
  · have HF2 : Hid (FS F s tv qv pv es ce w2) := HF1.out.below hb2
    have hB2 := bmono hB1 (by omega) hb2
    obtain ⟨c0, c1, c2, c3, f0, f1, f2, f3⟩ := HF2.out.cells
    have HO2 : Hid (O = if wd = wStore then some (Md.text, (⟨n, s.ts, s.rs, s.cur⟩ : Sta)) else none) := by
      show _ = _
      have := HO.out
      rw [numOf_some hn8 (show Lib.decDigits n = rs from hn)] at this
      exact this.symm
    clear HF1 HE1 HO hb2 hn c1 c2 c3 f1 f2 f3
    by_cases hw : wd = wStore
    · have HO3 := hid (HO2.out.trans (if_pos hw))
      clear HO2
      subst hw
      have d1 : (wStore == [115, 116, 111, 114, 101]) = true := by decide
      go_wp2_with fail
      go_ret
      exact ⟨hB2.setCell (p := ⟨F, 0, none⟩) (Nat.le_refl _) _, Or.inr ⟨.text, _, HO3.out, rfl, _, _, _, _, _, HF2.out.setW n⟩⟩
    · have d1 : (wd == [115, 116, 111, 114, 101]) = false := by simpa [wStore] using hw
      go_wp2_with fail
      go_ret
      exact ⟨hB2, Or.inl ⟨HO2.out.trans (if_neg hw), rfl⟩⟩
  · have hB2 := bmono hB1 (by omega) hb2
    have HO2 : Hid (O = none) := by
      show _ = _
      have := HO.out
      rw [numOf_none (show ∀ n, n ≤ 8 → Lib.decDigits n ≠ rs from hno)] at this
      exact this.symm
    clear HF1 HE1 HO hb2 hno
    go_wp2_with fail
    all_goals
      go_ret
      exact ⟨hB2, Or.inl ⟨HO2.out, rfl⟩⟩

set_option maxRecDepth 100000 in
set_option maxHeartbeats 1000000 in
theorem begin_any (p : Nat → Addr) (F : Nat) (s : Sta) (l : ByteArray) (tv qv pv : Value) (es : List Ent) (w : World) (hE : EnvF p F w) (hF : FS F s tv qv pv es [] w) (hl : l.size ≤ 200000) :
    Calls Tryz.prog 51 #[.pointer (some ⟨F, 0, none⟩), .string l] w fun e w' => Below F w w' ∧ StepR F (stRec s l.data.toList) e w' := by
  have HC := hid (cut32 hE hl)
  have hlr := cut_size hl
  have HO : Hid (∀ o, stRec s l.data.toList = o → (match unhexS (cutL 32 l.data.toList).2.1 with
  | none => none
  | some o => if (cutL 32 l.data.toList).1 = wRec then some (Md.ins, (⟨s.w, s.ts, s.rs, some ⟨[], [], ⟨o.toArray⟩⟩⟩ : Sta)) else none) = o) := fun o h => h
  generalize stRec s l.data.toList = O at *
  have HO := HO.out O rfl
  generalize cutL 32 l.data.toList = q at *
  obtain ⟨wd, rs, fl⟩ := q
  dsimp only at HC HO hlr
  have HO := hid HO
  have hlF := hF.lt
  go_enter Tryz.func51, Tryz.ntmps51
  go_wp2_with fail
  refine HC.out.mono ?_
  rintro e w1 ⟨hb1, rfl⟩
  have HF1 : Hid (FS F s tv qv pv es [] w1) := hF.below hb1
  have hB1 : Below F w w1 := hb1.mono (by omega)
  have hF1 := HF1.out.lt
  have HN := hid (readSum_any ⟨rs.toArray⟩ w1 (by rw [bytes_size]; omega))
  clear hF HC hE
  go_wp2_with fail
  refine HN.out.mono ?_
  clear HN
  rintro e w2 ⟨hb2, ⟨x, hx, rfl⟩ | ⟨hno, rfl⟩⟩
  · have HF2 : Hid (FS F s tv qv pv es [] w2) := HF1.out.below hb2
    have hB2 := bmono hB1 (by omega) hb2
    have HO2 : Hid (O = if wd = wRec then some (Md.ins, (⟨s.w, s.ts, s.rs, some ⟨[], [], ⟨x.toArray⟩⟩⟩ : Sta)) else none) := by
      show _ = _
      have := HO.out
      rw [show unhexS rs = some x from hx] at this
      exact this.symm
    clear HF1 HO hb2 hx
    by_cases hw : wd = wRec
    · have HO3 := hid (HO2.out.trans (if_pos hw))
      clear HO2
      subst hw
      have d1 : (wRec == [114, 101, 99, 111, 114, 100]) = true := by decide
      have hlt2 := HF2.out.lt
      obtain ⟨V, eV⟩ : ∃ V, w2.alloc (.cells #[.slice none 0 0, .slice none 0 0, .string ⟨x.toArray⟩] 54) = V := ⟨_, rfl⟩
      have hbV : Below w2.heap.size w2 V := eV ▸ (Below.refl _ _).alloc (Nat.le_refl _) _
      have HV : Hid (V.heap[w2.heap.size]? = some (.cells #[.slice none 0 0, .slice none 0 0, .string ⟨x.toArray⟩] 54 (0, 0))) := by
        show _ = _
        rw [← eV]; exact alloc_here _ _
      obtain ⟨c0, c1, c2, c3, f0, f1, f2, f3⟩ := (HF2.out.below hbV).cells
      clear c0 c1 c2 f0 f1 f2
      go_wp2_with fail
      go_ret
      exact ⟨(bmono hB2 (by omega) hbV).setCell (p := ⟨F, 3, none⟩) (Nat.le_refl _) _, Or.inr ⟨.ins, _, HO3.out, rfl, _, _, _, _, _, HF2.out.beg hbV w2.heap.size ⟨x.toArray⟩ (Nat.le_refl _) HV.out⟩⟩
    · have d1 : (wd == [114, 101, 99, 111, 114, 100]) = false := by simpa [wRec] using hw
      go_wp2_with fail
      go_ret
      exact ⟨hB2, Or.inl ⟨HO2.out.trans (if_neg hw), rfl⟩⟩
  · have hB2 := bmono hB1 (by omega) hb2
    have HO2 : Hid (O = none) := by
      show _ = _
      have := HO.out
      rw [show unhexS rs = none from hno] at this
      exact this.symm
    clear HF1 HO hb2 hno
    go_wp2_with fail
    all_goals
      go_ret
      exact ⟨hB2, Or.inl ⟨HO2.out, rfl⟩⟩

end Go.Proofs.YtikdgmmloiegjaaGreatDoor
namespace Go.Proofs.YtikdgmmloiegjaaGreatDoor
open Go.RowKit
set_option linter.unusedVariables false

theorem conv_one (W : World) (g : Nat) (c : Int) (u : UInt8) (hu : (u.toNat : Int) = c) (h : W.cell? ⟨g, 0, none⟩ = some (.int .u8 c)) : (convert 62 9 (.slice (some ⟨g, 0, none⟩) 1 1)).run Tryz.prog W = .ok (.string ⟨#[u]⟩) W := by
  subst hu
  exact run_convert_bytes_back (P := Tryz.prog) W 62 9 5 ⟨g, 0, none⟩ 1 [u] Tryz.underlying62 Tryz.underlying5 Tryz.underlying9 (fun t ht => by
    obtain rfl : t = 0 := by simp at ht; omega
    simpa [Addr.add] using h)

theorem dig_byte (d : Nat) (h : d < 10) : ((UInt8.ofNat (48 + d)).toNat : Int) = 48 + d := by rw [UInt8.toNat_ofNat']; omega

theorem str_snoc (l : List UInt8) (u : UInt8) : (⟨l.toArray⟩ : ByteArray) ++ (⟨#[u]⟩ : ByteArray) = ⟨(l ++ [u]).toArray⟩ := by
  apply WideShapes.bytes_inj
  simp [ByteArray.data_append]

set_option maxRecDepth 100000 in
set_option maxHeartbeats 400000 in
theorem l2Dec_any : ∀ (n : Nat) (w : World), n ≤ 1000000 → Calls Tryz.prog 46 #[.int .i64 n] w fun e w' => e = .returned (.string ⟨(Lib.decDigits n).toArray⟩) ∧ Below w.heap.size w w' := by
  intro n
  induction n using Nat.strongRecOn with
  | _ n ih =>
    intro w hn
    by_cases h : n < 10
    · have hdd : Lib.decDigits n = [UInt8.ofNat (48 + n)] := by rw [Lib.decDigits, dif_pos h]
      have hu := dig_byte n h
      rw [hdd]
      generalize UInt8.ofNat (48 + n) = u at *
      have hcv := conv_one (w.alloc (.cells #[.int .u8 (48 + n)] 5)) w.heap.size (48 + n) u hu (by simp [go_sem])
      clear hdd ih hu
      go_enter Tryz.func46, Tryz.ntmps46
      go_wp2
      go_ret
      exact ⟨rfl, (Below.refl _ _).alloc (Nat.le_refl _) _⟩
    · have hdd : Lib.decDigits n = Lib.decDigits (n / 10) ++ [UInt8.ofNat (48 + n % 10)] := by rw [Lib.decDigits, dif_neg h]
      rw [hdd, ← str_snoc]
      have hl := dec_length 6 (n / 10) (by omega)
      have hq : (⟨(Lib.decDigits (n / 10)).toArray⟩ : ByteArray).size ≤ 10 := by
        show (Lib.decDigits (n / 10)).toArray.size ≤ 10
        rw [List.size_toArray]; omega
      have IH : Hid (∀ W : World, Calls Tryz.prog 46 #[.int .i64 ((n / 10 : Nat) : Int)] W fun e w' => e = .returned (.string ⟨(Lib.decDigits (n / 10)).toArray⟩) ∧ Below W.heap.size W w') := fun W => ih (n / 10) (by omega) W (by omega)
      clear ih hdd hl
      generalize (⟨(Lib.decDigits (n / 10)).toArray⟩ : ByteArray) = q at *
      obtain ⟨m, e1, em⟩ : ∃ m : Nat, (n : Int) / 10 = (m : Int) ∧ n / 10 = m := ⟨n / 10, by omega, rfl⟩
      rw [em] at IH
      clear em
      have hdb := dig_byte (n % 10) (by omega)
      have hmod : (n : Int).tmod 10 = ((n % 10 : Nat) : Int) := by rw [Int.tmod_eq_emod_of_nonneg (by omega)]; omega
      obtain ⟨c, e3, hu⟩ : ∃ c : Int, IntKind.u8.wrap (IntKind.i64.wrap (48 + (n : Int).tmod 10)) = c ∧ ((UInt8.ofNat (48 + n % 10)).toNat : Int) = c := by
        refine ⟨_, rfl, ?_⟩
        rw [hdb, hmod, IntWalk.i64_in _ ⟨by omega, by omega⟩]
        have : IntKind.u8.wrap (48 + ((n % 10 : Nat) : Int)) = (48 + ((n % 10 : Nat) : Int)) % 256 := by simp [IntKind.wrap, IntKind.bits, IntKind.signed]
        rw [this]; omega
      generalize UInt8.ofNat (48 + n % 10) = u at *
      clear hdb hmod
      have hcv := fun (W : World) (g : Nat) => conv_one W g c u hu
      have IH2 : Hid (∀ W : World, W.cell? ⟨w.heap.size, 0, none⟩ = some (.int .u8 c) → Calls Tryz.prog 46 #[.int .i64 (m : Int)] W fun e w' => e = .returned (.string q) ∧ Below W.heap.size W w' ∧ w'.cell? ⟨w.heap.size, 0, none⟩ = some (.int .u8 c)) := fun W hW => (IH.out W).mono fun e w' ⟨he, hb⟩ => ⟨he, hb, cell_below hb hW⟩
      clear hu
      go_enter Tryz.func46, Tryz.ntmps46
      go_wp2
      go_region_with (first | (go_at_call 46; rw [show IntKind.i64.wrap (m : Int) = (m : Int) from IntWalk.i64_in _ ⟨by omega, by omega⟩]; refine (IH2.out _ ?_).mono ?_; (focus (simp [go_sem]; done)); rintro e w1 ⟨rfl, hb1, hcc⟩) | (go_at_call 46; rw [show IntKind.i64.wrap (m : Int) = (m : Int) from IntWalk.i64_in _ ⟨by omega, by omega⟩]; refine (IH.out _).mono ?_; rintro e w1 ⟨rfl, hb1⟩))
      all_goals go_wp2
      all_goals go_ret
      · exact ⟨rfl, ((Below.refl _ _).drew.trans hb1).alloc (by have := hb1.size; simpa using this) _⟩
      · exact ⟨rfl, (((Below.refl _ _).drew.alloc (Nat.le_refl _) _).trans (hb1.mono (by simp)))⟩
      · exact ⟨rfl, (((Below.refl _ _).drew.alloc (Nat.le_refl _) _).trans (hb1.mono (by simp)))⟩

end Go.Proofs.YtikdgmmloiegjaaGreatDoor
