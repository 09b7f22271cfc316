/-
  laws.markText.
-/
import Derived.Test.YtmcafdobfmheaaaGreatDoorPaI
namespace Go.Proofs.YtmcafdobfmheaaaGreatDoor
open Go.RowKit
set_option linter.unusedVariables false

def digM (n : Nat) : ByteArray := ⟨#[UInt8.ofNat (48 + n)]⟩
theorem dig_byteM (d : Nat) (h : d < 10) : ((UInt8.ofNat (48 + d)).toNat : Int) = 48 + d := by rw [UInt8.toNat_ofNat']; omega
/-- The decimal of k ahead of a text. -/
def mtL : Nat → Nat → ByteArray → ByteArray
  | 0, _, out => out
  | f + 1, k, out => if k = 0 then out else mtL f (k / 10) (digM (k % 10) ++ out)
theorem mtL_zero (f : Nat) (out : ByteArray) : mtL f 0 out = out := by cases f <;> simp [mtL]
def mt (k : Nat) : ByteArray := ⟨#[109]⟩ ++ mtL 16 k ⟨#[]⟩

set_option maxRecDepth 100000 in
set_option maxHeartbeats 1000000 in
theorem markText_any (K : Nat) (w : World) (h1 : 1 ≤ K) (h2 : K < 1000000000000000) :
    Calls Tryz.prog 54 #[.int .i64 K] w fun e w' => Below w.heap.size w w' ∧ e = .returned (.string (mt K)) := by
  go_enter Tryz.func54, Tryz.ntmps54
  go_wp2
  go_loopw [0, 3] (fun a v wr => ∃ (f k : Nat) (out : ByteArray), a = .int .i64 k ∧ v = .string out ∧ Hid (mtL f k out = mtL 16 K ⟨#[]⟩) ∧ k < 10 ^ f ∧ f ≤ 16 ∧ out.size + f = 16 ∧ Below w.heap.size w wr) (fun a _ _ => (intOf a).toNat)
  case atStart => exact ⟨16, K, ⟨#[]⟩, rfl, rfl, rfl, by omega, by omega, rfl, Below.refl _ _⟩
  case round =>
    obtain ⟨f, k, out, rfl, rfl, HM, hk, hf, ho, hbr⟩ := hrel
    by_cases h0 : k = 0
    · subst h0
      have HO : Hid (mt K = (⟨#[109]⟩ : ByteArray) ++ out) := by
        show mt K = _
        unfold mt
        rw [← HM.out, mtL_zero]
      have hs : ((⟨#[109]⟩ : ByteArray) ++ out).size = 1 + out.size := ByteArray.size_append
      go_wp2
      go_ret
      exact ⟨hbr, by rw [HO.out]; rfl⟩
    · obtain ⟨g, rfl⟩ : ∃ g, f = g + 1 := by
        cases f with
        | zero => simp at hk; omega
        | succ g => exact ⟨g, rfl⟩
      have hk' : k / 10 < 10 ^ g := by rw [Nat.pow_succ] at hk; omega
      obtain ⟨d, ed⟩ : ∃ d, k % 10 = d := ⟨_, rfl⟩
      have hd : d < 10 := by omega
      have HM2 : Hid (mtL g (k / 10) (digM d ++ out) = mtL 16 K ⟨#[]⟩) := by
        show mtL g (k / 10) (digM d ++ out) = _
        rw [← HM.out, ← ed]
        simp only [mtL, h0, if_false]
      have hu := dig_byteM d hd
      have hs : (digM d ++ out).size = 1 + out.size := ByteArray.size_append
      unfold digM at HM2 hs
      generalize UInt8.ofNat (48 + d) = u at *
      have e1 : (k : Int) % 10 = (d : Int) := by omega
      obtain ⟨k2, e2⟩ : ∃ k2, k / 10 = k2 := ⟨_, rfl⟩
      rw [e2] at HM2 hk'
      have e3 : (k : Int) / 10 = (k2 : Int) := by omega
      have hlt : k2 < k := by omega
      have hkI : (0 : Int) < (k : Int) := by omega
      have hcv := conv_one (wr.alloc (.cells #[.int .u8 (48 + d)] 5)) wr.heap.size (48 + d) u hu (by simp [go_sem])
      have hkb : k < 10000000000000000 := Nat.lt_of_lt_of_le hk (Nat.pow_le_pow_right (by omega) hf)
      have HK' : Hid (k2 < 10 ^ g) := hk'
      clear hu ed e2 hk hk' h0
      go_wp2
      go_roundw
      case rel => exact ⟨g, k2, _, by go_num, rfl, HM2.out, HK'.out, by omega, by rw [hs]; omega, hbr.alloc hbr.size _⟩
      case measure => simp [intOf]; omega

theorem bt {w a b : World} (h : Below w.heap.size w a) (k : Below a.heap.size a b) : Below w.heap.size w b := h.trans (k.mono h.size)
theorem cell_of_length3 {w : World} {B g n cap j : Nat} {xs : List Value} (h : w.ownsRow B 47 3 (.slice (some ⟨g, 0, none⟩) n cap) n xs) (hj : j < n * 3) : ∃ v, w.cell? ⟨g, j, none⟩ = some v := cell_of_length h hj

/-- All blocks but g stay. -/
def KeepB (g : Nat) (w w' : World) : Prop := ∀ b, b < w.heap.size → b ≠ g → w'.heap[b]? = w.heap[b]?
theorem KeepB.set {g : Nat} {w w' : World} (h : KeepB g w w') (j : Nat) (v : Value) : KeepB g w (w'.setCell ⟨g, j, none⟩ v) := fun b hb hne => by
  rw [Below.heap_setCell w' ⟨g, j, none⟩ v b hne]; exact h b hb hne
theorem KeepB.below {g : Nat} {w w' w2 : World} (h : KeepB g w w') (hs : w.heap.size ≤ w'.heap.size) (hb : Below w'.heap.size w' w2) : KeepB g w w2 := fun b hl hne => by
  rw [hb.block b (by omega)]; exact h b hl hne

/-- The first n instructions of the row bear the marks from K on. -/
def MkI (K n : Nat) (ys : List Value) : Prop := ∀ i, i < n → ys[i * 3]? = some (.int .i64 ((K + 3 * i : Nat) : Int)) ∧ ys[i * 3 + 1]? = some (.string (mt (K + 3 * i + 1))) ∧ ys[i * 3 + 2]? = some (.int .i64 ((K + 3 * i + 2 : Nat) : Int))
theorem mkI_set {K k : Nat} {ys : List Value} (h : MkI K k ys) (hx : k * 3 + 2 < ys.length) :
    MkI K (k + 1) (((ys.set (k * 3) (.int .i64 ((K + 3 * k : Nat) : Int))).set (k * 3 + 1) (.string (mt (K + 3 * k + 1)))).set (k * 3 + 2) (.int .i64 ((K + 3 * k + 2 : Nat) : Int))) := by
  intro i hi
  rcases Nat.lt_or_ge i k with hl | hl
  · obtain ⟨h1, h2, h3⟩ := h i hl
    simp only [List.getElem?_set]
    rw [if_neg (by omega), if_neg (by omega), if_neg (by omega), if_neg (by omega), if_neg (by omega), if_neg (by omega), if_neg (by omega), if_neg (by omega), if_neg (by omega)]
    exact ⟨h1, h2, h3⟩
  · obtain rfl : i = k := by omega
    refine ⟨?_, ?_, ?_⟩ <;> simp [List.getElem?_set] <;> omega

set_option maxRecDepth 100000 in
set_option maxHeartbeats 2000000 in
theorem markInsS_any (B g n cap K : Nat) (xs : List Value) (w : World) (hown : w.ownsRow B 47 3 (.slice (some ⟨g, 0, none⟩) n cap) n xs) (hB : B ≤ w.heap.size) (hn : n ≤ 1048576) (h1 : 1 ≤ K) (h2 : K ≤ 900000000000000) :
    Calls Tryz.prog 31 #[.slice (some ⟨g, 0, none⟩) n cap, .int .i64 K] w fun e w' => e = .returned (.int .i64 ((K + 3 * n : Nat) : Int)) ∧ Below B w w' ∧ KeepB g w w' ∧ ∃ ys, w'.ownsRow B 47 3 (.slice (some ⟨g, 0, none⟩) n cap) n ys ∧ MkI K n ys := by
  have hBg : B ≤ g := (hown.lt g rfl).1
  go_enter Tryz.func31, Tryz.ntmps31
  go_wp2
  go_loopw [1, 5] (fun k i wr => ∃ (m : Nat) (ys : List Value), m ≤ n ∧ i = .int .i64 m ∧ k = .int .i64 ((K + 3 * m : Nat) : Int) ∧ Hid (wr.ownsRow B 47 3 (.slice (some ⟨g, 0, none⟩) n cap) n ys) ∧ Hid (MkI K m ys) ∧ Hid (KeepB g w wr) ∧ w.heap.size ≤ wr.heap.size ∧ Below B w wr) (fun _ i _ => n - (intOf i).toNat)
  case atStart => exact ⟨0, xs, Nat.zero_le _, rfl, rfl, hown, (fun i hi => by omega : MkI K 0 xs), (fun b _ _ => rfl : KeepB g w w), Nat.le_refl _, Below.refl _ _⟩
  case round =>
    obtain ⟨m, ys, hm, rfl, rfl, HO, HM, HK, hsz, hbr⟩ := hrel
    clear hown
    by_cases hlt : m < n
    · have hlx : m * 3 + 2 < ys.length := by rw [HO.out.1]; omega
      have HM2 : Hid (MkI K (m + 1) (((ys.set (m * 3) (.int .i64 ((K + 3 * m : Nat) : Int))).set (m * 3 + 1) (.string (mt (K + 3 * m + 1)))).set (m * 3 + 2) (.int .i64 ((K + 3 * m + 2 : Nat) : Int)))) := mkI_set HM.out hlx
      have hKb : K + 3 * m + 1 < 1000000000000000 := by omega
      have HT : Hid (∀ W : World, Calls Tryz.prog 54 #[.int .i64 ((K + 3 * m + 1 : Nat) : Int)] W fun e w' => Below W.heap.size W w' ∧ e = .returned (.string (mt (K + 3 * m + 1)))) := fun W => markText_any (K + 3 * m + 1) W (by omega) hKb
      generalize mt (K + 3 * m + 1) = t at *
      obtain ⟨c, ec⟩ : ∃ c, K + 3 * m = c := ⟨_, rfl⟩
      rw [ec] at HM2 HT hKb ⊢
      have HE : Hid (K + 3 * m = c) := ec
      clear ec
      obtain ⟨o1, d1⟩ := cell_of_length3 HO.out (j := m * 3) (by omega)
      have hfr := HO.out.frozenAt
      have hown1 := (HO.out.stored (m * 3) (.int .i64 (c : Int))).1
      have hmI : (m : Int) < (n : Int) := by omega
      go_wp2_with fail
      refine (HT.out _).mono ?_
      rintro e w2 ⟨hb2, rfl⟩
      have hown2 := ownsRow_below hown1 hb2
      have hbw : Below B w w2 := (hbr.setCell (p := ⟨g, m * 3, none⟩) hBg _).trans (hb2.mono (by simp; omega))
      have hfr2 := hown2.frozenAt
      obtain ⟨o2, d2⟩ := cell_of_length3 hown2 (j := m * 3 + 1) (by omega)
      obtain ⟨o3, d3⟩ := cell_of_length3 hown2 (j := m * 3 + 2) (by omega)
      have HO2 : Hid (w2.ownsRow B 47 3 (.slice (some ⟨g, 0, none⟩) n cap) n (ys.set (m * 3) (.int .i64 (c : Int)))) := hown2
      have HK2 : Hid (KeepB g w w2) := (HK.out.set (m * 3) (.int .i64 (c : Int))).below (by simpa using hsz) hb2
      have hs2 : w.heap.size ≤ w2.heap.size := by have := hb2.size; simp at this; omega
      clear hown1 hown2 hb2 hfr d1 hbr
      go_wp2
      go_roundw
      case rel => exact ⟨m + 1, _, by omega, by go_num, congrArg (Value.int .i64) (by have := HE.out; omega), ((HO2.out.stored _ _).1.stored _ _).1, HM2.out, (HK2.out.set _ _).set _ _, by simpa using hs2, (hbw.setCell (p := ⟨g, m * 3 + 1, none⟩) hBg _).setCell (p := ⟨g, m * 3 + 2, none⟩) hBg _⟩
      case measure => simp [intOf]; omega
    · have em : m = n := by omega
      subst em
      go_wp2
      go_ret
      exact ⟨rfl, hbr, HK.out, ys, HO.out, HM.out⟩

/-- The marks are read back. -/
def RdI (K n : Nat) (w : World) (g : Nat) : Prop := ∀ i, i < n → w.cell? ⟨g, i * 3, none⟩ = some (.int .i64 ((K + 3 * i : Nat) : Int)) ∧ w.cell? ⟨g, i * 3 + 1, none⟩ = some (.string (mt (K + 3 * i + 1))) ∧ w.cell? ⟨g, i * 3 + 2, none⟩ = some (.int .i64 ((K + 3 * i + 2 : Nat) : Int))
theorem MkI.read {w : World} {B g n cap K : Nat} {ys : List Value} (h : w.ownsRow B 47 3 (.slice (some ⟨g, 0, none⟩) n cap) n ys) (hm : MkI K n ys) : RdI K n w g := by
  intro i hi
  obtain ⟨h1, h2, h3⟩ := hm i hi
  exact ⟨by rw [h.cellAt _ (by omega)]; exact h1, by rw [h.cellAt _ (by omega)]; exact h2, by rw [h.cellAt _ (by omega)]; exact h3⟩
theorem RdI.below {w w' : World} {g n K : Nat} (h : RdI K n w g) (hb : Below w.heap.size w w') : RdI K n w' g := fun i hi =>
  ⟨cell_below hb (h i hi).1, cell_below hb (h i hi).2.1, cell_below hb (h i hi).2.2⟩

set_option maxRecDepth 100000 in
set_option maxHeartbeats 2000000 in
theorem heldInsS_any (g n cap K : Nat) (w : World) (hr : RdI K n w g) (hn : n ≤ 1048576) (h1 : 1 ≤ K) (h2 : K ≤ 900000000000000) :
    Calls Tryz.prog 32 #[.slice (some ⟨g, 0, none⟩) n cap, .int .i64 K] w fun e w' => e = .returned (.int .i64 ((K + 3 * n : Nat) : Int)) ∧ Below w.heap.size w w' := by
  have HR : Hid (RdI K n w g) := hr
  clear hr
  go_enter Tryz.func32, Tryz.ntmps32
  go_wp2
  go_loopw [1, 5] (fun k i wr => ∃ (m : Nat), m ≤ n ∧ i = .int .i64 m ∧ k = .int .i64 ((K + 3 * m : Nat) : Int) ∧ Below w.heap.size w wr) (fun _ i _ => n - (intOf i).toNat)
  case atStart => exact ⟨0, Nat.zero_le _, rfl, rfl, Below.refl _ _⟩
  case round =>
    obtain ⟨m, hm, rfl, rfl, hbr⟩ := hrel
    by_cases hlt : m < n
    · obtain ⟨c1, c2, c3⟩ := (HR.out.below hbr) m hlt
      have hKb : K + 3 * m + 1 < 1000000000000000 := by omega
      have HT : Hid (∀ W : World, Calls Tryz.prog 54 #[.int .i64 ((K + 3 * m + 1 : Nat) : Int)] W fun e w' => Below W.heap.size W w' ∧ e = .returned (.string (mt (K + 3 * m + 1)))) := fun W => markText_any (K + 3 * m + 1) W (by omega) hKb
      generalize mt (K + 3 * m + 1) = t at *
      obtain ⟨c, ec⟩ : ∃ c, K + 3 * m = c := ⟨_, rfl⟩
      rw [ec] at c1 c3 HT hKb ⊢
      have HE : Hid (K + 3 * m = c) := ec
      clear ec
      have et := str_eq (rfl : t = t)
      have hmI : (m : Int) < (n : Int) := by omega
      have hm0 : (0 : Int) ≤ (m : Int) := by omega
      have e1 : (((c + 1 : Nat) : Int)) = (c : Int) + 1 := by omega
      have e2 : (((c + 2 : Nat) : Int)) = (c : Int) + 1 + 1 := by omega
      rw [e2] at c3
      have hbA : Below wr.heap.size wr wr.drew := (Below.refl _ _).drew
      clear e1 e2
      go_wp2_with fail
      go_region_held3 (fun w' => w'.cell? ⟨g, m * 3, none⟩ = some (.int .i64 (c : Int)) ∧ w'.cell? ⟨g, m * 3 + 1, none⟩ = some (.string t) ∧ w'.cell? ⟨g, m * 3 + 2, none⟩ = some (.int .i64 ((c : Int) + 1 + 1)))
        (first | assumption | (simp [*]; done) | exact ⟨cell_below hb2 (by simp [*]), cell_below hb2 (by simp [*]), cell_below hb2 (by simp [*])⟩)
        (first | (go_at_call 54; refine (HT.out _).mono ?_; rintro e w2 ⟨hb2, rfl⟩))
      all_goals
        have d3 := cell_below hb2 (cell_below hbA c3)
        have hB2 := bt hbr (bt hbA hb2)
        clear c1 c2 c3 hb2 hbA
        go_wp2
        go_roundw
        case rel => exact ⟨m + 1, by omega, by go_num, congrArg (Value.int .i64) (by have := HE.out; omega), hB2⟩
        case measure => simp [intOf]; omega
    · have em : m = n := by omega
      subst em
      go_wp2
      go_ret
      exact ⟨rfl, hbr⟩

end Go.Proofs.YtmcafdobfmheaaaGreatDoor
