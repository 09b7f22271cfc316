/-
  laws.markGlanceS, markSeenS.
-/
import Derived.Test.YtmeojnaoljgieacDoorMkI
namespace Go.Proofs.YtmeojnaoljgieacDoor
open Go.RowKit
set_option linter.unusedVariables false

def mb (k : Nat) : Bool := decide (k % 3 = 0)
/-- The first n looks of the row bear the marks from K on. -/
def MkG (K n : Nat) (ys : List Value) : Prop := ∀ i, i < n → ys[i * 3]? = some (.string (mt (K + 3 * i))) ∧ ys[i * 3 + 1]? = some (.bool (mb (K + 3 * i + 1))) ∧ ys[i * 3 + 2]? = some (.string (mt (K + 3 * i + 2)))
theorem mkG_set {K k : Nat} {ys : List Value} (h : MkG K k ys) (hx : k * 3 + 2 < ys.length) :
    MkG K (k + 1) (((ys.set (k * 3) (.string (mt (K + 3 * k)))).set (k * 3 + 1) (.bool (mb (K + 3 * k + 1)))).set (k * 3 + 2) (.string (mt (K + 3 * k + 2)))) := by
  intro i hi
  rcases Nat.lt_or_ge i k with hl | hl
  · obtain ⟨h1, h2, h3⟩ := h i hl
    simp only [List.getElem?_set]
    rw [if_neg (by omega), if_neg (by omega), if_neg (by omega), if_neg (by omega), if_neg (by omega), if_neg (by omega), if_neg (by omega), if_neg (by omega), if_neg (by omega)]
    exact ⟨h1, h2, h3⟩
  · obtain rfl : i = k := by omega
    refine ⟨?_, ?_, ?_⟩ <;> simp [List.getElem?_set] <;> omega
theorem rem3 (c : Nat) : (((c : Int) + 1) % 3 == 0) = mb (c + 1) := by
  unfold mb
  rw [Bool.eq_iff_iff]
  simp
  omega

set_option maxRecDepth 100000 in
set_option maxHeartbeats 2000000 in
theorem markGlanceS_any (B g n cap K : Nat) (xs : List Value) (w : World) (hown : w.ownsRow B 133 3 (.slice (some ⟨g, 0, none⟩) n cap) n xs) (hB : B ≤ w.heap.size) (hn : n ≤ 1048576) (h1 : 1 ≤ K) (h2 : K ≤ 900000000000000) :
    Calls Tryd.prog 98 #[.slice (some ⟨g, 0, none⟩) n cap, .int .i64 K] w fun e w' => e = .returned (.int .i64 ((K + 3 * n : Nat) : Int)) ∧ Below B w w' ∧ KeepB g w w' ∧ ∃ ys, w'.ownsRow B 133 3 (.slice (some ⟨g, 0, none⟩) n cap) n ys ∧ MkG K n ys := by
  have hBg : B ≤ g := (hown.lt g rfl).1
  go_enter Tryd.func98, Tryd.ntmps98
  go_wp2
  go_loopw [1, 5] (fun k i wr => ∃ (m : Nat) (ys : List Value), m ≤ n ∧ i = .int .i64 m ∧ k = .int .i64 ((K + 3 * m : Nat) : Int) ∧ Hid (wr.ownsRow B 133 3 (.slice (some ⟨g, 0, none⟩) n cap) n ys) ∧ Hid (MkG K m ys) ∧ Hid (KeepB g w wr) ∧ w.heap.size ≤ wr.heap.size ∧ Below B w wr) (fun _ i _ => n - (intOf i).toNat)
  case atStart => exact ⟨0, xs, Nat.zero_le _, rfl, rfl, hown, (fun i hi => by omega : MkG K 0 xs), (fun b _ _ => rfl : KeepB g w w), Nat.le_refl _, Below.refl _ _⟩
  case round =>
    obtain ⟨m, ys, hm, rfl, rfl, HO, HM, HK, hsz, hbr⟩ := hrel
    clear hown
    by_cases hlt : m < n
    · have hlx : m * 3 + 2 < ys.length := by rw [HO.out.1]; omega
      have HM2 : Hid (MkG K (m + 1) (((ys.set (m * 3) (.string (mt (K + 3 * m)))).set (m * 3 + 1) (.bool (mb (K + 3 * m + 1)))).set (m * 3 + 2) (.string (mt (K + 3 * m + 2))))) := mkG_set HM.out hlx
      have hKb : K + 3 * m + 2 < 1000000000000000 := by omega
      have HT : Hid (∀ W : World, Calls Tryd.prog 96 #[.int .i64 ((K + 3 * m : Nat) : Int)] W fun e w' => Below W.heap.size W w' ∧ e = .returned (.string (mt (K + 3 * m)))) := fun W => markText_any (K + 3 * m) W (by omega) (by omega)
      have HU : Hid (∀ W : World, Calls Tryd.prog 96 #[.int .i64 ((K + 3 * m : Nat) + 1 + 1 : Int)] W fun e w' => Below W.heap.size W w' ∧ e = .returned (.string (mt (K + 3 * m + 2)))) := fun W => by
        have h := markText_any (K + 3 * m + 2) W (by omega) hKb
        rw [show ((K + 3 * m + 2 : Nat) : Int) = ((K + 3 * m : Nat) : Int) + 1 + 1 by omega] at h
        exact h
      have r1 := rem3 (K + 3 * m)
      generalize mt (K + 3 * m) = t at *
      generalize mt (K + 3 * m + 2) = u at *
      generalize mb (K + 3 * m + 1) = q at *
      obtain ⟨c, ec⟩ : ∃ c, K + 3 * m = c := ⟨_, rfl⟩
      rw [ec] at HT HU hKb r1 ⊢
      have HE : Hid (K + 3 * m = c) := ec
      clear ec
      have hmI : (m : Int) < (n : Int) := by omega
      go_wp2_with fail
      refine (HT.out _).mono ?_
      rintro e w2 ⟨hb2, rfl⟩
      have hown2 := ownsRow_below HO.out hb2
      have hbw : Below B w w2 := hbr.trans (hb2.mono (by omega))
      have hfr2 := hown2.frozenAt
      obtain ⟨o1, d1⟩ := cell_of_length3 hown2 (j := m * 3) (by omega)
      obtain ⟨o2, d2⟩ := cell_of_length3 hown2 (j := m * 3 + 1) (by omega)
      have HO2 : Hid (w2.ownsRow B 133 3 (.slice (some ⟨g, 0, none⟩) n cap) n ys) := hown2
      have HK2 : Hid (KeepB g w w2) := HK.out.below hsz hb2
      have hs2 : w.heap.size ≤ w2.heap.size := by have := hb2.size; omega
      clear hown2 hb2 hbr HO
      go_wp2_with fail
      refine (HU.out _).mono ?_
      rintro e w3 ⟨hb3, rfl⟩
      have hown3 := ownsRow_below ((HO2.out.stored (m * 3) (.string t)).1.stored (m * 3 + 1) (.bool q)).1 hb3
      have hbw3 : Below B w w3 := ((hbw.setCell (p := ⟨g, m * 3, none⟩) hBg _).setCell (p := ⟨g, m * 3 + 1, none⟩) hBg _).trans (hb3.mono (by simp; omega))
      have HK3 : Hid (KeepB g w w3) := ((HK2.out.set (m * 3) _).set (m * 3 + 1) _).below (by simpa using hs2) hb3
      have hs3 : w.heap.size ≤ w3.heap.size := by have := hb3.size; simp at this; omega
      have hfr3 := hown3.frozenAt
      obtain ⟨o3, d3⟩ := cell_of_length3 hown3 (j := m * 3 + 2) (by omega)
      have HO3 : Hid (w3.ownsRow B 133 3 (.slice (some ⟨g, 0, none⟩) n cap) n ((ys.set (m * 3) (.string t)).set (m * 3 + 1) (.bool q))) := hown3
      clear hown3 hb3 d1 d2 hbw hfr2 HO2
      go_wp2
      go_roundw
      case rel => exact ⟨m + 1, _, by omega, by go_num, congrArg (Value.int .i64) (by have := HE.out; omega), (HO3.out.stored _ _).1, HM2.out, HK3.out.set _ _, by simpa using hs3, hbw3.setCell (p := ⟨g, m * 3 + 2, none⟩) hBg _⟩
      case measure => simp [intOf]; omega
    · have em : m = n := by omega
      subst em
      go_wp2
      go_ret
      exact ⟨rfl, hbr, HK.out, ys, HO.out, HM.out⟩

set_option maxRecDepth 100000 in
set_option maxHeartbeats 2000000 in
theorem markSeenS_any (B g n cap K : Nat) (xs : List Value) (w : World) (hown : w.ownsRow B 131 3 (.slice (some ⟨g, 0, none⟩) n cap) n xs) (hB : B ≤ w.heap.size) (hn : n ≤ 1048576) (h1 : 1 ≤ K) (h2 : K ≤ 900000000000000) :
    Calls Tryd.prog 40 #[.slice (some ⟨g, 0, none⟩) n cap, .int .i64 K] w fun e w' => e = .returned (.int .i64 ((K + 3 * n : Nat) : Int)) ∧ Below B w w' ∧ KeepB g w w' ∧ ∃ ys, w'.ownsRow B 131 3 (.slice (some ⟨g, 0, none⟩) n cap) n ys ∧ MkG K n ys := by
  have hBg : B ≤ g := (hown.lt g rfl).1
  go_enter Tryd.func40, Tryd.ntmps40
  go_wp2
  go_loopw [1, 5] (fun k i wr => ∃ (m : Nat) (ys : List Value), m ≤ n ∧ i = .int .i64 m ∧ k = .int .i64 ((K + 3 * m : Nat) : Int) ∧ Hid (wr.ownsRow B 131 3 (.slice (some ⟨g, 0, none⟩) n cap) n ys) ∧ Hid (MkG K m ys) ∧ Hid (KeepB g w wr) ∧ w.heap.size ≤ wr.heap.size ∧ Below B w wr) (fun _ i _ => n - (intOf i).toNat)
  case atStart => exact ⟨0, xs, Nat.zero_le _, rfl, rfl, hown, (fun i hi => by omega : MkG K 0 xs), (fun b _ _ => rfl : KeepB g w w), Nat.le_refl _, Below.refl _ _⟩
  case round =>
    obtain ⟨m, ys, hm, rfl, rfl, HO, HM, HK, hsz, hbr⟩ := hrel
    clear hown
    by_cases hlt : m < n
    · have hlx : m * 3 + 2 < ys.length := by rw [HO.out.1]; omega
      have HM2 : Hid (MkG K (m + 1) (((ys.set (m * 3) (.string (mt (K + 3 * m)))).set (m * 3 + 1) (.bool (mb (K + 3 * m + 1)))).set (m * 3 + 2) (.string (mt (K + 3 * m + 2))))) := mkG_set HM.out hlx
      have hKb : K + 3 * m + 2 < 1000000000000000 := by omega
      have HT : Hid (∀ W : World, Calls Tryd.prog 96 #[.int .i64 ((K + 3 * m : Nat) : Int)] W fun e w' => Below W.heap.size W w' ∧ e = .returned (.string (mt (K + 3 * m)))) := fun W => markText_any (K + 3 * m) W (by omega) (by omega)
      have HU : Hid (∀ W : World, Calls Tryd.prog 96 #[.int .i64 ((K + 3 * m : Nat) + 1 + 1 : Int)] W fun e w' => Below W.heap.size W w' ∧ e = .returned (.string (mt (K + 3 * m + 2)))) := fun W => by
        have h := markText_any (K + 3 * m + 2) W (by omega) hKb
        rw [show ((K + 3 * m + 2 : Nat) : Int) = ((K + 3 * m : Nat) : Int) + 1 + 1 by omega] at h
        exact h
      have r1 := rem3 (K + 3 * m)
      generalize mt (K + 3 * m) = t at *
      generalize mt (K + 3 * m + 2) = u at *
      generalize mb (K + 3 * m + 1) = q at *
      obtain ⟨c, ec⟩ : ∃ c, K + 3 * m = c := ⟨_, rfl⟩
      rw [ec] at HT HU hKb r1 ⊢
      have HE : Hid (K + 3 * m = c) := ec
      clear ec
      have hmI : (m : Int) < (n : Int) := by omega
      go_wp2_with fail
      refine (HT.out _).mono ?_
      rintro e w2 ⟨hb2, rfl⟩
      have hown2 := ownsRow_below HO.out hb2
      have hbw : Below B w w2 := hbr.trans (hb2.mono (by omega))
      have hfr2 := hown2.frozenAt
      obtain ⟨o1, d1⟩ := cell_of_length3 hown2 (j := m * 3) (by omega)
      obtain ⟨o2, d2⟩ := cell_of_length3 hown2 (j := m * 3 + 1) (by omega)
      have HO2 : Hid (w2.ownsRow B 131 3 (.slice (some ⟨g, 0, none⟩) n cap) n ys) := hown2
      have HK2 : Hid (KeepB g w w2) := HK.out.below hsz hb2
      have hs2 : w.heap.size ≤ w2.heap.size := by have := hb2.size; omega
      clear hown2 hb2 hbr HO
      go_wp2_with fail
      refine (HU.out _).mono ?_
      rintro e w3 ⟨hb3, rfl⟩
      have hown3 := ownsRow_below ((HO2.out.stored (m * 3) (.string t)).1.stored (m * 3 + 1) (.bool q)).1 hb3
      have hbw3 : Below B w w3 := ((hbw.setCell (p := ⟨g, m * 3, none⟩) hBg _).setCell (p := ⟨g, m * 3 + 1, none⟩) hBg _).trans (hb3.mono (by simp; omega))
      have HK3 : Hid (KeepB g w w3) := ((HK2.out.set (m * 3) _).set (m * 3 + 1) _).below (by simpa using hs2) hb3
      have hs3 : w.heap.size ≤ w3.heap.size := by have := hb3.size; simp at this; omega
      have hfr3 := hown3.frozenAt
      obtain ⟨o3, d3⟩ := cell_of_length3 hown3 (j := m * 3 + 2) (by omega)
      have HO3 : Hid (w3.ownsRow B 131 3 (.slice (some ⟨g, 0, none⟩) n cap) n ((ys.set (m * 3) (.string t)).set (m * 3 + 1) (.bool q))) := hown3
      clear hown3 hb3 d1 d2 hbw hfr2 HO2
      go_wp2
      go_roundw
      case rel => exact ⟨m + 1, _, by omega, by go_num, congrArg (Value.int .i64) (by have := HE.out; omega), (HO3.out.stored _ _).1, HM2.out, HK3.out.set _ _, by simpa using hs3, hbw3.setCell (p := ⟨g, m * 3 + 2, none⟩) hBg _⟩
      case measure => simp [intOf]; omega
    · have em : m = n := by omega
      subst em
      go_wp2
      go_ret
      exact ⟨rfl, hbr, HK.out, ys, HO.out, HM.out⟩

end Go.Proofs.YtmeojnaoljgieacDoor
