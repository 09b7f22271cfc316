import Derived.Test.YtikdgmmloiegjaaGreatDoorPsS
import Derived.Test.YtikdgmmloiegjaaGreatDoorPrV
import Derived.Test.YtikdgmmloiegjaaGreatDoorStrs
namespace Go.Proofs.YtikdgmmloiegjaaGreatDoor
open Go.RowKit
set_option linter.unusedVariables false
set_option maxRecDepth 100000 in
set_option maxHeartbeats 4000000 in
theorem specParse_any (S : List UInt8) (w : World) :
    Calls Tryz.prog 4 #[.string ⟨S.toArray⟩] w fun e w' => Below w.heap.size w w' ∧ ((∀ s, ¬ Acc S s) ∧ e = .returned zeroS ∨ ∃ s, Acc S s ∧ ∃ ta tc ra rc, e = .returned (.tuple #[.agg #[.int .i64 (s.w : Int), .slice ta s.ts.length tc, .slice ra s.rs.length rc], .bool true]) ∧ StIn w' ta s.ts ra s.rs) := by
  obtain ⟨V, eV⟩ : ∃ V, w.alloc (.cells #[.int .i64 0, .slice none 0 0, .slice none 0 0] 25) = V := ⟨_, rfl⟩
  have hbV : Below w.heap.size w V := eV ▸ (Below.refl _ _).alloc (Nat.le_refl _) _
  have hRV : RB w.heap.size V := by unfold RB; rw [← eV]; exact alloc_here _ _
  have HEV := hid eV
  clear eV
  go_enter Tryz.func4, Tryz.ntmps4
  go_upto_region 1 with fail
  rw [HEV.out]
  clear HEV
  by_cases h0 : S = []
  · have HN : Hid (∀ s, ¬ Acc S s) := fun s h => acc_ne h h0
    subst h0
    obtain ⟨c0, c1, c2, f0, f1, f2⟩ := hRV.cells
    go_wp2_with fail
    refine bodyPost_ret (v := zeroS) (by simp [results, Tryz.results4, go_sem, c0, c1, c2, zeroS]) rfl ⟨below_setR hbV (Nat.le_refl _) _ _ _, Or.inl ⟨HN.out, rfl⟩⟩
  · have hC1 : S.isEmpty = false := by simpa using h0
    by_cases hbig : 200000 < S.length
    · have HN : Hid (∀ s, ¬ Acc S s) := fun s h => by have := h.1; omega
      have d1 : decide ((200000 : Int) < (S.length : Int)) = true := by simp; omega
      obtain ⟨c0, c1, c2, f0, f1, f2⟩ := hRV.cells
      go_wp2_with fail
      refine bodyPost_ret (v := zeroS) (by simp [results, Tryz.results4, go_sem, c0, c1, c2, zeroS]) rfl ⟨below_setR hbV (Nat.le_refl _) _ _ _, Or.inl ⟨HN.out, rfl⟩⟩
    · have d1 : decide ((200000 : Int) < (S.length : Int)) = false := by simp; omega
      have HL := hid (fun w => l7Read_any ⟨S.toArray⟩ w (by rw [bsz]; omega))
      rw [bB_eq] at HL
      have HA1 : Hid (∀ s, Acc S s → lsOf S = ⟨s.w, s.ts, s.rs⟩ ∧ prB s.w s.ts s.rs = bB S) := fun s h => acc_loose h
      have HA2 : Hid (prB (lsOf S).w (lsOf S).ts (lsOf S).rs = bB S → Acc S ⟨(lsOf S).w.toNat, (lsOf S).ts, (lsOf S).rs, none⟩ ∧ 0 ≤ (lsOf S).w) := fun h => loose_acc h0 h
      generalize lsOf S = L at *
      obtain ⟨lw, lts, lrs⟩ := L
      dsimp only at HL HA2
      have HA3 : Hid (prB lw lts lrs ≠ bB S → ∀ s, ¬ Acc S s) := fun hne s h => by
        obtain ⟨k1, k2⟩ := HA1.out s h
        obtain ⟨rfl, rfl, rfl⟩ := LS.mk.inj k1
        exact hne k2
      go_wp2_with fail
      refine (HL.out _).mono ?_
      rintro e w1 ⟨hb1, ta, tc, ra, rc, F, B, es, rfl, hFw, hrs, hsm⟩
      have HR1 := hid (hRV.below hb1 (hlt hRV))
      have hB1 := hbV.trans (hb1.mono hbV.size)
      have hVF : w.heap.size < F := by have := hlt hRV; omega
      obtain ⟨X, eX⟩ : ∃ X, w1.alloc (.cells #[.int .i64 lw, .slice ta lts.length tc, .slice ra lrs.length rc] 25) = X := ⟨_, rfl⟩
      have hbX : Below w1.heap.size w1 X := eX ▸ (Below.refl _ _).alloc (Nat.le_refl _) _
      have hFX : X.heap[w1.heap.size]? = some (.cells #[.int .i64 lw, .slice ta lts.length tc, .slice ra lrs.length rc] 25 (0, 0)) := by rw [← eX]; exact alloc_here _ _
      have HEX := hid eX
      have HRX := hid (HR1.out.below hbX (hlt HR1.out))
      have HSX := hid (hrs.below hbX)
      have HSM := hid hsm
      have hBX := hB1.trans (hbX.mono hB1.size)
      have hl1 := hlt HR1.out
      have hl2 := hlt hFX
      have HFX := hid hFX
      have HPR : Hid (∀ w, RS F B ⟨lw, lts, lrs⟩ (.slice ta lts.length tc) (.slice ra lrs.length rc) es w → Calls Tryz.prog 10 #[.agg #[.int .i64 lw, .slice ta lts.length tc, .slice ra lrs.length rc]] w fun e w' => e = .returned (.string (prB lw lts lrs)) ∧ Below w.heap.size w w') := fun w h => by
        obtain ⟨ta', tc', ra', rc', e1, e2, h⟩ := h.stIn HSM.out
        cases e1
        cases e2
        exact specPrintStore_any lw ta ra tc rc lts lrs w h
      generalize prB lw lts lrs = q at *
      clear hb1 hrs hsm hbX hB1 hbV hRV HR1 eX HL hFX hFw
      go_upto_region 4 with fail
      rw [HEX.out]
      clear HEX
      obtain ⟨x0, x1, x2⟩ : X.cell? ⟨w1.heap.size, 0, none⟩ = some (.int .i64 lw) ∧ X.cell? ⟨w1.heap.size, 1, none⟩ = some (.slice ta lts.length tc) ∧ X.cell? ⟨w1.heap.size, 2, none⟩ = some (.slice ra lrs.length rc) := ⟨by rw [Lib.cell_of_heap HFX.out]; rfl, by rw [Lib.cell_of_heap HFX.out]; rfl, by rw [Lib.cell_of_heap HFX.out]; rfl⟩
      go_wp2_with fail
      refine (HPR.out _ HSX.out).mono ?_
      rintro e w2 ⟨rfl, hb2⟩
      have HR2 := hid (HRX.out.below hb2 (hlt HRX.out))
      have HS2 := hid (HSX.out.below hb2)
      have hF2 : w2.heap[w1.heap.size]? = some (.cells #[.int .i64 lw, .slice ta lts.length tc, .slice ra lrs.length rc] 25 (0, 0)) := by rw [hb2.block _ hl2]; exact HFX.out
      have hB2 := hBX.trans (hb2.mono hBX.size)
      obtain ⟨c0, c1, c2, f0, f1, f2⟩ := HR2.out.cells
      obtain ⟨y0, y1, y2⟩ : w2.cell? ⟨w1.heap.size, 0, none⟩ = some (.int .i64 lw) ∧ w2.cell? ⟨w1.heap.size, 1, none⟩ = some (.slice ta lts.length tc) ∧ w2.cell? ⟨w1.heap.size, 2, none⟩ = some (.slice ra lrs.length rc) := ⟨by rw [Lib.cell_of_heap hF2]; rfl, by rw [Lib.cell_of_heap hF2]; rfl, by rw [Lib.cell_of_heap hF2]; rfl⟩
      clear x0 x1 x2 HRX HSX hb2 hBX hF2 HPR
      by_cases hq : q = bB S
      · obtain ⟨ha1, ha2⟩ := HA2.out hq
        have HACC := hid ha1
        have e1 : (q.toList == S) = true := by rw [hq, ByteArray.toList_eq]; simp [bB]
        have HLW : Hid (((lw.toNat : Nat) : Int) = lw) := Int.toNat_of_nonneg ha2
        have hfb := HS2.out.fb
        have HSR := hid (((HS2.out.setR (b := w.heap.size) (j := 0) (by omega) (by omega) (.int .i64 lw)).setR (b := w.heap.size) (j := 1) (by omega) (by omega) (.slice ta lts.length tc)).setR (b := w.heap.size) (j := 2) (by omega) (by omega) (.slice ra lrs.length rc))
        clear hq ha1 ha2 HA1 HA2 HA3 HS2
        go_wp2_with fail
        refine bodyPost_ret (v := .tuple #[.agg #[.int .i64 lw, .slice ta lts.length tc, .slice ra lrs.length rc], .bool true]) (by simp [results, Tryz.results4, go_sem, c0, c1, c2]) rfl ⟨below_setR hB2 (Nat.le_refl _) _ _ _, Or.inr ⟨_, HACC.out, ta, tc, ra, rc, ?_, ?_⟩⟩
        · dsimp only; rw [HLW.out]
        · obtain ⟨ta', tc', ra', rc', e1, e2, h⟩ := HSR.out.stIn HSM.out
          cases e1
          cases e2
          exact h
      · have HN : Hid (∀ s, ¬ Acc S s) := HA3.out hq
        have e1 : (q.toList == S) = false := by
          rw [Bool.eq_false_iff]
          intro e
          apply hq
          rw [ByteArray.toList_eq] at e
          exact bytes_of_list (by simpa [bB] using e)
        clear hq HA1 HA2 HA3 HS2
        go_wp2_with fail
        refine bodyPost_ret (v := zeroS) (by simp [results, Tryz.results4, go_sem, c0, c1, c2, zeroS]) rfl ⟨below_setR hB2 (Nat.le_refl _) _ _ _, Or.inl ⟨HN.out, rfl⟩⟩

end Go.Proofs.YtikdgmmloiegjaaGreatDoor
namespace Go.Proofs.YtikdgmmloiegjaaGreatDoor
open Go.RowKit
set_option linter.unusedVariables false

def digM (n : Nat) : ByteArray := ⟨#[UInt8.ofNat (48 + n)]⟩
theorem dig_byteM (d : Nat) (h : d < 10) : ((UInt8.ofNat (48 + d)).toNat : Int) = 48 + d := by rw [UInt8.toNat_ofNat']; omega
theorem conv_oneM (W : World) (g : Nat) (c : Int) (u : UInt8) (hu : (u.toNat : Int) = c) (h : W.cell? ⟨g, 0, none⟩ = some (.int .u8 c)) : (convert 62 9 (.slice (some ⟨g, 0, none⟩) 1 1)).run Tryz.prog W = .ok (.string ⟨#[u]⟩) W := by
  subst hu
  exact run_convert_bytes_back (P := Tryz.prog) W 62 9 5 ⟨g, 0, none⟩ 1 [u] Tryz.underlying62 Tryz.underlying5 Tryz.underlying9 (fun t ht => by
    obtain rfl : t = 0 := by simp at ht; omega
    simpa [Addr.add] using h)


/-- The decimal of k ahead of a text. -/
def mtL : Nat → Nat → ByteArray → ByteArray
  | 0, _, out => out
  | f + 1, k, out => if k = 0 then out else mtL f (k / 10) (digM (k % 10) ++ out)
theorem mtL_zero (f : Nat) (out : ByteArray) : mtL f 0 out = out := by cases f <;> simp [mtL]
def mt (k : Nat) : ByteArray := ⟨#[109]⟩ ++ mtL 16 k ⟨#[]⟩

set_option maxRecDepth 100000 in
set_option maxHeartbeats 1000000 in
theorem markText_any (K : Nat) (w : World) (h1 : 1 ≤ K) (h2 : K < 1000000000000000) :
    Calls Tryz.prog 34 #[.int .i64 K] w fun e w' => Below w.heap.size w w' ∧ e = .returned (.string (mt K)) := by
  go_enter Tryz.func34, Tryz.ntmps34
  go_wp2
  go_loopw [0, 3] (fun a v wr => ∃ (f k : Nat) (out : ByteArray), a = .int .i64 k ∧ v = .string out ∧ Hid (mtL f k out = mtL 16 K ⟨#[]⟩) ∧ k < 10 ^ f ∧ f ≤ 16 ∧ out.size + f = 16 ∧ Below w.heap.size w wr) (fun a _ _ => (intOf a).toNat)
  case atStart => exact ⟨16, K, ⟨#[]⟩, rfl, rfl, rfl, by omega, by omega, rfl, Below.refl _ _⟩
  case round =>
    obtain ⟨f, k, out, rfl, rfl, HM, hk, hf, ho, hbr⟩ := hrel
    by_cases h0 : k = 0
    · subst h0
      have HO : Hid (mt K = (⟨#[109]⟩ : ByteArray) ++ out) := by
        show mt K = _
        unfold mt
        rw [← HM.out, mtL_zero]
      have hs : ((⟨#[109]⟩ : ByteArray) ++ out).size = 1 + out.size := ByteArray.size_append
      go_wp2
      go_ret
      exact ⟨hbr, by rw [HO.out]; rfl⟩
    · obtain ⟨g, rfl⟩ : ∃ g, f = g + 1 := by
        cases f with
        | zero => simp at hk; omega
        | succ g => exact ⟨g, rfl⟩
      have hk' : k / 10 < 10 ^ g := by rw [Nat.pow_succ] at hk; omega
      obtain ⟨d, ed⟩ : ∃ d, k % 10 = d := ⟨_, rfl⟩
      have hd : d < 10 := by omega
      have HM2 : Hid (mtL g (k / 10) (digM d ++ out) = mtL 16 K ⟨#[]⟩) := by
        show mtL g (k / 10) (digM d ++ out) = _
        rw [← HM.out, ← ed]
        simp only [mtL, h0, if_false]
      have hu := dig_byteM d hd
      have hs : (digM d ++ out).size = 1 + out.size := ByteArray.size_append
      unfold digM at HM2 hs
      generalize UInt8.ofNat (48 + d) = u at *
      have e1 : (k : Int) % 10 = (d : Int) := by omega
      obtain ⟨k2, e2⟩ : ∃ k2, k / 10 = k2 := ⟨_, rfl⟩
      rw [e2] at HM2 hk'
      have e3 : (k : Int) / 10 = (k2 : Int) := by omega
      have hlt : k2 < k := by omega
      have hkI : (0 : Int) < (k : Int) := by omega
      have hcv := conv_oneM (wr.alloc (.cells #[.int .u8 (48 + d)] 5)) wr.heap.size (48 + d) u hu (by simp [go_sem])
      have hkb : k < 10000000000000000 := Nat.lt_of_lt_of_le hk (Nat.pow_le_pow_right (by omega) hf)
      have HK' : Hid (k2 < 10 ^ g) := hk'
      clear hu ed e2 hk hk' h0
      go_wp2
      go_roundw
      case rel => exact ⟨g, k2, _, by go_num, rfl, HM2.out, HK'.out, by omega, by rw [hs]; omega, hbr.alloc hbr.size _⟩
      case measure => simp [intOf]; omega

end Go.Proofs.YtikdgmmloiegjaaGreatDoor
namespace Go.Proofs.YtikdgmmloiegjaaGreatDoor
open Go.RowKit
set_option linter.unusedVariables false

/-- All blocks but g stay. -/
def KeepB (g : Nat) (w w' : World) : Prop := ∀ b, b < w.heap.size → b ≠ g → w'.heap[b]? = w.heap[b]?
theorem KeepB.set {g : Nat} {w w' : World} (h : KeepB g w w') (j : Nat) (v : Value) : KeepB g w (w'.setCell ⟨g, j, none⟩ v) := fun b hb hne => by
  rw [Below.heap_setCell w' ⟨g, j, none⟩ v b hne]; exact h b hb hne
theorem KeepB.below {g : Nat} {w w' w2 : World} (h : KeepB g w w') (hs : w.heap.size ≤ w'.heap.size) (hb : Below w'.heap.size w' w2) : KeepB g w w2 := fun b hl hne => by
  rw [hb.block b (by omega)]; exact h b hl hne

/-- The first n instructions of the row bear the marks from K on. -/
def MkI (K n : Nat) (ys : List Value) : Prop := ∀ i, i < n → ys[i * 3]? = some (.int .i64 ((K + 3 * i : Nat) : Int)) ∧ ys[i * 3 + 1]? = some (.string (mt (K + 3 * i + 1))) ∧ ys[i * 3 + 2]? = some (.int .i64 ((K + 3 * i + 2 : Nat) : Int))
theorem mkI_set {K k : Nat} {ys : List Value} (h : MkI K k ys) (hx : k * 3 + 2 < ys.length) :
    MkI K (k + 1) (((ys.set (k * 3) (.int .i64 ((K + 3 * k : Nat) : Int))).set (k * 3 + 1) (.string (mt (K + 3 * k + 1)))).set (k * 3 + 2) (.int .i64 ((K + 3 * k + 2 : Nat) : Int))) := by
  intro i hi
  rcases Nat.lt_or_ge i k with hl | hl
  · obtain ⟨h1, h2, h3⟩ := h i hl
    simp only [List.getElem?_set]
    rw [if_neg (by omega), if_neg (by omega), if_neg (by omega), if_neg (by omega), if_neg (by omega), if_neg (by omega), if_neg (by omega), if_neg (by omega), if_neg (by omega)]
    exact ⟨h1, h2, h3⟩
  · obtain rfl : i = k := by omega
    refine ⟨?_, ?_, ?_⟩ <;> simp [List.getElem?_set] <;> omega

set_option maxRecDepth 100000 in
set_option maxHeartbeats 2000000 in
theorem markInsS_any (B g n cap K : Nat) (xs : List Value) (w : World) (hown : w.ownsRow B 56 3 (.slice (some ⟨g, 0, none⟩) n cap) n xs) (hB : B ≤ w.heap.size) (hn : n ≤ 1048576) (h1 : 1 ≤ K) (h2 : K ≤ 900000000000000) :
    Calls Tryz.prog 35 #[.slice (some ⟨g, 0, none⟩) n cap, .int .i64 K] w fun e w' => e = .returned (.int .i64 ((K + 3 * n : Nat) : Int)) ∧ Below B w w' ∧ KeepB g w w' ∧ ∃ ys, w'.ownsRow B 56 3 (.slice (some ⟨g, 0, none⟩) n cap) n ys ∧ MkI K n ys := by
  have hBg : B ≤ g := (hown.lt g rfl).1
  go_enter Tryz.func35, Tryz.ntmps35
  go_wp2
  go_loopw [1, 5] (fun k i wr => ∃ (m : Nat) (ys : List Value), m ≤ n ∧ i = .int .i64 m ∧ k = .int .i64 ((K + 3 * m : Nat) : Int) ∧ Hid (wr.ownsRow B 56 3 (.slice (some ⟨g, 0, none⟩) n cap) n ys) ∧ Hid (MkI K m ys) ∧ Hid (KeepB g w wr) ∧ w.heap.size ≤ wr.heap.size ∧ Below B w wr) (fun _ i _ => n - (intOf i).toNat)
  case atStart => exact ⟨0, xs, Nat.zero_le _, rfl, rfl, hown, (fun i hi => by omega : MkI K 0 xs), (fun b _ _ => rfl : KeepB g w w), Nat.le_refl _, Below.refl _ _⟩
  case round =>
    obtain ⟨m, ys, hm, rfl, rfl, HO, HM, HK, hsz, hbr⟩ := hrel
    clear hown
    by_cases hlt : m < n
    · have hlx : m * 3 + 2 < ys.length := by rw [HO.out.1]; omega
      have HM2 : Hid (MkI K (m + 1) (((ys.set (m * 3) (.int .i64 ((K + 3 * m : Nat) : Int))).set (m * 3 + 1) (.string (mt (K + 3 * m + 1)))).set (m * 3 + 2) (.int .i64 ((K + 3 * m + 2 : Nat) : Int)))) := mkI_set HM.out hlx
      have hKb : K + 3 * m + 1 < 1000000000000000 := by omega
      have HT : Hid (∀ W : World, Calls Tryz.prog 34 #[.int .i64 ((K + 3 * m + 1 : Nat) : Int)] W fun e w' => Below W.heap.size W w' ∧ e = .returned (.string (mt (K + 3 * m + 1)))) := fun W => markText_any (K + 3 * m + 1) W (by omega) hKb
      generalize mt (K + 3 * m + 1) = t at *
      obtain ⟨c, ec⟩ : ∃ c, K + 3 * m = c := ⟨_, rfl⟩
      rw [ec] at HM2 HT hKb ⊢
      have HE : Hid (K + 3 * m = c) := ec
      clear ec
      obtain ⟨o1, d1⟩ := cell_of_length3 HO.out (j := m * 3) (by omega)
      have hfr := HO.out.frozenAt
      have hown1 := (HO.out.stored (m * 3) (.int .i64 (c : Int))).1
      have hmI : (m : Int) < (n : Int) := by omega
      go_wp2_with fail
      refine (HT.out _).mono ?_
      rintro e w2 ⟨hb2, rfl⟩
      have hown2 := ownsRow_below hown1 hb2
      have hbw : Below B w w2 := (hbr.setCell (p := ⟨g, m * 3, none⟩) hBg _).trans (hb2.mono (by simp; omega))
      have hfr2 := hown2.frozenAt
      obtain ⟨o2, d2⟩ := cell_of_length3 hown2 (j := m * 3 + 1) (by omega)
      obtain ⟨o3, d3⟩ := cell_of_length3 hown2 (j := m * 3 + 2) (by omega)
      have HO2 : Hid (w2.ownsRow B 56 3 (.slice (some ⟨g, 0, none⟩) n cap) n (ys.set (m * 3) (.int .i64 (c : Int)))) := hown2
      have HK2 : Hid (KeepB g w w2) := (HK.out.set (m * 3) (.int .i64 (c : Int))).below (by simpa using hsz) hb2
      have hs2 : w.heap.size ≤ w2.heap.size := by have := hb2.size; simp at this; omega
      clear hown1 hown2 hb2 hfr d1 hbr
      go_wp2
      go_roundw
      case rel => exact ⟨m + 1, _, by omega, by go_num, congrArg (Value.int .i64) (by have := HE.out; omega), ((HO2.out.stored _ _).1.stored _ _).1, HM2.out, (HK2.out.set _ _).set _ _, by simpa using hs2, (hbw.setCell (p := ⟨g, m * 3 + 1, none⟩) hBg _).setCell (p := ⟨g, m * 3 + 2, none⟩) hBg _⟩
      case measure => simp [intOf]; omega
    · have em : m = n := by omega
      subst em
      go_wp2
      go_ret
      exact ⟨rfl, hbr, HK.out, ys, HO.out, HM.out⟩

/-- The marks are read back. -/
def RdI (K n : Nat) (w : World) (g : Nat) : Prop := ∀ i, i < n → w.cell? ⟨g, i * 3, none⟩ = some (.int .i64 ((K + 3 * i : Nat) : Int)) ∧ w.cell? ⟨g, i * 3 + 1, none⟩ = some (.string (mt (K + 3 * i + 1))) ∧ w.cell? ⟨g, i * 3 + 2, none⟩ = some (.int .i64 ((K + 3 * i + 2 : Nat) : Int))
theorem MkI.read {w : World} {B g n cap K : Nat} {ys : List Value} (h : w.ownsRow B 56 3 (.slice (some ⟨g, 0, none⟩) n cap) n ys) (hm : MkI K n ys) : RdI K n w g := by
  intro i hi
  obtain ⟨h1, h2, h3⟩ := hm i hi
  exact ⟨by rw [h.cellAt _ (by omega)]; exact h1, by rw [h.cellAt _ (by omega)]; exact h2, by rw [h.cellAt _ (by omega)]; exact h3⟩
theorem RdI.below {w w' : World} {g n K : Nat} (h : RdI K n w g) (hb : Below w.heap.size w w') : RdI K n w' g := fun i hi =>
  ⟨cell_below hb (h i hi).1, cell_below hb (h i hi).2.1, cell_below hb (h i hi).2.2⟩

set_option maxRecDepth 100000 in
set_option maxHeartbeats 2000000 in
theorem heldInsS_any (g n cap K : Nat) (w : World) (hr : RdI K n w g) (hn : n ≤ 1048576) (h1 : 1 ≤ K) (h2 : K ≤ 900000000000000) :
    Calls Tryz.prog 37 #[.slice (some ⟨g, 0, none⟩) n cap, .int .i64 K] w fun e w' => e = .returned (.int .i64 ((K + 3 * n : Nat) : Int)) ∧ Below w.heap.size w w' := by
  have HR : Hid (RdI K n w g) := hr
  clear hr
  go_enter Tryz.func37, Tryz.ntmps37
  go_wp2
  go_loopw [1, 5] (fun k i wr => ∃ (m : Nat), m ≤ n ∧ i = .int .i64 m ∧ k = .int .i64 ((K + 3 * m : Nat) : Int) ∧ Below w.heap.size w wr) (fun _ i _ => n - (intOf i).toNat)
  case atStart => exact ⟨0, Nat.zero_le _, rfl, rfl, Below.refl _ _⟩
  case round =>
    obtain ⟨m, hm, rfl, rfl, hbr⟩ := hrel
    by_cases hlt : m < n
    · obtain ⟨c1, c2, c3⟩ := (HR.out.below hbr) m hlt
      have hKb : K + 3 * m + 1 < 1000000000000000 := by omega
      have HT : Hid (∀ W : World, Calls Tryz.prog 34 #[.int .i64 ((K + 3 * m + 1 : Nat) : Int)] W fun e w' => Below W.heap.size W w' ∧ e = .returned (.string (mt (K + 3 * m + 1)))) := fun W => markText_any (K + 3 * m + 1) W (by omega) hKb
      generalize mt (K + 3 * m + 1) = t at *
      obtain ⟨c, ec⟩ : ∃ c, K + 3 * m = c := ⟨_, rfl⟩
      rw [ec] at c1 c3 HT hKb ⊢
      have HE : Hid (K + 3 * m = c) := ec
      clear ec
      have et := str_eq (rfl : t = t)
      have hmI : (m : Int) < (n : Int) := by omega
      have hm0 : (0 : Int) ≤ (m : Int) := by omega
      have e1 : (((c + 1 : Nat) : Int)) = (c : Int) + 1 := by omega
      have e2 : (((c + 2 : Nat) : Int)) = (c : Int) + 1 + 1 := by omega
      rw [e2] at c3
      have hbA : Below wr.heap.size wr wr.drew := (Below.refl _ _).drew
      clear e1 e2
      go_wp2_with fail
      go_region_held3 (fun w' => w'.cell? ⟨g, m * 3, none⟩ = some (.int .i64 (c : Int)) ∧ w'.cell? ⟨g, m * 3 + 1, none⟩ = some (.string t) ∧ w'.cell? ⟨g, m * 3 + 2, none⟩ = some (.int .i64 ((c : Int) + 1 + 1)))
        (first | assumption | (simp [*]; done) | exact ⟨cell_below hb2 (by simp [*]), cell_below hb2 (by simp [*]), cell_below hb2 (by simp [*])⟩)
        (first | (go_at_call 34; refine (HT.out _).mono ?_; rintro e w2 ⟨hb2, rfl⟩))
      all_goals
        have d3 := cell_below hb2 (cell_below hbA c3)
        have hB2 := bt hbr (bt hbA hb2)
        clear c1 c2 c3 hb2 hbA
        go_wp2
        go_roundw
        case rel => exact ⟨m + 1, by omega, by go_num, congrArg (Value.int .i64) (by have := HE.out; omega), hB2⟩
        case measure => simp [intOf]; omega
    · have em : m = n := by omega
      subst em
      go_wp2
      go_ret
      exact ⟨rfl, hbr⟩

end Go.Proofs.YtikdgmmloiegjaaGreatDoor
