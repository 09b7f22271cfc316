import Derived.Test.YtmeojnaoljgieaeGreatDoorImK
import Derived.Test.YtmeojnaoljgieaeGreatDoorGRec
import Derived.Test.YtmeojnaoljgieaeGreatDoorChkA
namespace Go.Proofs.YtmeojnaoljgieaeGreatDoor
open Go.RowKit Go.Deep
set_option linter.unusedVariables false
set_option maxRecDepth 100000 in
set_option maxHeartbeats 2000000 in
theorem implClean_any (sa ta : Option Addr) (c1 c2 : Nat) (ss : List S2) (ts : List T2) (nm : ByteArray) (w : World) (hT : Tab w) (hP : P10 w) (h : SpOk w sa ss ta ts) (hsm : SpSmall ss ts) (hn : nm.size ≤ 9223372036854775807) :
    Calls Tryz.prog 14 #[.agg #[.slice sa ss.length c1, .slice ta ts.length c2], .string nm] w fun e w' => Below w.heap.size w w' ∧ ∃ c t ch ca cn cc, e = .returned (.agg #[.int .i64 c, .string t, .slice ca cn cc]) ∧ CleanP ss ts nm c t ch ∧ w'.ownsRow w.heap.size 9 1 (.slice ca cn cc) ch.length (strV ch) := by
  obtain ⟨W, eW⟩ : ∃ W, (w.alloc (.cells #[.slice sa ss.length c1, .slice ta ts.length c2] 26)).alloc (.cells #[.int .i64 0, .string ⟨#[]⟩, .slice none 0 0] 32) = W := ⟨_, rfl⟩
  have hb0 : Below w.heap.size w W := by rw [← eW]; exact below_trans (alloc_below _ _) (alloc_below _ _)
  have HRB : Hid (W.heap[w.heap.size + 1]? = some (.cells #[.int .i64 0, .string ⟨#[]⟩, .slice none 0 0] 32 (0, 0))) := by
    show _ = _
    rw [← eW]
    have h := heap_new (w.alloc (.cells #[.slice sa ss.length c1, .slice ta ts.length c2] 26)) (.cells #[.int .i64 0, .string ⟨#[]⟩, .slice none 0 0] 32)
    rw [show (w.alloc (.cells #[.slice sa ss.length c1, .slice ta ts.length c2] 26)).heap.size = w.heap.size + 1 from by simp] at h
    exact h
  have p0 : W.cell? ⟨w.heap.size, 0, none⟩ = some (.slice sa ss.length c1) := by rw [← eW]; simp [go_sem]
  have p1 : W.cell? ⟨w.heap.size, 1, none⟩ = some (.slice ta ts.length c2) := by rw [← eW]; simp [go_sem]
  have HM : Hid (Calls Tryz.prog 45 #[.agg #[.slice sa ss.length c1, .slice ta ts.length c2], .string nm] W fun e w' => MarkP ss ts nm W e w') := cleanMark_any sa ta c1 c2 ss ts nm W (hT.below hb0) (hP.below hb0) (h.below hb0) hsm hn
  have HB0 : Hid (Below w.heap.size w W) := hb0
  clear h hb0 hsm hT hP
  have hfd : ∀ (v0 v1 v2 v3 v4 v5 : Value) (w : World), (Instr.field 92 (.agg #[v0, v1, v2, v3, v4, v5]) 1).run Tryz.prog w = .ok (.agg #[v1, v2, v3]) w := fun _ _ _ _ _ _ _ => by kernel_rfl
  go_enter Tryz.func14, Tryz.ntmps14
  go_wp2_with fail
  refine HM.out.mono ?_
  rintro e w1 ⟨hb1, ls, c, t, ch, ca, cn, cc, la, ln, lc, b, fo, rfl, hTP, hown, hlo⟩
  have HR1 : Hid (w1.heap[w.heap.size + 1]? = some (.cells #[.int .i64 0, .string ⟨#[]⟩, .slice none 0 0] 32 (0, 0))) := blk_keep hb1 HRB.out
  have HB1 : Hid (Below w.heap.size w w1) := below_trans HB0.out hb1
  have hs := HB0.out.size
  have HX : Hid (TrailP ss ts nm ls c t ch ∧ w1.ownsRow W.heap.size 9 1 (.slice ca cn cc) ch.length (strV ch)) := ⟨hTP, hown⟩
  obtain ⟨z0, z1, z2, zf⟩ := bk3 HR1.out
  clear hb1 hTP hown hlo HM p0 p1 eW
  dsimp only
  go_wp2_with fail
  obtain ⟨v0, v1, v2, _⟩ := bk3 (set3_at HR1.out (.int .i64 c) (.string t) (.slice ca cn cc))
  have x2 := HX.out.2
  have ho := own_same x2 (fun b' q => set3_ne (w := w1) (b := w.heap.size + 1) (fun e => by subst e; exact own_ne_cells x2 (by decide) HR1.out q) (.int .i64 c) (.string t) (.slice ca cn cc))
  exact bodyPost_ret (v := .agg #[.int .i64 c, .string t, .slice ca cn cc]) (by simp [results, Tryz.results14, go_sem, v0, v1, v2]) rfl ⟨below_set3 HB1.out (by omega) _ _ _, c, t, ch, ca, cn, cc, rfl, HX.out.1.clean, own_base ho hs⟩
end Go.Proofs.YtmeojnaoljgieaeGreatDoor
namespace Go.Proofs.YtmeojnaoljgieaeGreatDoor
open Go.RowKit
set_option linter.unusedVariables false
def digM (n : Nat) : ByteArray := ⟨#[UInt8.ofNat (48 + n)]⟩
theorem dig_byteM (d : Nat) (h : d < 10) : ((UInt8.ofNat (48 + d)).toNat : Int) = 48 + d := by rw [UInt8.toNat_ofNat']; omega
theorem qconv_one (W : World) (g : Nat) (c : Int) (u : UInt8) (hu : (u.toNat : Int) = c) (h : W.cell? ⟨g, 0, none⟩ = some (.int .u8 c)) : (convert 22 9 (.slice (some ⟨g, 0, none⟩) 1 1)).run Tryz.prog W = .ok (.string ⟨#[u]⟩) W := by
  subst hu
  exact run_convert_bytes_back (P := Tryz.prog) W 22 9 5 ⟨g, 0, none⟩ 1 [u] Tryz.underlying22 Tryz.underlying5 Tryz.underlying9 (fun t ht => by
    obtain rfl : t = 0 := by simp at ht; omega
    simpa [Addr.add] using h)
def mtL : Nat → Nat → ByteArray → ByteArray
  | 0, _, out => out
  | f + 1, k, out => if k = 0 then out else mtL f (k / 10) (digM (k % 10) ++ out)
theorem mtL_zero (f : Nat) (out : ByteArray) : mtL f 0 out = out := by cases f <;> simp [mtL]
def mt (k : Nat) : ByteArray := ⟨#[109]⟩ ++ mtL 16 k ⟨#[]⟩
set_option maxRecDepth 100000 in
set_option maxHeartbeats 1000000 in
theorem markText_any (K : Nat) (w : World) (h1 : 1 ≤ K) (h2 : K < 1000000000000000) :
    Calls Tryz.prog 95 #[.int .i64 K] w fun e w' => Below w.heap.size w w' ∧ e = .returned (.string (mt K)) := by
  go_enter Tryz.func95, Tryz.ntmps95
  go_wp2
  go_loopw [0, 3] (fun a v wr => ∃ (f k : Nat) (out : ByteArray), a = .int .i64 k ∧ v = .string out ∧ Hid (mtL f k out = mtL 16 K ⟨#[]⟩) ∧ k < 10 ^ f ∧ f ≤ 16 ∧ out.size + f = 16 ∧ Below w.heap.size w wr) (fun a _ _ => (intOf a).toNat)
  case atStart => exact ⟨16, K, ⟨#[]⟩, rfl, rfl, rfl, by omega, by omega, rfl, Below.refl _ _⟩
  case round =>
    obtain ⟨f, k, out, rfl, rfl, HM, hk, hf, ho, hbr⟩ := hrel
    by_cases h0 : k = 0
    · subst h0
      have HO : Hid (mt K = (⟨#[109]⟩ : ByteArray) ++ out) := by
        show mt K = _
        unfold mt
        rw [← HM.out, mtL_zero]
      have hs : ((⟨#[109]⟩ : ByteArray) ++ out).size = 1 + out.size := ByteArray.size_append
      go_wp2
      go_ret
      exact ⟨hbr, by rw [HO.out]; rfl⟩
    · obtain ⟨g, rfl⟩ : ∃ g, f = g + 1 := by
        cases f with
        | zero => simp at hk; omega
        | succ g => exact ⟨g, rfl⟩
      have hk' : k / 10 < 10 ^ g := by rw [Nat.pow_succ] at hk; omega
      obtain ⟨d, ed⟩ : ∃ d, k % 10 = d := ⟨_, rfl⟩
      have hd : d < 10 := by omega
      have HM2 : Hid (mtL g (k / 10) (digM d ++ out) = mtL 16 K ⟨#[]⟩) := by
        show mtL g (k / 10) (digM d ++ out) = _
        rw [← HM.out, ← ed]
        simp only [mtL, h0, if_false]
      have hu := dig_byteM d hd
      have hs : (digM d ++ out).size = 1 + out.size := ByteArray.size_append
      unfold digM at HM2 hs
      generalize UInt8.ofNat (48 + d) = u at *
      have e1 : (k : Int) % 10 = (d : Int) := by omega
      obtain ⟨k2, e2⟩ : ∃ k2, k / 10 = k2 := ⟨_, rfl⟩
      rw [e2] at HM2 hk'
      have e3 : (k : Int) / 10 = (k2 : Int) := by omega
      have hlt : k2 < k := by omega
      have hkI : (0 : Int) < (k : Int) := by omega
      have hcv := qconv_one (wr.alloc (.cells #[.int .u8 (48 + d)] 5)) wr.heap.size (48 + d) u hu (by simp [go_sem])
      have hkb : k < 10000000000000000 := Nat.lt_of_lt_of_le hk (Nat.pow_le_pow_right (by omega) hf)
      have HK' : Hid (k2 < 10 ^ g) := hk'
      clear hu ed e2 hk hk' h0
      go_wp2
      go_roundw
      case rel => exact ⟨g, k2, _, by go_num, rfl, HM2.out, HK'.out, by omega, by rw [hs]; omega, hbr.alloc hbr.size _⟩
      case measure => simp [intOf]; omega
end Go.Proofs.YtmeojnaoljgieaeGreatDoor
namespace Go.Proofs.YtmeojnaoljgieaeGreatDoor
open Go.RowKit
set_option linter.unusedVariables false
def KeepB (g : Nat) (w w' : World) : Prop := ∀ b, b < w.heap.size → b ≠ g → w'.heap[b]? = w.heap[b]?
theorem KeepB.set {g : Nat} {w w' : World} (h : KeepB g w w') (j : Nat) (v : Value) : KeepB g w (w'.setCell ⟨g, j, none⟩ v) := fun b hb hne => by
  rw [Below.heap_setCell w' ⟨g, j, none⟩ v b hne]; exact h b hb hne
theorem KeepB.below {g : Nat} {w w' w2 : World} (h : KeepB g w w') (hs : w.heap.size ≤ w'.heap.size) (hb : Below w'.heap.size w' w2) : KeepB g w w2 := fun b hl hne => by
  rw [hb.block b (by omega)]; exact h b hl hne
def MkI (K n : Nat) (ys : List Value) : Prop := ∀ i, i < n → ys[i * 3]? = some (.int .i64 ((K + 3 * i : Nat) : Int)) ∧ ys[i * 3 + 1]? = some (.string (mt (K + 3 * i + 1))) ∧ ys[i * 3 + 2]? = some (.int .i64 ((K + 3 * i + 2 : Nat) : Int))
theorem mkI_set {K k : Nat} {ys : List Value} (h : MkI K k ys) (hx : k * 3 + 2 < ys.length) :
    MkI K (k + 1) (((ys.set (k * 3) (.int .i64 ((K + 3 * k : Nat) : Int))).set (k * 3 + 1) (.string (mt (K + 3 * k + 1)))).set (k * 3 + 2) (.int .i64 ((K + 3 * k + 2 : Nat) : Int))) := by
  intro i hi
  rcases Nat.lt_or_ge i k with hl | hl
  · obtain ⟨h1, h2, h3⟩ := h i hl
    simp only [List.getElem?_set]
    rw [if_neg (by omega), if_neg (by omega), if_neg (by omega), if_neg (by omega), if_neg (by omega), if_neg (by omega), if_neg (by omega), if_neg (by omega), if_neg (by omega)]
    exact ⟨h1, h2, h3⟩
  · obtain rfl : i = k := by omega
    refine ⟨?_, ?_, ?_⟩ <;> simp [List.getElem?_set] <;> omega
set_option maxRecDepth 100000 in
set_option maxHeartbeats 2000000 in
theorem markInsS_any (B g n cap K : Nat) (xs : List Value) (w : World) (hown : w.ownsRow B 209 3 (.slice (some ⟨g, 0, none⟩) n cap) n xs) (hB : B ≤ w.heap.size) (hn : n ≤ 1048576) (h1 : 1 ≤ K) (h2 : K ≤ 900000000000000) :
    Calls Tryz.prog 138 #[.slice (some ⟨g, 0, none⟩) n cap, .int .i64 K] w fun e w' => e = .returned (.int .i64 ((K + 3 * n : Nat) : Int)) ∧ Below B w w' ∧ KeepB g w w' ∧ ∃ ys, w'.ownsRow B 209 3 (.slice (some ⟨g, 0, none⟩) n cap) n ys ∧ MkI K n ys := by
  have hBg : B ≤ g := (hown.lt g rfl).1
  go_enter Tryz.func138, Tryz.ntmps138
  go_wp2
  go_loopw [1, 5] (fun k i wr => ∃ (m : Nat) (ys : List Value), m ≤ n ∧ i = .int .i64 m ∧ k = .int .i64 ((K + 3 * m : Nat) : Int) ∧ Hid (wr.ownsRow B 209 3 (.slice (some ⟨g, 0, none⟩) n cap) n ys) ∧ Hid (MkI K m ys) ∧ Hid (KeepB g w wr) ∧ w.heap.size ≤ wr.heap.size ∧ Below B w wr) (fun _ i _ => n - (intOf i).toNat)
  case atStart => exact ⟨0, xs, Nat.zero_le _, rfl, rfl, hown, (fun i hi => by omega : MkI K 0 xs), (fun b _ _ => rfl : KeepB g w w), Nat.le_refl _, Below.refl _ _⟩
  case round =>
    obtain ⟨m, ys, hm, rfl, rfl, HO, HM, HK, hsz, hbr⟩ := hrel
    clear hown
    by_cases hlt : m < n
    · have hlx : m * 3 + 2 < ys.length := by rw [HO.out.1]; omega
      have HM2 : Hid (MkI K (m + 1) (((ys.set (m * 3) (.int .i64 ((K + 3 * m : Nat) : Int))).set (m * 3 + 1) (.string (mt (K + 3 * m + 1)))).set (m * 3 + 2) (.int .i64 ((K + 3 * m + 2 : Nat) : Int)))) := mkI_set HM.out hlx
      have hKb : K + 3 * m + 1 < 1000000000000000 := by omega
      have HT : Hid (∀ W : World, Calls Tryz.prog 95 #[.int .i64 ((K + 3 * m + 1 : Nat) : Int)] W fun e w' => Below W.heap.size W w' ∧ e = .returned (.string (mt (K + 3 * m + 1)))) := fun W => markText_any (K + 3 * m + 1) W (by omega) hKb
      generalize mt (K + 3 * m + 1) = t at *
      obtain ⟨c, ec⟩ : ∃ c, K + 3 * m = c := ⟨_, rfl⟩
      rw [ec] at HM2 HT hKb ⊢
      have HE : Hid (K + 3 * m = c) := ec
      clear ec
      obtain ⟨o1, d1⟩ := cell_of_length3 HO.out (j := m * 3) (by omega)
      have hfr := HO.out.frozenAt
      have hown1 := (HO.out.stored (m * 3) (.int .i64 (c : Int))).1
      have hmI : (m : Int) < (n : Int) := by omega
      go_wp2_with fail
      refine (HT.out _).mono ?_
      rintro e w2 ⟨hb2, rfl⟩
      have hown2 := ownsRow_below hown1 hb2
      have hbw : Below B w w2 := (hbr.setCell (p := ⟨g, m * 3, none⟩) hBg _).trans (hb2.mono (by simp; omega))
      have hfr2 := hown2.frozenAt
      obtain ⟨o2, d2⟩ := cell_of_length3 hown2 (j := m * 3 + 1) (by omega)
      obtain ⟨o3, d3⟩ := cell_of_length3 hown2 (j := m * 3 + 2) (by omega)
      have HO2 : Hid (w2.ownsRow B 209 3 (.slice (some ⟨g, 0, none⟩) n cap) n (ys.set (m * 3) (.int .i64 (c : Int)))) := hown2
      have HK2 : Hid (KeepB g w w2) := (HK.out.set (m * 3) (.int .i64 (c : Int))).below (by simpa using hsz) hb2
      have hs2 : w.heap.size ≤ w2.heap.size := by have := hb2.size; simp at this; omega
      clear hown1 hown2 hb2 hfr d1 hbr
      go_wp2
      go_roundw
      case rel => exact ⟨m + 1, _, by omega, by go_num, congrArg (Value.int .i64) (by have := HE.out; omega), ((HO2.out.stored _ _).1.stored _ _).1, HM2.out, (HK2.out.set _ _).set _ _, by simpa using hs2, (hbw.setCell (p := ⟨g, m * 3 + 1, none⟩) hBg _).setCell (p := ⟨g, m * 3 + 2, none⟩) hBg _⟩
      case measure => simp [intOf]; omega
    · have em : m = n := by omega
      subst em
      go_wp2
      go_ret
      exact ⟨rfl, hbr, HK.out, ys, HO.out, HM.out⟩
end Go.Proofs.YtmeojnaoljgieaeGreatDoor
namespace Go.Proofs.YtmeojnaoljgieaeGreatDoor
open Go.RowKit
set_option linter.unusedVariables false
end Go.Proofs.YtmeojnaoljgieaeGreatDoor
namespace Go.Proofs.YtmeojnaoljgieaeGreatDoor
open Go.RowKit
set_option linter.unusedVariables false
theorem cell_of_length1 {w : World} {B g n cap j T : Nat} {xs : List Value} (h : w.ownsRow B T 1 (.slice (some ⟨g, 0, none⟩) n cap) n xs) (hj : j < n) : ∃ v, w.cell? ⟨g, j, none⟩ = some v := by
  have hl := h.1
  exact ⟨xs[j]'(by omega), by rw [h.cellAt j (by omega)]; exact List.getElem?_eq_getElem _⟩
end Go.Proofs.YtmeojnaoljgieaeGreatDoor
namespace Go.Proofs.YtmeojnaoljgieaeGreatDoor
open Go.RowKit
set_option linter.unusedVariables false
def KeepO (ob : Option Nat) (w w' : World) : Prop := ∀ b, b < w.heap.size → some b ≠ ob → w'.heap[b]? = w.heap[b]?
theorem qown_set {w : World} {B e sz n g cap : Nat} {xs : List Value} (h : w.ownsRow B e sz (.slice (some ⟨g, 0, none⟩) n cap) n xs) {b j : Nat} (hb : b ≠ g) (v : Value) : (w.setCell ⟨b, j, none⟩ v).ownsRow B e sz (.slice (some ⟨g, 0, none⟩) n cap) n xs := by
  refine ⟨h.1, ?_⟩
  rcases h.2 with ⟨h2, _⟩ | ⟨g', cap, cur, hv, hg, hh, r⟩
  · cases h2
  · cases hv
    refine Or.inr ⟨g, cap, cur, rfl, hg, ?_, r⟩
    rw [Below.heap_setCell w ⟨b, j, none⟩ v g (fun e => hb e.symm)]; exact hh
theorem qown_base {w : World} {B B' e sz n : Nat} {v : Value} {xs : List Value} (h : w.ownsRow B e sz v n xs) (hB : B' ≤ B) : w.ownsRow B' e sz v n xs := by
  refine ⟨h.1, ?_⟩
  rcases h.2 with h | ⟨g, cap, cur, hv, hg, r⟩
  · exact Or.inl h
  · exact Or.inr ⟨g, cap, cur, hv, Nat.le_trans hB hg, r⟩
theorem qown_cases {w : World} {B e sz n : Nat} {v : Value} {xs : List Value} (h : w.ownsRow B e sz v n xs) : (v = .slice none 0 0 ∧ n = 0) ∨ ∃ g cap, v = .slice (some ⟨g, 0, none⟩) n cap := by
  rcases h.2 with h | ⟨g, cap, cur, hv, hg, r⟩
  · exact Or.inl h
  · exact Or.inr ⟨g, cap, hv⟩
set_option maxHeartbeats 400000 in
theorem toInsS_own (a : Option Addr) (cap : Nat) (is : List I3) (w : World) (hc : Row3 w a is) (hl : is.length ≤ 1048576) :
    Calls Tryz.prog 119 #[.slice a is.length cap] w fun e w' => Below w.heap.size w w' ∧ ∃ g : Nat, e = .returned (.slice (some ⟨g, 0, none⟩) is.length is.length) ∧ ∃ xs, w'.ownsRow w.heap.size 209 3 (.slice (some ⟨g, 0, none⟩) is.length is.length) is.length xs ∧ Filled3 is is.length xs := by
  obtain ⟨z0, hi, hz0, hz1, hz2⟩ := info_parts Tryz.info209
  go_enter Tryz.func119, Tryz.ntmps119
  go_wp2_with (first | (at_make; refine wpList_make_full _ rfl (.tmp 6) (.tmp 6) 58 rfl w.heap.size 209 z0 (.agg #[.int .i64 0, .string ByteArray.empty, .int .i64 0]) 3 Tryz.underlying58 hi hz0 hz1 .i64 .i64 _ _ is.length rfl rfl rfl rfl (by rw [hz2]; omega) (by unfold maxLen; omega) (Nat.le_refl _) ?_; intro w1 hown hgrow))
  have hbel1 : Below w.heap.size w w1 := (Below.refl _ _).grown hgrow (Nat.le_refl _) (by simp)
  clear hgrow
  go_loopw [4] (fun i wr => ∃ k : Nat, ∃ xs : List Value, k ≤ is.length ∧ i = .int .i64 k ∧ wr.ownsRow w.heap.size 209 3 (.slice (some ⟨w.heap.size, 0, none⟩) is.length is.length) is.length xs ∧ Filled3 is k xs ∧ Below w.heap.size w wr) (fun i _ => is.length - (intOf i).toNat)
  case atStart => exact ⟨0, _, Nat.zero_le _, rfl, hown, fun i hi => by omega, hbel1⟩
  case round =>
    obtain ⟨k, xs, hk, rfl, hown, hfi, hbel⟩ := hrel
    by_cases hlt : k < is.length
    · obtain ⟨b, off, rfl, c1, c2, c3⟩ := (hc.below hbel) k hlt
      have hf2 := filled3_set hfi (show k * 3 + 2 < xs.length by rw [hown.1]; omega)
      generalize ix is k = i at *
      clear hbel1 hc hfi
      go_wp2_with fail
      refine (toIns_any i _).mono ?_
      rintro e w2 ⟨hb2, rfl⟩
      have hown2 := ownsRow_below hown hb2
      have hbw : Below w.heap.size w w2 := hbel.trans (hb2.mono hbel.size)
      have hfr := hown2.frozenAt
      obtain ⟨o1, d1⟩ := cell_of_length hown2 (j := k * 3) (by omega)
      obtain ⟨o2, d2⟩ := cell_of_length hown2 (j := k * 3 + 1) (by omega)
      obtain ⟨o3, d3⟩ := cell_of_length hown2 (j := k * 3 + 2) (by omega)
      have HO : Hid (w2.ownsRow w.heap.size 209 3 (.slice (some ⟨w.heap.size, 0, none⟩) is.length is.length) is.length xs) := hown2
      clear hown hown2 hb2 hbel
      go_wp2
      go_roundw
      case rel => exact ⟨k + 1, _, by omega, by go_num, (((HO.out.stored _ _).1.stored _ _).1.stored _ _).1, hf2, ((hbw.setCell (Nat.le_refl _) _).setCell (Nat.le_refl _) _).setCell (Nat.le_refl _) _⟩
      case measure => simp [intOf]; omega
    · have ek : k = is.length := by omega
      subst ek
      go_wp2
      go_ret
      exact ⟨hbel, _, rfl, _, hown, hfi⟩
set_option maxHeartbeats 400000 in
theorem toProgram_own (a : Option Addr) (cap : Nat) (is : List I3) (w : World) (hc : Row3 w a is) (hl : is.length ≤ 1048576) :
    Calls Tryz.prog 62 #[.agg #[.slice a is.length cap]] w fun e w' => Below w.heap.size w w' ∧ ∃ g : Nat, e = .returned (.agg #[.slice (some ⟨g, 0, none⟩) is.length is.length]) ∧ ∃ xs, w'.ownsRow w.heap.size 209 3 (.slice (some ⟨g, 0, none⟩) is.length is.length) is.length xs ∧ Filled3 is is.length xs := by
  go_enter Tryz.func62, Tryz.ntmps62
  go_wp2_with fail
  have hb0 : Below w.heap.size w (((w.alloc (.cells #[.slice a is.length cap] 47)).alloc (.cells #[.slice none 0 0] 60)).alloc (.cells #[.slice none 0 0] 60)) := (((Below.refl _ _).alloc (Nat.le_refl _) _).alloc (by simp) _).alloc (by simp; omega) _
  refine (toInsS_own a cap is _ (hc.below hb0) hl).mono ?_
  rintro e w1 ⟨hb1, g, rfl, xs, hr, hf⟩
  have hg := (hr.lt g rfl).1
  simp at hg
  have hb : Below w.heap.size w w1 := hb0.trans (hb1.mono hb0.size)
  have hz := hb1.size
  simp at hz
  have c1 : w1.cell? ⟨w.heap.size + 1, 0, none⟩ = some (.slice none 0 0) := cell_below hb1 (by simp [go_sem])
  have c2 : w1.cell? ⟨w.heap.size + 1 + 1, 0, none⟩ = some (.slice none 0 0) := cell_below hb1 (by simp [go_sem])
  have f1 : w1.frozen? ⟨w.heap.size + 1, 0, none⟩ = false := by rw [hb1.frozen (p := ⟨w.heap.size + 1, 0, none⟩) (by simp)]; simp [go_sem]
  have f2 : w1.frozen? ⟨w.heap.size + 1 + 1, 0, none⟩ = false := by rw [hb1.frozen (p := ⟨w.heap.size + 1 + 1, 0, none⟩) (by simp)]; simp [go_sem]
  clear hb0 hb1
  go_wp2
  exact bodyPost_ret (v := .agg #[.slice (some ⟨g, 0, none⟩) is.length is.length]) (by simp [results, Tryz.results62, go_sem, c1]) rfl ⟨setCell_below (setCell_below hb (by omega) _) (by omega) _, g, rfl, xs, qown_set (qown_set (qown_base hr (by simp; omega)) (by omega) _) (by omega) _, hf⟩
set_option maxHeartbeats 400000 in
theorem markInsS_nil (K : Nat) (w : World) (h2 : K ≤ 900000000000000) :
    Calls Tryz.prog 138 #[.slice none 0 0, .int .i64 K] w fun e w' => e = .returned (.int .i64 (K : Int)) ∧ w = w' := by
  go_enter Tryz.func138, Tryz.ntmps138
  go_wp2
  go_loopw [1, 5] (fun k i wr => i = .int .i64 0 ∧ k = .int .i64 (K : Int) ∧ w = wr) (fun _ i _ => 0)
  case atStart => exact ⟨rfl, rfl, rfl⟩
  case round =>
    obtain ⟨rfl, rfl, rfl⟩ := hrel
    go_wp2
    go_ret
    exact ⟨rfl, rfl⟩
theorem markInsS_own (B n K : Nat) (v : Value) (xs : List Value) (w : World) (hown : w.ownsRow B 209 3 v n xs) (hB : B ≤ w.heap.size) (hn : n ≤ 1048576) (h1 : 1 ≤ K) (h2 : K ≤ 900000000000000) :
    Calls Tryz.prog 138 #[v, .int .i64 K] w fun e w' => e = .returned (.int .i64 ((K + 3 * n : Nat) : Int)) ∧ Below B w w' ∧ KeepO v.ownBlock w w' ∧ ∃ ys, w'.ownsRow B 209 3 v n ys ∧ MkI K n ys := by
  rcases qown_cases hown with ⟨rfl, rfl⟩ | ⟨g, cap, rfl⟩
  · refine (markInsS_nil K w h2).mono ?_
    rintro e w' ⟨rfl, rfl⟩
    exact ⟨rfl, Below.refl _ _, fun _ _ _ => rfl, xs, hown, fun i hi => by omega⟩
  · refine (markInsS_any B g n cap K xs w hown hB hn h1 h2).mono ?_
    rintro e w' ⟨he, hb, hk, ys, ho, hm⟩
    exact ⟨he, hb, fun b hl hne => hk b hl (fun e => hne (by subst e; rfl)), ys, ho, hm⟩
set_option maxHeartbeats 400000 in
theorem markStringS_nil (K : Nat) (w : World) (h2 : K ≤ 900000000000000) :
    Calls Tryz.prog 79 #[.slice none 0 0, .int .i64 K] w fun e w' => e = .returned (.int .i64 (K : Int)) ∧ w = w' := by
  go_enter Tryz.func79, Tryz.ntmps79
  go_wp2
  go_loopw [1, 5] (fun k i wr => i = .int .i64 0 ∧ k = .int .i64 (K : Int) ∧ w = wr) (fun _ i _ => 0)
  case atStart => exact ⟨rfl, rfl, rfl⟩
  case round =>
    obtain ⟨rfl, rfl, rfl⟩ := hrel
    go_wp2
    go_ret
    exact ⟨rfl, rfl⟩
end Go.Proofs.YtmeojnaoljgieaeGreatDoor
