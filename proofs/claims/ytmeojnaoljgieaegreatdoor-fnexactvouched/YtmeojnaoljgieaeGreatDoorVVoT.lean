import Derived.Test.YtmeojnaoljgieaeGreatDoorVStLaw
import Derived.BigQuiet
import Derived.Test.YtmeojnaoljgieaeGreatDoorProg
import Derived.WalkKit
import Derived.ProofKit
import Derived.OpenShut
import Derived.Below
import Derived.Test.YtmeojnaoljgieaeGreatDoorVVoA
import Derived.Deep.DeepCutAuto
namespace Go.Proofs.YtmeojnaoljgieaeGreatDoor
open Go.RowKit
set_option linter.unusedVariables false
set_option maxHeartbeats 8000000
set_option maxRecDepth 100000
theorem l4Place_any (n : Nat) (ta ra : Option Addr) (tc rn rc : Nat) (ts : List ByteArray) (t : ByteArray) (w : World) (h1 : 1 <= n) (h8 : n <= 8) (hc : Strs w ta ts) (hl : ts.length <= 1048576) (hs : ∀ i, i < ts.length -> (nx ts i).size <= 2002) :
    Calls Tryz.prog 172 #[.agg #[.int .i64 n, .slice ta ts.length tc, .slice ra rn rc], .string t] w fun e w' => Below w.heap.size w w' /\ ∃ k : Nat, e = .returned (.int .i64 k) /\ k <= ts.length /\ (∀ j, j < k -> lessB (sumB n (nx ts j)) t = true) /\ (k < ts.length -> lessB (sumB n (nx ts k)) t = false) := by
  have hb0 : Below w.heap.size w (w.alloc (.cells #[.int .i64 n, .slice ta ts.length tc, .slice ra rn rc] 56)) := (Below.refl _ _).alloc (Nat.le_refl _) _
  have x0 : (w.alloc (.cells #[.int .i64 n, .slice ta ts.length tc, .slice ra rn rc] 56)).cell? ⟨w.heap.size, 0, none⟩ = some (.int .i64 n) := by simp [go_sem]
  have x1 : (w.alloc (.cells #[.int .i64 n, .slice ta ts.length tc, .slice ra rn rc] 56)).cell? ⟨w.heap.size, 1, none⟩ = some (.slice ta ts.length tc) := by simp [go_sem]
  have HC : Hid (Strs w ta ts) := hc
  have HS : Hid (∀ i, i < ts.length -> (nx ts i).size <= 2002) := hs
  clear hc hs
  go_enter Tryz.func172, Tryz.ntmps172
  go_wp2_with fail
  go_loopw [5] (fun v wr => ∃ k : Nat, k <= ts.length /\ v = .int .i64 k /\ Hid (∀ j, j < k -> lessB (sumB n (nx ts j)) t = true) /\ wr.cell? ⟨w.heap.size, 0, none⟩ = some (.int .i64 n) /\ wr.cell? ⟨w.heap.size, 1, none⟩ = some (.slice ta ts.length tc) /\ Below w.heap.size w wr) (fun v _ => ts.length - (intOf v).toNat)
  case atStart => exact ⟨0, Nat.zero_le _, rfl, (fun j hj => by omega : ∀ j, j < 0 -> lessB (sumB n (nx ts j)) t = true), x0, x1, hb0⟩
  case round =>
    obtain ⟨k, hk, rfl, HK, y0, y1, hbr⟩ := hrel
    clear x0 x1 hb0
    have hbA : Below wr.heap.size wr wr.drew := (Below.refl _ _).drew
    by_cases hlt : k < ts.length
    · obtain ⟨b, off, rfl, c1⟩ := (HC.out.below hbr) k hlt
      replace c1 : wr.cell? ⟨b, off + k, none⟩ = some (.string (nx ts k)) := c1
      have hsk := HS.out k hlt
      have hkI : (k : Int) < (ts.length : Int) := by omega
      have hk0 : (0 : Int) <= (k : Int) := by omega
      have e1 : decide ((k : Int) < (ts.length : Int)) = true := by simp; omega
      obtain ⟨v, hv⟩ : ∃ v, lessB (sumB n (nx ts k)) t = v := ⟨_, rfl⟩
      have HV : Hid (lessB (sumB n (nx ts k)) t = v) := hv
      have HK1 : Hid (lessB (sumB n (nx ts k)) t = true -> ∀ j, j < k + 1 -> lessB (sumB n (nx ts j)) t = true) := fun h => ext_succ HK.out h
      generalize nx ts k = x at c1 hsk hv
      have hx0 : x.size <= 1048576 := by omega
      obtain ⟨q, eq⟩ : ∃ q, sumB n x = q := ⟨_, rfl⟩
      rw [eq] at hv
      have HSUM : Hid (∀ W : World, Calls Tryz.prog 113 #[.string x, .int .i64 n] W fun e w' => e = .returned (.string q) /\ Below W.heap.size W w') := fun W => by rw [<- eq]; exact specSum_yes x n W hx0 h1 h8
      clear eq
      unfold lessB at hv
      cases v
      · have HO : Hid (k < ts.length -> lessB (sumB n (nx ts k)) t = false) := fun _ => HV.out
        go_wp2_with fail
        go_region_held3 (fun w' => (w'.cell? ⟨w.heap.size, 0, none⟩ = some (.int .i64 n) /\ w'.cell? ⟨w.heap.size, 1, none⟩ = some (.slice (some ⟨b, off, none⟩) ts.length tc)) /\ w'.cell? ⟨b, off + k, none⟩ = some (.string x))
          (first | assumption | (simp [*]; done) | exact ⟨⟨cell_below hb2 (by simp [*]), cell_below hb2 (by simp [*])⟩, cell_below hb2 (by simp [*])⟩)
          (first | (go_at_call 113; refine (HSUM.out _).mono ?_; rintro e w2 ⟨rfl, hb2⟩))
        all_goals
          go_wp2_with fail
          go_ret
          exact ⟨bt hbr (bt hbA hb2), k, rfl, hk, HK.out, HO.out⟩
      · have HO : Hid (∀ j, j < k + 1 -> lessB (sumB n (nx ts j)) t = true) := HK1.out HV.out
        go_wp2_with fail
        go_region_held3 (fun w' => (w'.cell? ⟨w.heap.size, 0, none⟩ = some (.int .i64 n) /\ w'.cell? ⟨w.heap.size, 1, none⟩ = some (.slice (some ⟨b, off, none⟩) ts.length tc)) /\ w'.cell? ⟨b, off + k, none⟩ = some (.string x))
          (first | assumption | (simp [*]; done) | exact ⟨⟨cell_below hb2 (by simp [*]), cell_below hb2 (by simp [*])⟩, cell_below hb2 (by simp [*])⟩)
          (first | (go_at_call 113; refine (HSUM.out _).mono ?_; rintro e w2 ⟨rfl, hb2⟩))
        all_goals
          have z0 := cell_below hb2 (cell_below hbA y0)
          have z1 := cell_below hb2 (cell_below hbA y1)
          go_wp2_with fail
          go_roundw
          case rel => exact ⟨k + 1, by omega, by go_num, HO.out, z0, z1, bt hbr (bt hbA hb2)⟩
          case measure => simp [intOf]; omega
    · have e1 : decide (k < ts.length) = false := by simp; omega
      have HN : Hid (¬ k < ts.length) := hlt
      clear hlt
      go_wp2_with fail
      go_quiet (fail)
      go_wp2
      go_ret
      exact ⟨below_drewN hbr _, k, rfl, hk, HK.out, fun h => absurd h HN.out⟩
theorem place_has {n : Nat} {ts : List ByteArray} {t : ByteArray} {k : Nat} (ha : Asc (ts.map (sumB n))) (h1 : ∀ j, j < k -> lessB (sumB n (nx ts j)) t = true) (h2 : k < ts.length -> lessB (sumB n (nx ts k)) t = false) (hk : k <= ts.length) (hh : Has (ts.map (sumB n)) t) : k < ts.length /\ sumB n (nx ts k) = t := by
  have hs : ∀ i, i < ts.length -> nx (ts.map (sumB n)) i = sumB n (nx ts i) := fun i h => nx_sums n ts i h
  have hl : (ts.map (sumB n)).length = ts.length := List.length_map _
  have := has_at (i := k) ha (fun j hj => by rw [hs j (by omega)]; exact h1 j hj) (fun j hj hjl => by
    have hk' : k < ts.length := by omega
    exact hi_step ha (m := k) (by rw [hs k hk']; exact h2 hk') j hj hjl) hh
  exact ⟨by omega, by rw [<- hs k (by omega)]; exact this.2⟩
theorem l4Get_any (n : Nat) (ta ra : Option Addr) (tc rn rc : Nat) (ts : List ByteArray) (t : ByteArray) (w : World) (h1 : 1 <= n) (h8 : n <= 8) (hc : Strs w ta ts) (hl : ts.length <= 1048576) (hs : ∀ i, i < ts.length -> (nx ts i).size <= 2002) (hasc : Asc (ts.map (sumB n))) :
    Calls Tryz.prog 116 #[.agg #[.int .i64 n, .slice ta ts.length tc, .slice ra rn rc], .string t] w fun e w' => Below w.heap.size w w' /\ ∃ A ok, e = .returned (.tuple #[.string A, .bool ok]) /\ GetOut n ts t A ok := by
  have hb0 : Below w.heap.size w (w.alloc (.cells #[.int .i64 n, .slice ta ts.length tc, .slice ra rn rc] 56)) := (Below.refl _ _).alloc (Nat.le_refl _) _
  have x0 : (w.alloc (.cells #[.int .i64 n, .slice ta ts.length tc, .slice ra rn rc] 56)).cell? ⟨w.heap.size, 0, none⟩ = some (.int .i64 n) := by simp [go_sem]
  have x1 : (w.alloc (.cells #[.int .i64 n, .slice ta ts.length tc, .slice ra rn rc] 56)).cell? ⟨w.heap.size, 1, none⟩ = some (.slice ta ts.length tc) := by simp [go_sem]
  have HC : Hid (Strs w ta ts) := hc
  have HS : Hid (∀ i, i < ts.length -> (nx ts i).size <= 2002) := hs
  have HA : Hid (Asc (ts.map (sumB n))) := hasc
  clear hc hs hasc
  go_enter Tryz.func116, Tryz.ntmps116
  go_wp2_with fail
  refine (l4Place_any n ta ra tc rn rc ts t _ h1 h8 (HC.out.below hb0) hl HS.out).mono ?_
  rintro e wr ⟨hb1, k, rfl, hk, p1, p2⟩
  have hbr := bt hb0 hb1
  have y0 := cell_below hb1 x0
  have y1 := cell_below hb1 x1
  have HP1 : Hid (∀ j, j < k -> lessB (sumB n (nx ts j)) t = true) := p1
  have HP2 : Hid (k < ts.length -> lessB (sumB n (nx ts k)) t = false) := p2
  clear x0 x1 hb0 hb1 p1 p2
  have hbA : Below wr.heap.size wr wr.drew := (Below.refl _ _).drew
  by_cases hlt : k < ts.length
  · obtain ⟨b, off, rfl, c1⟩ := (HC.out.below hbr) k hlt
    replace c1 : wr.cell? ⟨b, off + k, none⟩ = some (.string (nx ts k)) := c1
    have hsk := HS.out k hlt
    have hkI : (k : Int) < (ts.length : Int) := by omega
    have hk0 : (0 : Int) <= (k : Int) := by omega
    have e1 : decide ((k : Int) < (ts.length : Int)) = true := by simp; omega
    have HYES : Hid (sumB n (nx ts k) = t -> GetOut n ts t (nx ts k) true) := fun h => Or.inl ⟨rfl, k, hlt, h, rfl⟩
    have HNO : Hid (¬ sumB n (nx ts k) = t -> GetOut n ts t ⟨#[]⟩ false) := fun h => Or.inr ⟨rfl, rfl, fun hh => h (place_has HA.out HP1.out HP2.out hk hh).2⟩
    generalize nx ts k = x at *
    have hx0 : x.size <= 1048576 := by omega
    obtain ⟨q, eq⟩ : ∃ q, sumB n x = q := ⟨_, rfl⟩
    rw [eq] at HYES HNO
    have HSUM : Hid (∀ W : World, Calls Tryz.prog 113 #[.string x, .int .i64 n] W fun e w' => e = .returned (.string q) /\ Below W.heap.size W w') := fun W => by rw [<- eq]; exact specSum_yes x n W hx0 h1 h8
    clear eq HP1 HP2
    by_cases hq : q = t
    · have dq := str_eq hq
      have HO : Hid (GetOut n ts t x true) := HYES.out hq
      clear hq HYES HNO
      go_wp2_with fail
      go_region_held3 (fun w' => (w'.cell? ⟨w.heap.size, 0, none⟩ = some (.int .i64 n) /\ w'.cell? ⟨w.heap.size, 1, none⟩ = some (.slice (some ⟨b, off, none⟩) ts.length tc)) /\ w'.cell? ⟨b, off + k, none⟩ = some (.string x))
        (first | assumption | (simp [*]; done) | exact ⟨⟨cell_below hb2 (by simp [*]), cell_below hb2 (by simp [*])⟩, cell_below hb2 (by simp [*])⟩)
        (first | (go_at_call 113; refine (HSUM.out _).mono ?_; rintro e w2 ⟨rfl, hb2⟩))
      all_goals
        have z1 := cell_below hb2 (cell_below hbA y1)
        have d1 := cell_below hb2 (cell_below hbA c1)
        go_wp2_with fail
        go_ret2
        exact ⟨bt hbr (bt hbA hb2), x, true, rfl, HO.out⟩
    · have dq := str_ne hq
      have HO : Hid (GetOut n ts t ⟨#[]⟩ false) := HNO.out hq
      clear hq HYES HNO
      go_wp2_with fail
      go_region_held3 (fun w' => (w'.cell? ⟨w.heap.size, 0, none⟩ = some (.int .i64 n) /\ w'.cell? ⟨w.heap.size, 1, none⟩ = some (.slice (some ⟨b, off, none⟩) ts.length tc)) /\ w'.cell? ⟨b, off + k, none⟩ = some (.string x))
        (first | assumption | (simp [*]; done) | exact ⟨⟨cell_below hb2 (by simp [*]), cell_below hb2 (by simp [*])⟩, cell_below hb2 (by simp [*])⟩)
        (first | (go_at_call 113; refine (HSUM.out _).mono ?_; rintro e w2 ⟨rfl, hb2⟩))
      all_goals
        go_wp2_with fail
        go_ret2
        exact ⟨bt hbr (bt hbA hb2), ⟨#[]⟩, false, rfl, HO.out⟩
  · have e1 : decide (k < ts.length) = false := by simp; omega
    have HO : Hid (GetOut n ts t ⟨#[]⟩ false) := Or.inr ⟨rfl, rfl, fun hh => hlt (place_has HA.out HP1.out HP2.out hk hh).1⟩
    clear hlt
    go_wp2_with fail
    go_quiet (fail)
    go_wp2
    go_ret2
    exact ⟨below_drewN hbr _, ⟨#[]⟩, false, rfl, HO.out⟩
/-- Whether a text is the form of a result. -/
def rrB (s : ByteArray) : Prop := ∃ h : 2 <= s.size, s.size <= 2002 /\ 48 <= (s[0].toNat : Int) /\ (s[0].toNat : Int) <= 53 /\ (s[1].toNat : Int) = 58
/-- A Result without a chain; with a bool. -/
def resA (c : Int) (t : ByteArray) : Value := .agg #[.int .i64 c, .string t, .slice none 0 0]
def resV (c : Int) (t : ByteArray) (b : Bool) : Value := .tuple #[resA c t, .bool b]
theorem parts_no {s : ByteArray} (h : ¬ rrB s) : s.size < 2 \/ ∃ h : 2 <= s.size, 2002 < s.size \/ (s[0].toNat : Int) < 48 \/ 53 < (s[0].toNat : Int) \/ (s[1].toNat : Int) ≠ 58 := by
  by_cases h1 : s.size < 2
  · exact .inl h1
  · refine .inr ⟨by omega, ?_⟩
    have h2 : 2 <= s.size := by omega
    have : ¬ (s.size <= 2002 /\ 48 <= (s[0].toNat : Int) /\ (s[0].toNat : Int) <= 53 /\ (s[1].toNat : Int) = 58) := fun k => h ⟨h2, k⟩
    omega
theorem specRead_no (s : ByteArray) (w : World) (hs : s.size <= 1048576) (h : ¬ rrB s) :
    Calls Tryz.prog 173 #[.string s] w fun e w' => e = .returned (resV 0 ⟨#[]⟩ false) /\ Below w.heap.size w w' := by
  rcases parts_no h with h | ⟨h, k⟩
  · go_enter Tryz.func173, Tryz.ntmps173
    go_wp2
    exact bodyPost_ret (v := resV 0 ⟨#[]⟩ false) (by simp [results, Tryz.results173, go_sem, resV, resA]) rfl ⟨rfl, (Below.refl _ _).alloc (Nat.le_refl _) _⟩
  · have hcase : (s[1].toNat : Int) = 58 \/ ((s[1].toNat : Int) != 58) = true := by by_cases e : (s[1].toNat : Int) = 58; exact .inl e; exact .inr (by simpa using e)
    rcases hcase with hcase | hcase
    all_goals
      go_enter Tryz.func173, Tryz.ntmps173
      go_wp2
    all_goals first
      | exact bodyPost_ret (v := resV 0 ⟨#[]⟩ false) (by simp [results, Tryz.results173, go_sem, resV, resA]) rfl ⟨rfl, (Below.refl _ _).alloc (Nat.le_refl _) _⟩
      | (exfalso; omega)
theorem specRead_yes (s : ByteArray) (w : World) (h : rrB s) (h0 : 0 < s.size) :
    Calls Tryz.prog 173 #[.string s] w fun e w' => e = .returned (resV ((s[0].toNat : Int) - 48) (s.extract 2 s.size) true) /\ Below w.heap.size w w' := by
  obtain ⟨h, h2, h3, h4, h5⟩ := h
  go_enter Tryz.func173, Tryz.ntmps173
  go_wp2
  go_region
  go_wp2
  exact bodyPost_ret (v := resV ((s[0].toNat : Int) - 48) (s.extract 2 s.size) true) (by simp [results, Tryz.results173, go_sem, resV, resA]) rfl ⟨rfl, ((Below.refl _ _).alloc (Nat.le_refl _) _).drew⟩
theorem implRead_no (s : ByteArray) (w : World) (hs : s.size <= 1048576) (h : ¬ rrB s) :
    Calls Tryz.prog 181 #[.string s] w fun e w' => e = .returned (resV 0 ⟨#[]⟩ false) /\ Below w.heap.size w w' := by
  rcases parts_no h with h | ⟨h, k⟩
  · go_enter Tryz.func181, Tryz.ntmps181
    go_wp2
    exact bodyPost_ret (v := resV 0 ⟨#[]⟩ false) (by simp [results, Tryz.results181, go_sem, resV, resA]) rfl ⟨rfl, (Below.refl _ _).alloc (Nat.le_refl _) _⟩
  · have hcase : (s[1].toNat : Int) = 58 \/ ((s[1].toNat : Int) != 58) = true := by by_cases e : (s[1].toNat : Int) = 58; exact .inl e; exact .inr (by simpa using e)
    rcases hcase with hcase | hcase
    all_goals
      go_enter Tryz.func181, Tryz.ntmps181
      go_wp2
    all_goals first
      | exact bodyPost_ret (v := resV 0 ⟨#[]⟩ false) (by simp [results, Tryz.results181, go_sem, resV, resA]) rfl ⟨rfl, (Below.refl _ _).alloc (Nat.le_refl _) _⟩
      | (exfalso; omega)
theorem implRead_yes (s : ByteArray) (w : World) (h : rrB s) (h0 : 0 < s.size) :
    Calls Tryz.prog 181 #[.string s] w fun e w' => e = .returned (resV ((s[0].toNat : Int) - 48) (s.extract 2 s.size) true) /\ Below w.heap.size w w' := by
  obtain ⟨h, h2, h3, h4, h5⟩ := h
  go_enter Tryz.func181, Tryz.ntmps181
  go_wp2
  go_region
  go_wp2
  exact bodyPost_ret (v := resV ((s[0].toNat : Int) - 48) (s.extract 2 s.size) true) (by simp [results, Tryz.results181, go_sem, resV, resA]) rfl ⟨rfl, ((Below.refl _ _).alloc (Nat.le_refl _) _).drew⟩
def Got (n : Nat) (ts : List ByteArray) (t : ByteArray) : Prop := ∃ i, i < ts.length /\ sumB n (nx ts i) = t
open Classical in
noncomputable def getA (n : Nat) (ts : List ByteArray) (t : ByteArray) : ByteArray := if h : Got n ts t then nx ts h.choose else ⟨#[]⟩
theorem getA_of {n : Nat} {ts : List ByteArray} {t A : ByteArray} {ok : Bool} (ha : Asc (ts.map (sumB n))) (h : GetOut n ts t A ok) : A = getA n ts t /\ (ok = true ↔ Got n ts t) := by
  by_cases hg : Got n ts t
  · have k : GetOut n ts t (getA n ts t) true := Or.inl ⟨rfl, hg.choose, hg.choose_spec.1, hg.choose_spec.2, by unfold getA; rw [dif_pos hg]⟩
    obtain ⟨e1, e2⟩ := GetOut.unique ha k h
    exact ⟨e1, by rw [e2]; simp [hg]⟩
  · have k : GetOut n ts t (getA n ts t) false := Or.inr ⟨rfl, by unfold getA; rw [dif_neg hg], fun ⟨i, hi, e⟩ => hg ⟨i, by rw [List.length_map] at hi; exact hi, by rw [<- nx_sums n ts i (by rw [List.length_map] at hi; exact hi)]; exact e⟩⟩
    obtain ⟨e1, e2⟩ := GetOut.unique ha k h
    exact ⟨e1, by rw [e2]; simp [hg]⟩
theorem getA_none {n : Nat} {ts : List ByteArray} {t : ByteArray} (h : ¬ Got n ts t) : getA n ts t = ⟨#[]⟩ := by unfold getA; rw [dif_neg h]
theorem getA_size {n : Nat} {ts : List ByteArray} {t : ByteArray} (hs : ∀ i, i < ts.length -> (nx ts i).size <= 2002) : (getA n ts t).size <= 2002 := by
  unfold getA
  split
  · rename_i h; exact hs _ h.choose_spec.1
  · decide
/-- The code and the text of a result's form. -/
def rdC (A : ByteArray) : Int := if h : 0 < A.size then (A[0].toNat : Int) - 48 else 0
def rdT (A : ByteArray) : ByteArray := A.extract 2 A.size
theorem rdC_eq {A : ByteArray} (h : 0 < A.size) : (A[0].toNat : Int) - 48 = rdC A := by unfold rdC; rw [dif_pos h]
theorem rr_empty : ¬ rrB (⟨#[]⟩ : ByteArray) := fun ⟨h, _⟩ => absurd h (by decide)
theorem rr_pos {A : ByteArray} (h : rrB A) : 0 < A.size := by obtain ⟨h, _⟩ := h; omega
theorem rr_code {A : ByteArray} (h : rrB A) : 0 <= rdC A /\ rdC A <= 5 := by
  rw [<- rdC_eq (rr_pos h)]
  obtain ⟨h1, h2, h3, h4, h5⟩ := h
  omega
theorem rr_text {A : ByteArray} (h : rrB A) : (rdT A).size <= 2000 := by
  obtain ⟨h1, h2, h3, h4, h5⟩ := h
  unfold rdT
  rw [ByteArray.size_extract]
  omega
open Classical in
noncomputable def tellP (n : Nat) (ts : List ByteArray) (g : G3) : Option R3 :=
  if g.ask = false then (if g.sum = sumB n ⟨#[49]⟩ then some ⟨true, 0, ⟨#[]⟩⟩ else if g.sum = sumB n ⟨#[48]⟩ then some ⟨false, 0, ⟨#[]⟩⟩ else none)
  else if rrB (getA n ts g.sum) then (if rdC (getA n ts g.sum) = 4 /\ rdT (getA n ts g.sum) = g.name then some ⟨false, 0, ⟨#[]⟩⟩ else some ⟨true, rdC (getA n ts g.sum), rdT (getA n ts g.sum)⟩)
  else none
theorem tell_has1 {n : Nat} {ts : List ByteArray} {g : G3} (ha : g.ask = false) (h : g.sum = sumB n ⟨#[49]⟩) : tellP n ts g = some ⟨true, 0, ⟨#[]⟩⟩ := by unfold tellP; rw [if_pos ha, if_pos h]
theorem tell_has0 {n : Nat} {ts : List ByteArray} {g : G3} (ha : g.ask = false) (h : ¬ g.sum = sumB n ⟨#[49]⟩) (h' : g.sum = sumB n ⟨#[48]⟩) : tellP n ts g = some ⟨false, 0, ⟨#[]⟩⟩ := by unfold tellP; rw [if_pos ha, if_neg h, if_pos h']
theorem tell_hasN {n : Nat} {ts : List ByteArray} {g : G3} (ha : g.ask = false) (h : ¬ g.sum = sumB n ⟨#[49]⟩) (h' : ¬ g.sum = sumB n ⟨#[48]⟩) : tellP n ts g = none := by unfold tellP; rw [if_pos ha, if_neg h, if_neg h']
theorem tell_no {n : Nat} {ts : List ByteArray} {g : G3} (ha : g.ask = true) (h : ¬ rrB (getA n ts g.sum)) : tellP n ts g = none := by unfold tellP; rw [if_neg (by rw [ha]; decide), if_neg h]
theorem tell_missing {n : Nat} {ts : List ByteArray} {g : G3} (ha : g.ask = true) (h : rrB (getA n ts g.sum)) (h' : rdC (getA n ts g.sum) = 4 /\ rdT (getA n ts g.sum) = g.name) : tellP n ts g = some ⟨false, 0, ⟨#[]⟩⟩ := by unfold tellP; rw [if_neg (by rw [ha]; decide), if_pos h, if_pos h']
theorem tell_yes {n : Nat} {ts : List ByteArray} {g : G3} (ha : g.ask = true) (h : rrB (getA n ts g.sum)) (h' : ¬ (rdC (getA n ts g.sum) = 4 /\ rdT (getA n ts g.sum) = g.name)) : tellP n ts g = some ⟨true, rdC (getA n ts g.sum), rdT (getA n ts g.sum)⟩ := by unfold tellP; rw [if_neg (by rw [ha]; decide), if_pos h, if_neg h']
theorem tell_ok {n : Nat} {ts : List ByteArray} {g : G3} {y : R3} (h : tellP n ts g = some y) : repOk y = true := by
  have hz : repOk ⟨true, 0, ⟨#[]⟩⟩ = true := by decide
  have hz' : repOk ⟨false, 0, ⟨#[]⟩⟩ = true := by decide
  cases ha : g.ask
  · by_cases h1 : g.sum = sumB n ⟨#[49]⟩
    · rw [tell_has1 ha h1] at h; cases h; exact hz
    · by_cases h2 : g.sum = sumB n ⟨#[48]⟩
      · rw [tell_has0 ha h1 h2] at h; cases h; exact hz'
      · rw [tell_hasN ha h1 h2] at h; cases h
  · by_cases h1 : rrB (getA n ts g.sum)
    · by_cases h2 : rdC (getA n ts g.sum) = 4 /\ rdT (getA n ts g.sum) = g.name
      · rw [tell_missing ha h1 h2] at h; cases h; exact hz'
      · rw [tell_yes ha h1 h2] at h; cases h
        have k1 := rr_code h1
        have k2 := rr_text h1
        simp only [repOk, Bool.and_eq_true, decide_eq_true_eq]
        omega
    · rw [tell_no ha h1] at h; cases h
/-- What replyOf gives. -/
def ReplyI (n : Nat) (ts : List ByteArray) (g : G3) (y : R3) (told : Bool) : Prop := (told = false /\ tellP n ts g = none) \/ (told = true /\ ∃ y', tellP n ts g = some y' /\ y.text.size <= 2000 /\ ∀ nm s, ansP g.ask nm y s = ansP g.ask nm y' s)
/-- What l4Reply gives. -/
def ReplyS (n : Nat) (ts : List ByteArray) (g : G3) (y : R3) (told : Bool) : Prop := (told = false /\ tellP n ts g = none) \/ (told = true /\ tellP n ts g = some y)
theorem implRead_any (A : ByteArray) (w : World) (hs : A.size <= 2002) : Calls Tryz.prog 181 #[.string A] w fun e w' => Below w.heap.size w w' /\ ((rrB A /\ e = .returned (.tuple #[.agg #[.int .i64 (rdC A), .string (rdT A), .slice none 0 0], .bool true])) \/ (¬ rrB A /\ e = .returned (.tuple #[.agg #[.int .i64 0, .string ⟨#[]⟩, .slice none 0 0], .bool false]))) := by
  by_cases h : rrB A
  · refine (implRead_yes A w h (rr_pos h)).mono ?_
    rintro e w' ⟨rfl, hb⟩
    rw [rdC_eq (rr_pos h)]
    exact ⟨hb, Or.inl ⟨h, rfl⟩⟩
  · refine (implRead_no A w (by omega) h).mono ?_
    rintro e w' ⟨rfl, hb⟩
    exact ⟨hb, Or.inr ⟨h, rfl⟩⟩
theorem specRead_any (A : ByteArray) (w : World) (hs : A.size <= 2002) : Calls Tryz.prog 173 #[.string A] w fun e w' => Below w.heap.size w w' /\ ((rrB A /\ e = .returned (.tuple #[.agg #[.int .i64 (rdC A), .string (rdT A), .slice none 0 0], .bool true])) \/ (¬ rrB A /\ e = .returned (.tuple #[.agg #[.int .i64 0, .string ⟨#[]⟩, .slice none 0 0], .bool false]))) := by
  by_cases h : rrB A
  · refine (specRead_yes A w h (rr_pos h)).mono ?_
    rintro e w' ⟨rfl, hb⟩
    rw [rdC_eq (rr_pos h)]
    exact ⟨hb, Or.inl ⟨h, rfl⟩⟩
  · refine (specRead_no A w (by omega) h).mono ?_
    rintro e w' ⟨rfl, hb⟩
    exact ⟨hb, Or.inr ⟨h, rfl⟩⟩
end Go.Proofs.YtmeojnaoljgieaeGreatDoor
