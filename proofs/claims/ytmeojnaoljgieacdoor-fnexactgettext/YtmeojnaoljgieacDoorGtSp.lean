/-
  GetText: both of them.
-/
import Derived.Test.YtmeojnaoljgieacDoorGtIm
import Derived.Test.YtmeojnaoljgieacDoorStLaw
import Derived.BigQuiet
namespace Go.Proofs.YtmeojnaoljgieacDoor
open Go.RowKit
set_option linter.unusedVariables false

/-- What GetText answers at any store. -/
def GetP (n : Int) (ts : List ByteArray) (rs : List T3) (t A : ByteArray) (ok : Bool) : Prop := (WdOk n ts rs ∧ GetOut n.toNat ts t A ok) ∨ (¬ WdOk n ts rs ∧ A = ⟨#[]⟩ ∧ ok = false)
theorem GetP.unique {n : Int} {ts : List ByteArray} {rs : List T3} {t A A' : ByteArray} {ok ok' : Bool} (h : GetP n ts rs t A ok) (h' : GetP n ts rs t A' ok') : A' = A ∧ ok' = ok := by
  rcases h with ⟨h1, h2⟩ | ⟨h1, rfl, rfl⟩ <;> rcases h' with ⟨k1, k2⟩ | ⟨k1, rfl, rfl⟩
  · exact GetOut.unique h1.2.2.1.2.2 h2 k2
  · exact absurd h1 k1
  · exact absurd k1 h1
  · exact ⟨rfl, rfl⟩

set_option maxRecDepth 100000 in
set_option maxHeartbeats 1000000 in
theorem implGetText_any (n : Int) (ta ra : Option Addr) (tc rc : Nat) (ts : List ByteArray) (rs : List T3) (t : ByteArray) (w : World) (hT : Tab w) (h : StIn w ta ts ra rs) :
    Calls Tryd.prog 22 #[.agg #[.int .i64 n, .slice ta ts.length tc, .slice ra rs.length rc], .string t] w fun e w' => Below w.heap.size w w' ∧ ∃ A ok, e = .returned (.tuple #[.string A, .bool ok]) ∧ GetP n ts rs t A ok := by
  have hb0 : Below w.heap.size w (w.alloc (.cells #[.int .i64 n, .slice ta ts.length tc, .slice ra rs.length rc] 30)) := (Below.refl _ _).alloc (Nat.le_refl _) _
  have k0 : (w.alloc (.cells #[.int .i64 n, .slice ta ts.length tc, .slice ra rs.length rc] 30)).cell? ⟨w.heap.size, 0, none⟩ = some (.int .i64 n) := by simp [go_sem]
  have k1 : (w.alloc (.cells #[.int .i64 n, .slice ta ts.length tc, .slice ra rs.length rc] 30)).cell? ⟨w.heap.size, 1, none⟩ = some (.slice ta ts.length tc) := by simp [go_sem]
  have k2 : (w.alloc (.cells #[.int .i64 n, .slice ta ts.length tc, .slice ra rs.length rc] 30)).cell? ⟨w.heap.size, 2, none⟩ = some (.slice ra rs.length rc) := by simp [go_sem]
  have HI : Hid (StIn w ta ts ra rs) := h
  have HT : Hid (Tab w) := hT
  clear h hT
  go_enter Tryd.func22, Tryd.ntmps22
  go_wp2_with fail
  refine (shelfWith_any n ta ra tc rc ts rs _ (HT.out.below hb0) (HI.out.below hb0)).mono ?_
  rintro e w1 ⟨hb1, ⟨hg, v, rfl⟩ | ⟨hg, g, sg, rfl, hsh, hst⟩⟩
  · have hB1 := bt hb0 hb1
    have HR : Hid (GetP n ts rs t ⟨#[]⟩ false) := Or.inr ⟨hg, rfl, rfl⟩
    clear hg hb0 hb1 k0 k1 k2
    go_wp2_with fail
    go_ret2
    exact ⟨hB1, ⟨#[]⟩, false, rfl, HR.out⟩
  · obtain ⟨m, rfl⟩ := Int.eq_ofNat_of_zero_le (show 0 ≤ n by have := hg.1; omega)
    have hB1 := bt hb0 hb1
    have HG : Hid (WdOk m ts rs) := hg
    have HGE : Hid (Calls Tryd.prog 71 #[.pointer (some ⟨g, 0, none⟩), .string t] w1 fun e w' => w1 = w' ∧ ∃ A ok, e = .returned (.tuple #[.string A, .bool ok]) ∧ GetOut m ts t A ok) := get_any m g sg ta ra tc rs.length rc ts t w1 hsh hst (HI.out.st.below hB1) HI.out.lt hg.2.2.1.2.2
    clear hg hb0 hb1 k0 k1 k2 hsh hst
    go_wp2_with fail
    refine HGE.out.mono ?_
    rintro e w2 ⟨rfl, X, ok, rfl, hr⟩
    have HR : Hid (GetP m ts rs t X ok) := Or.inl ⟨HG.out, hr⟩
    clear hr
    go_wp2_with fail
    go_ret2
    exact ⟨hB1, X, ok, rfl, HR.out⟩

set_option maxRecDepth 100000 in
set_option maxHeartbeats 4000000 in
theorem l4Place_any (n : Nat) (ta ra : Option Addr) (tc rn rc : Nat) (ts : List ByteArray) (t : ByteArray) (w : World) (h1 : 1 ≤ n) (h8 : n ≤ 8) (hc : Strs w ta ts) (hl : ts.length ≤ 1048576) (hs : ∀ i, i < ts.length → (nx ts i).size ≤ 2002) :
    Calls Tryd.prog 120 #[.agg #[.int .i64 n, .slice ta ts.length tc, .slice ra rn rc], .string t] w fun e w' => Below w.heap.size w w' ∧ ∃ k : Nat, e = .returned (.int .i64 k) ∧ k ≤ ts.length ∧ (∀ j, j < k → lessB (sumB n (nx ts j)) t = true) ∧ (k < ts.length → lessB (sumB n (nx ts k)) t = false) := by
  have hb0 : Below w.heap.size w (w.alloc (.cells #[.int .i64 n, .slice ta ts.length tc, .slice ra rn rc] 30)) := (Below.refl _ _).alloc (Nat.le_refl _) _
  have x0 : (w.alloc (.cells #[.int .i64 n, .slice ta ts.length tc, .slice ra rn rc] 30)).cell? ⟨w.heap.size, 0, none⟩ = some (.int .i64 n) := by simp [go_sem]
  have x1 : (w.alloc (.cells #[.int .i64 n, .slice ta ts.length tc, .slice ra rn rc] 30)).cell? ⟨w.heap.size, 1, none⟩ = some (.slice ta ts.length tc) := by simp [go_sem]
  have HC : Hid (Strs w ta ts) := hc
  have HS : Hid (∀ i, i < ts.length → (nx ts i).size ≤ 2002) := hs
  clear hc hs
  go_enter Tryd.func120, Tryd.ntmps120
  go_wp2_with fail
  go_loopw [5] (fun v wr => ∃ k : Nat, k ≤ ts.length ∧ v = .int .i64 k ∧ Hid (∀ j, j < k → lessB (sumB n (nx ts j)) t = true) ∧ wr.cell? ⟨w.heap.size, 0, none⟩ = some (.int .i64 n) ∧ wr.cell? ⟨w.heap.size, 1, none⟩ = some (.slice ta ts.length tc) ∧ Below w.heap.size w wr) (fun v _ => ts.length - (intOf v).toNat)
  case atStart => exact ⟨0, Nat.zero_le _, rfl, (fun j hj => by omega : ∀ j, j < 0 → lessB (sumB n (nx ts j)) t = true), x0, x1, hb0⟩
  case round =>
    obtain ⟨k, hk, rfl, HK, y0, y1, hbr⟩ := hrel
    clear x0 x1 hb0
    have hbA : Below wr.heap.size wr wr.drew := (Below.refl _ _).drew
    by_cases hlt : k < ts.length
    · obtain ⟨b, off, rfl, c1⟩ := (HC.out.below hbr) k hlt
      replace c1 : wr.cell? ⟨b, off + k, none⟩ = some (.string (nx ts k)) := c1
      have hsk := HS.out k hlt
      have hkI : (k : Int) < (ts.length : Int) := by omega
      have hk0 : (0 : Int) ≤ (k : Int) := by omega
      have e1 : decide ((k : Int) < (ts.length : Int)) = true := by simp; omega
      obtain ⟨v, hv⟩ : ∃ v, lessB (sumB n (nx ts k)) t = v := ⟨_, rfl⟩
      have HV : Hid (lessB (sumB n (nx ts k)) t = v) := hv
      have HK1 : Hid (lessB (sumB n (nx ts k)) t = true → ∀ j, j < k + 1 → lessB (sumB n (nx ts j)) t = true) := fun h => ext_succ HK.out h
      generalize nx ts k = x at c1 hsk hv
      have hx0 : x.size ≤ 1048576 := by omega
      obtain ⟨q, eq⟩ : ∃ q, sumB n x = q := ⟨_, rfl⟩
      rw [eq] at hv
      have HSUM : Hid (∀ W : World, Calls Tryd.prog 47 #[.string x, .int .i64 n] W fun e w' => e = .returned (.string q) ∧ Below W.heap.size W w') := fun W => by rw [← eq]; exact specSum_yes x n W hx0 h1 h8
      clear eq
      unfold lessB at hv
      cases v
      · have HO : Hid (k < ts.length → lessB (sumB n (nx ts k)) t = false) := fun _ => HV.out
        go_wp2_with fail
        go_region_held3 (fun w' => (w'.cell? ⟨w.heap.size, 0, none⟩ = some (.int .i64 n) ∧ w'.cell? ⟨w.heap.size, 1, none⟩ = some (.slice (some ⟨b, off, none⟩) ts.length tc)) ∧ w'.cell? ⟨b, off + k, none⟩ = some (.string x))
          (first | assumption | (simp [*]; done) | exact ⟨⟨cell_below hb2 (by simp [*]), cell_below hb2 (by simp [*])⟩, cell_below hb2 (by simp [*])⟩)
          (first | (go_at_call 47; refine (HSUM.out _).mono ?_; rintro e w2 ⟨rfl, hb2⟩))
        all_goals
          go_wp2_with fail
          go_ret
          exact ⟨bt hbr (bt hbA hb2), k, rfl, hk, HK.out, HO.out⟩
      · have HO : Hid (∀ j, j < k + 1 → lessB (sumB n (nx ts j)) t = true) := HK1.out HV.out
        go_wp2_with fail
        go_region_held3 (fun w' => (w'.cell? ⟨w.heap.size, 0, none⟩ = some (.int .i64 n) ∧ w'.cell? ⟨w.heap.size, 1, none⟩ = some (.slice (some ⟨b, off, none⟩) ts.length tc)) ∧ w'.cell? ⟨b, off + k, none⟩ = some (.string x))
          (first | assumption | (simp [*]; done) | exact ⟨⟨cell_below hb2 (by simp [*]), cell_below hb2 (by simp [*])⟩, cell_below hb2 (by simp [*])⟩)
          (first | (go_at_call 47; refine (HSUM.out _).mono ?_; rintro e w2 ⟨rfl, hb2⟩))
        all_goals
          have z0 := cell_below hb2 (cell_below hbA y0)
          have z1 := cell_below hb2 (cell_below hbA y1)
          go_wp2_with fail
          go_roundw
          case rel => exact ⟨k + 1, by omega, by go_num, HO.out, z0, z1, bt hbr (bt hbA hb2)⟩
          case measure => simp [intOf]; omega
    · have e1 : decide (k < ts.length) = false := by simp; omega
      have HN : Hid (¬ k < ts.length) := hlt
      clear hlt
      go_wp2_with fail
      go_quiet (fail)
      go_wp2
      go_ret
      exact ⟨below_drewN hbr _, k, rfl, hk, HK.out, fun h => absurd h HN.out⟩

theorem place_has {n : Nat} {ts : List ByteArray} {t : ByteArray} {k : Nat} (ha : Asc (ts.map (sumB n))) (h1 : ∀ j, j < k → lessB (sumB n (nx ts j)) t = true) (h2 : k < ts.length → lessB (sumB n (nx ts k)) t = false) (hk : k ≤ ts.length) (hh : Has (ts.map (sumB n)) t) : k < ts.length ∧ sumB n (nx ts k) = t := by
  have hs : ∀ i, i < ts.length → nx (ts.map (sumB n)) i = sumB n (nx ts i) := fun i h => nx_sums n ts i h
  have hl : (ts.map (sumB n)).length = ts.length := List.length_map _
  have := has_at (i := k) ha (fun j hj => by rw [hs j (by omega)]; exact h1 j hj) (fun j hj hjl => by
    have hk' : k < ts.length := by omega
    exact hi_step ha (m := k) (by rw [hs k hk']; exact h2 hk') j hj hjl) hh
  exact ⟨by omega, by rw [← hs k (by omega)]; exact this.2⟩

set_option maxRecDepth 100000 in
set_option maxHeartbeats 4000000 in
theorem l4Get_any (n : Nat) (ta ra : Option Addr) (tc rn rc : Nat) (ts : List ByteArray) (t : ByteArray) (w : World) (h1 : 1 ≤ n) (h8 : n ≤ 8) (hc : Strs w ta ts) (hl : ts.length ≤ 1048576) (hs : ∀ i, i < ts.length → (nx ts i).size ≤ 2002) (hasc : Asc (ts.map (sumB n))) :
    Calls Tryd.prog 70 #[.agg #[.int .i64 n, .slice ta ts.length tc, .slice ra rn rc], .string t] w fun e w' => Below w.heap.size w w' ∧ ∃ A ok, e = .returned (.tuple #[.string A, .bool ok]) ∧ GetOut n ts t A ok := by
  have hb0 : Below w.heap.size w (w.alloc (.cells #[.int .i64 n, .slice ta ts.length tc, .slice ra rn rc] 30)) := (Below.refl _ _).alloc (Nat.le_refl _) _
  have x0 : (w.alloc (.cells #[.int .i64 n, .slice ta ts.length tc, .slice ra rn rc] 30)).cell? ⟨w.heap.size, 0, none⟩ = some (.int .i64 n) := by simp [go_sem]
  have x1 : (w.alloc (.cells #[.int .i64 n, .slice ta ts.length tc, .slice ra rn rc] 30)).cell? ⟨w.heap.size, 1, none⟩ = some (.slice ta ts.length tc) := by simp [go_sem]
  have HC : Hid (Strs w ta ts) := hc
  have HS : Hid (∀ i, i < ts.length → (nx ts i).size ≤ 2002) := hs
  have HA : Hid (Asc (ts.map (sumB n))) := hasc
  clear hc hs hasc
  go_enter Tryd.func70, Tryd.ntmps70
  go_wp2_with fail
  refine (l4Place_any n ta ra tc rn rc ts t _ h1 h8 (HC.out.below hb0) hl HS.out).mono ?_
  rintro e wr ⟨hb1, k, rfl, hk, p1, p2⟩
  have hbr := bt hb0 hb1
  have y0 := cell_below hb1 x0
  have y1 := cell_below hb1 x1
  have HP1 : Hid (∀ j, j < k → lessB (sumB n (nx ts j)) t = true) := p1
  have HP2 : Hid (k < ts.length → lessB (sumB n (nx ts k)) t = false) := p2
  clear x0 x1 hb0 hb1 p1 p2
  have hbA : Below wr.heap.size wr wr.drew := (Below.refl _ _).drew
  by_cases hlt : k < ts.length
  · obtain ⟨b, off, rfl, c1⟩ := (HC.out.below hbr) k hlt
    replace c1 : wr.cell? ⟨b, off + k, none⟩ = some (.string (nx ts k)) := c1
    have hsk := HS.out k hlt
    have hkI : (k : Int) < (ts.length : Int) := by omega
    have hk0 : (0 : Int) ≤ (k : Int) := by omega
    have e1 : decide ((k : Int) < (ts.length : Int)) = true := by simp; omega
    have HYES : Hid (sumB n (nx ts k) = t → GetOut n ts t (nx ts k) true) := fun h => Or.inl ⟨rfl, k, hlt, h, rfl⟩
    have HNO : Hid (¬ sumB n (nx ts k) = t → GetOut n ts t ⟨#[]⟩ false) := fun h => Or.inr ⟨rfl, rfl, fun hh => h (place_has HA.out HP1.out HP2.out hk hh).2⟩
    generalize nx ts k = x at *
    have hx0 : x.size ≤ 1048576 := by omega
    obtain ⟨q, eq⟩ : ∃ q, sumB n x = q := ⟨_, rfl⟩
    rw [eq] at HYES HNO
    have HSUM : Hid (∀ W : World, Calls Tryd.prog 47 #[.string x, .int .i64 n] W fun e w' => e = .returned (.string q) ∧ Below W.heap.size W w') := fun W => by rw [← eq]; exact specSum_yes x n W hx0 h1 h8
    clear eq HP1 HP2
    by_cases hq : q = t
    · have dq := str_eq hq
      have HO : Hid (GetOut n ts t x true) := HYES.out hq
      clear hq HYES HNO
      go_wp2_with fail
      go_region_held3 (fun w' => (w'.cell? ⟨w.heap.size, 0, none⟩ = some (.int .i64 n) ∧ w'.cell? ⟨w.heap.size, 1, none⟩ = some (.slice (some ⟨b, off, none⟩) ts.length tc)) ∧ w'.cell? ⟨b, off + k, none⟩ = some (.string x))
        (first | assumption | (simp [*]; done) | exact ⟨⟨cell_below hb2 (by simp [*]), cell_below hb2 (by simp [*])⟩, cell_below hb2 (by simp [*])⟩)
        (first | (go_at_call 47; refine (HSUM.out _).mono ?_; rintro e w2 ⟨rfl, hb2⟩))
      all_goals
        have z1 := cell_below hb2 (cell_below hbA y1)
        have d1 := cell_below hb2 (cell_below hbA c1)
        go_wp2_with fail
        go_ret2
        exact ⟨bt hbr (bt hbA hb2), x, true, rfl, HO.out⟩
    · have dq := str_ne hq
      have HO : Hid (GetOut n ts t ⟨#[]⟩ false) := HNO.out hq
      clear hq HYES HNO
      go_wp2_with fail
      go_region_held3 (fun w' => (w'.cell? ⟨w.heap.size, 0, none⟩ = some (.int .i64 n) ∧ w'.cell? ⟨w.heap.size, 1, none⟩ = some (.slice (some ⟨b, off, none⟩) ts.length tc)) ∧ w'.cell? ⟨b, off + k, none⟩ = some (.string x))
        (first | assumption | (simp [*]; done) | exact ⟨⟨cell_below hb2 (by simp [*]), cell_below hb2 (by simp [*])⟩, cell_below hb2 (by simp [*])⟩)
        (first | (go_at_call 47; refine (HSUM.out _).mono ?_; rintro e w2 ⟨rfl, hb2⟩))
      all_goals
        go_wp2_with fail
        go_ret2
        exact ⟨bt hbr (bt hbA hb2), ⟨#[]⟩, false, rfl, HO.out⟩
  · have e1 : decide (k < ts.length) = false := by simp; omega
    have HO : Hid (GetOut n ts t ⟨#[]⟩ false) := Or.inr ⟨rfl, rfl, fun hh => hlt (place_has HA.out HP1.out HP2.out hk hh).1⟩
    clear hlt
    go_wp2_with fail
    go_quiet (fail)
    go_wp2
    go_ret2
    exact ⟨below_drewN hbr _, ⟨#[]⟩, false, rfl, HO.out⟩

set_option maxRecDepth 100000 in
set_option maxHeartbeats 1000000 in
theorem specGetText_any (n : Int) (ta ra : Option Addr) (tc rc : Nat) (ts : List ByteArray) (rs : List T3) (t : ByteArray) (w : World) (h : StIn w ta ts ra rs) :
    Calls Tryd.prog 21 #[.agg #[.int .i64 n, .slice ta ts.length tc, .slice ra rs.length rc], .string t] w fun e w' => Below w.heap.size w w' ∧ ∃ A ok, e = .returned (.tuple #[.string A, .bool ok]) ∧ GetP n ts rs t A ok := by
  have hb0 : Below w.heap.size w (w.alloc (.cells #[.int .i64 n, .slice ta ts.length tc, .slice ra rs.length rc] 30)) := (Below.refl _ _).alloc (Nat.le_refl _) _
  have k0 : (w.alloc (.cells #[.int .i64 n, .slice ta ts.length tc, .slice ra rs.length rc] 30)).cell? ⟨w.heap.size, 0, none⟩ = some (.int .i64 n) := by simp [go_sem]
  have k1 : (w.alloc (.cells #[.int .i64 n, .slice ta ts.length tc, .slice ra rs.length rc] 30)).cell? ⟨w.heap.size, 1, none⟩ = some (.slice ta ts.length tc) := by simp [go_sem]
  have k2 : (w.alloc (.cells #[.int .i64 n, .slice ta ts.length tc, .slice ra rs.length rc] 30)).cell? ⟨w.heap.size, 2, none⟩ = some (.slice ra rs.length rc) := by simp [go_sem]
  have HI : Hid (StIn w ta ts ra rs) := h
  clear h
  go_enter Tryd.func21, Tryd.ntmps21
  go_wp2_with fail
  refine (specValidStore_any n ta ra tc rc ts rs _ (HI.out.below hb0)).mono ?_
  rintro e w1 ⟨hb1, b, rfl, hb⟩
  have hB1 := bt hb0 hb1
  have k10 := cell_below hb1 k0
  have k11 := cell_below hb1 k1
  have k12 := cell_below hb1 k2
  clear hb0 hb1 k0 k1 k2
  rcases b_iff hb with ⟨hg, rfl⟩ | ⟨hg, rfl⟩
  · obtain ⟨m, rfl⟩ := Int.eq_ofNat_of_zero_le (show 0 ≤ n by have := hg.1; omega)
    have HG : Hid (WdOk m ts rs) := hg
    have h1 : 1 ≤ m := by have := hg.1; omega
    have h8 : m ≤ 8 := by have := hg.2.1; omega
    clear hb hg
    go_wp2_with fail
    refine (l4Get_any m ta ra tc rs.length rc ts t _ h1 h8 (HI.out.st.below hB1) HI.out.lt HG.out.2.2.1.2.1 HG.out.2.2.1.2.2).mono ?_
    rintro e w2 ⟨hb2, X, ok, rfl, hr⟩
    have HR : Hid (GetP m ts rs t X ok) := Or.inl ⟨HG.out, hr⟩
    clear hr
    go_wp2
    go_ret2
    exact ⟨bt hB1 hb2, X, ok, rfl, HR.out⟩
  · have HR : Hid (GetP n ts rs t ⟨#[]⟩ false) := Or.inr ⟨hg, rfl, rfl⟩
    clear hb hg
    go_wp2
    go_ret2
    exact ⟨hB1, ⟨#[]⟩, false, rfl, HR.out⟩

end Go.Proofs.YtmeojnaoljgieacDoor
