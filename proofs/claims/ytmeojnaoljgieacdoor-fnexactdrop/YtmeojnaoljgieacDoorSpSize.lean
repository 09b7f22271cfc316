/-
  Spaces: rows of sources and of targets told of cells; the walks of laws.szSpace, toSpace, eqSpace and of what they call.
-/
import Derived.Test.YtmeojnaoljgieacDoorGRec
namespace Go.Proofs.YtmeojnaoljgieacDoor
open Go.RowKit
set_option linter.unusedVariables false

structure S2 where
  name : ByteArray
  text : ByteArray
def sx (is : List S2) (i : Nat) : S2 := is.getD i ⟨ByteArray.empty, ByteArray.empty⟩
structure T2 where
  name : ByteArray
  code : List I3
def tx (is : List T2) (i : Nat) : T2 := is.getD i ⟨ByteArray.empty, []⟩

/-- The slice's address leads to the sources, in w. -/
def RowS (w : World) (a : Option Addr) (is : List S2) : Prop :=
  ∀ i, i < is.length → ∃ b off, a = some ⟨b, off, none⟩ ∧ w.cell? ⟨b, off + i * 2, none⟩ = some (.string (sx is i).name) ∧ w.cell? ⟨b, off + i * 2 + 1, none⟩ = some (.string (sx is i).text)
/-- The slice's address leads to the targets, in w. -/
def RowT (w : World) (a : Option Addr) (is : List T2) : Prop :=
  ∀ i, i < is.length → ∃ b off, a = some ⟨b, off, none⟩ ∧ w.cell? ⟨b, off + i * 2, none⟩ = some (.string (tx is i).name) ∧ ∃ a' cap', w.cell? ⟨b, off + i * 2 + 1, none⟩ = some (.slice a' (tx is i).code.length cap') ∧ Row3 w a' (tx is i).code

theorem RowS.below {w w' : World} {a : Option Addr} {is : List S2} (h : RowS w a is) (hb : Below w.heap.size w w') : RowS w' a is := by
  intro i hi
  obtain ⟨b, off, ha, h1, h2⟩ := h i hi
  exact ⟨b, off, ha, cell_below hb h1, cell_below hb h2⟩
theorem RowT.below {w w' : World} {a : Option Addr} {is : List T2} (h : RowT w a is) (hb : Below w.heap.size w w') : RowT w' a is := by
  intro i hi
  obtain ⟨b, off, ha, h1, a', cap', h2, h3⟩ := h i hi
  exact ⟨b, off, ha, cell_below hb h1, a', cap', cell_below hb h2, h3.below hb⟩

/-! ### sizes -/
set_option maxHeartbeats 400000 in
theorem szSource_any (i : S2) (l : Int) (w : World) (h0 : 0 ≤ l) (h1 : l ≤ 1048576) (hs : i.name.size ≤ maxLen) (ht : i.text.size ≤ maxLen) :
    Calls Tryd.prog 108 #[.agg #[.string i.name, .string i.text], .int .i64 l] w fun e w' => Below w.heap.size w w' ∧ ∃ r : Int, e = .returned (.int .i64 r) ∧ (r < 0 ∨ (0 ≤ r ∧ r ≤ l)) := by
  unfold maxLen at hs ht
  by_cases h : l - i.name.size < 0
  · go_enter Tryd.func108, Tryd.ntmps108
    go_wp2
    go_ret
    exact ⟨(Below.refl _ _).alloc (Nat.le_refl _) _, _, rfl, by omega⟩
  · by_cases h2 : l - i.name.size - i.text.size < 0
    · go_enter Tryd.func108, Tryd.ntmps108
      go_wp2
      go_ret
      exact ⟨(Below.refl _ _).alloc (Nat.le_refl _) _, _, rfl, by omega⟩
    · go_enter Tryd.func108, Tryd.ntmps108
      go_wp2
      go_ret
      exact ⟨(Below.refl _ _).alloc (Nat.le_refl _) _, _, rfl, by omega⟩

set_option maxHeartbeats 400000 in
theorem szTarget_any (n : ByteArray) (a : Option Addr) (cap : Nat) (is : List I3) (l : Int) (w : World) (h0 : 0 ≤ l) (h1 : l ≤ 1048576) (hn : n.size ≤ maxLen) (hc : Row3 w a is) (hl : is.length ≤ maxLen) (hs : ∀ i, (ix is i).text.size ≤ maxLen) :
    Calls Tryd.prog 109 #[.agg #[.string n, .slice a is.length cap], .int .i64 l] w fun e w' => Below w.heap.size w w' ∧ ∃ r : Int, e = .returned (.int .i64 r) ∧ (r < 0 ∨ (is.length ≤ 1048576 ∧ 0 ≤ r ∧ r ≤ l)) := by
  have hb0 : Below w.heap.size w (w.alloc (.cells #[.string n, .slice a is.length cap] 156)) := (Below.refl _ _).alloc (Nat.le_refl _) _
  unfold maxLen at hn
  by_cases h : l - n.size < 0
  · go_enter Tryd.func109, Tryd.ntmps109
    go_wp2
    go_ret
    exact ⟨hb0, _, rfl, by omega⟩
  · go_enter Tryd.func109, Tryd.ntmps109
    go_wp2_with fail
    refine (szProgram_left a cap is (l - n.size) _ (by omega) (by omega) (hc.below hb0) hl hs).mono ?_
    rintro e w1 ⟨hb1, r, rfl, hr⟩
    have hB1 := bt hb0 hb1
    clear hb0 hb1
    go_wp2
    all_goals go_ret
    · exact ⟨hB1, -1, rfl, by omega⟩
    · exact ⟨hB1, r, rfl, by omega⟩

set_option maxHeartbeats 1000000 in
theorem szSS_any (a : Option Addr) (cap : Nat) (is : List S2) (lft : Int) (w : World) (hf0 : 0 ≤ lft) (hf1 : lft ≤ 1048576) (hc : RowS w a is) (hl : is.length ≤ maxLen) (hs : ∀ i, (sx is i).name.size ≤ maxLen) (ht : ∀ i, (sx is i).text.size ≤ maxLen) :
    Calls Tryd.prog 54 #[.slice a is.length cap, .int .i64 lft] w fun e w' => Below w.heap.size w w' ∧ ∃ r : Int, e = .returned (.int .i64 r) ∧ (r < 0 ∨ ((is.length : Int) ≤ lft ∧ 0 ≤ r ∧ r ≤ lft)) := by
  have hl' := hl
  unfold maxLen at hl'
  by_cases h0 : (is.length : Int) ≤ lft
  · go_enter Tryd.func54, Tryd.ntmps54
    go_wp2
    go_loopw [1, 5] (fun l i wr => ∃ k : Nat, ∃ q : Int, k ≤ is.length ∧ i = .int .i64 k ∧ l = .int .i64 q ∧ 0 ≤ q ∧ q ≤ lft ∧ Below w.heap.size w wr) (fun _ i _ => is.length - (intOf i).toNat)
    case atStart => exact ⟨0, _, Nat.zero_le _, rfl, rfl, by omega, by omega, Below.refl _ _⟩
    case round =>
      obtain ⟨k, q, hk, rfl, rfl, hq0, hq1, hbr⟩ := hrel
      by_cases hlt : k < is.length
      · obtain ⟨b, off, rfl, c1, c2⟩ := (hc.below hbr) k hlt
        have hsk := hs k
        have htk := ht k
        clear hs ht hc
        generalize sx is k = i at *
        go_wp2_with fail
        refine (szSource_any i _ _ (by omega) (by omega) hsk htk).mono ?_
        rintro e w1 ⟨hb1, r, rfl, hr⟩
        rcases hr with hr | hr
        · go_wp2
          go_ret
          exact ⟨hbr.trans (hb1.mono hbr.size), -1, rfl, by omega⟩
        · have hr0 : 0 ≤ r := by omega
          have hr1 : r ≤ q := by omega
          go_wp2
          go_roundw
          case rel => exact ⟨k + 1, _, by omega, by go_num, rfl, by omega, by omega, hbr.trans (hb1.mono hbr.size)⟩
          case measure => simp [intOf]; omega
      · go_wp2
        go_ret
        exact ⟨hbr, _, rfl, by omega⟩
  · go_enter Tryd.func54, Tryd.ntmps54
    go_wp2
    go_ret
    exact ⟨Below.refl _ _, -1, rfl, by omega⟩

set_option maxHeartbeats 1000000 in
theorem szTS_any (a : Option Addr) (cap : Nat) (is : List T2) (lft : Int) (w : World) (hf0 : 0 ≤ lft) (hf1 : lft ≤ 1048576) (hc : RowT w a is) (hl : is.length ≤ maxLen) (hs : ∀ i, (tx is i).name.size ≤ maxLen) (ht : ∀ i, (tx is i).code.length ≤ maxLen) (hu : ∀ i j, (ix (tx is i).code j).text.size ≤ maxLen) :
    Calls Tryd.prog 55 #[.slice a is.length cap, .int .i64 lft] w fun e w' => Below w.heap.size w w' ∧ ∃ r : Int, e = .returned (.int .i64 r) ∧ (r < 0 ∨ ((is.length : Int) ≤ lft ∧ 0 ≤ r ∧ r ≤ lft ∧ ∀ i, i < is.length → (tx is i).code.length ≤ 1048576)) := by
  have hl' := hl
  unfold maxLen at hl'
  by_cases h0 : (is.length : Int) ≤ lft
  · go_enter Tryd.func55, Tryd.ntmps55
    go_wp2
    go_loopw [1, 5] (fun l i wr => ∃ k : Nat, ∃ q : Int, k ≤ is.length ∧ i = .int .i64 k ∧ l = .int .i64 q ∧ 0 ≤ q ∧ q ≤ lft ∧ Below w.heap.size w wr ∧ Hid (∀ i, i < k → (tx is i).code.length ≤ 1048576)) (fun _ i _ => is.length - (intOf i).toNat)
    case atStart => exact ⟨0, _, Nat.zero_le _, rfl, rfl, by omega, by omega, Below.refl _ _, (fun i hi => by omega : ∀ i, i < 0 → (tx is i).code.length ≤ 1048576)⟩
    case round =>
      obtain ⟨k, q, hk, rfl, rfl, hq0, hq1, hbr, HK⟩ := hrel
      by_cases hlt : k < is.length
      · obtain ⟨b, off, rfl, c1, a', cap', c2, c3⟩ := (hc.below hbr) k hlt
        have hsk := hs k
        have htk := ht k
        have huk := hu k
        clear hs ht hc
        obtain ⟨i, ei⟩ : ∃ i, tx is k = i := ⟨_, rfl⟩
        rw [ei] at c1 c2 c3 hsk htk huk
        have EI : Hid (tx is k = i) := ei
        clear ei
        go_wp2_with fail
        refine (szTarget_any i.name a' cap' i.code _ _ (by omega) (by omega) hsk c3 htk huk).mono ?_
        rintro e w1 ⟨hb1, r, rfl, hr⟩
        rcases hr with hr | hr
        · go_wp2
          go_ret
          exact ⟨hbr.trans (hb1.mono hbr.size), -1, rfl, Or.inl (by omega)⟩
        · have hr0 : 0 ≤ r := by omega
          have hr1 : r ≤ q := by omega
          go_wp2
          go_roundw
          case rel => exact ⟨k + 1, _, by omega, by go_num, rfl, by omega, by omega, hbr.trans (hb1.mono hbr.size), ext_succ HK.out (by rw [EI.out]; omega)⟩
          case measure => simp [intOf]; omega
      · go_wp2
        go_ret
        exact ⟨hbr, _, rfl, by refine Or.inr ⟨by omega, by omega, by omega, fun i hi => HK.out i (by omega)⟩⟩
  · go_enter Tryd.func55, Tryd.ntmps55
    go_wp2
    go_ret
    exact ⟨Below.refl _ _, -1, rfl, Or.inl (by omega)⟩

/-- The hypotheses on a space that its reading gives. -/
structure SpOk (w : World) (sa : Option Addr) (ss : List S2) (ta : Option Addr) (ts : List T2) : Prop where
  rs : RowS w sa ss
  rt : RowT w ta ts
  ls : ss.length ≤ maxLen
  lt : ts.length ≤ maxLen
  ns : ∀ i, (sx ss i).name.size ≤ maxLen
  xs : ∀ i, (sx ss i).text.size ≤ maxLen
  nt : ∀ i, (tx ts i).name.size ≤ maxLen
  lc : ∀ i, (tx ts i).code.length ≤ maxLen
  xt : ∀ i j, (ix (tx ts i).code j).text.size ≤ maxLen
/-- What the law's look at the size leaves. -/
structure SpSmall (ss : List S2) (ts : List T2) : Prop where
  ls : ss.length ≤ 1048576
  lt : ts.length ≤ 1048576
  lc : ∀ i, i < ts.length → (tx ts i).code.length ≤ 1048576

set_option maxHeartbeats 400000 in
theorem szSpace_any (sa ta : Option Addr) (c1 c2 : Nat) (ss : List S2) (ts : List T2) (w : World) (h : SpOk w sa ss ta ts) :
    Calls Tryd.prog 14 #[.agg #[.slice sa ss.length c1, .slice ta ts.length c2], .int .i64 1048576] w fun e w' => Below w.heap.size w w' ∧ ∃ r : Int, e = .returned (.int .i64 r) ∧ (r < 0 ∨ (SpSmall ss ts ∧ 0 ≤ r)) := by
  have hb0 : Below w.heap.size w (w.alloc (.cells #[.slice sa ss.length c1, .slice ta ts.length c2] 37)) := (Below.refl _ _).alloc (Nat.le_refl _) _
  have k0 : (w.alloc (.cells #[.slice sa ss.length c1, .slice ta ts.length c2] 37)).cell? ⟨w.heap.size, 1, none⟩ = some (.slice ta ts.length c2) := by simp [go_sem]
  obtain ⟨rs, rt, ls, lt, ns, xs, nt, lc, xt⟩ := h
  go_enter Tryd.func14, Tryd.ntmps14
  go_wp2_with fail
  refine (szSS_any sa c1 ss 1048576 _ (by omega) (by omega) (rs.below hb0) ls ns xs).mono ?_
  rintro e w1 ⟨hb1, r, rfl, hr⟩
  have hB1 := bt hb0 hb1
  have k1 := cell_below hb1 k0
  rcases hr with hr | ⟨h1, hr0, hr1⟩
  · clear hb0 hb1 k0
    go_wp2
    go_ret
    exact ⟨hB1, -1, rfl, Or.inl (by omega)⟩
  · clear hb0 hb1 k0
    go_wp2_with fail
    refine (szTS_any ta c2 ts r _ (by omega) (by omega) (rt.below hB1) lt nt lc xt).mono ?_
    rintro e w2 ⟨hb2, r2, rfl, hr2⟩
    have hB2 := bt hB1 hb2
    clear hb2 hB1 k1
    rcases hr2 with hr2 | ⟨h2, hr2, hr3, h3⟩
    · go_wp2
      go_ret
      exact ⟨hB2, -1, rfl, Or.inl (by omega)⟩
    · go_wp2
      go_ret
      exact ⟨hB2, r2, rfl, Or.inr ⟨⟨by omega, by omega, h3⟩, by omega⟩⟩

end Go.Proofs.YtmeojnaoljgieacDoor
