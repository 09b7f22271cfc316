import Derived.Test.YtmeojnaoljgieaeGreatDoorGRec
namespace Go.Proofs.YtmeojnaoljgieaeGreatDoor
open Go.RowKit
set_option linter.unusedVariables false
structure S2 where
  name : ByteArray
  text : ByteArray
def sx (is : List S2) (i : Nat) : S2 := is.getD i ⟨ByteArray.empty, ByteArray.empty⟩
structure T2 where
  name : ByteArray
  code : List I3
def tx (is : List T2) (i : Nat) : T2 := is.getD i ⟨ByteArray.empty, []⟩
def RowS (w : World) (a : Option Addr) (is : List S2) : Prop :=
  ∀ i, i < is.length → ∃ b off, a = some ⟨b, off, none⟩ ∧ w.cell? ⟨b, off + i * 2, none⟩ = some (.string (sx is i).name) ∧ w.cell? ⟨b, off + i * 2 + 1, none⟩ = some (.string (sx is i).text)
def RowT (w : World) (a : Option Addr) (is : List T2) : Prop :=
  ∀ i, i < is.length → ∃ b off, a = some ⟨b, off, none⟩ ∧ w.cell? ⟨b, off + i * 2, none⟩ = some (.string (tx is i).name) ∧ ∃ a' cap', w.cell? ⟨b, off + i * 2 + 1, none⟩ = some (.slice a' (tx is i).code.length cap') ∧ Row3 w a' (tx is i).code
theorem RowS.below {w w' : World} {a : Option Addr} {is : List S2} (h : RowS w a is) (hb : Below w.heap.size w w') : RowS w' a is := by
  intro i hi
  obtain ⟨b, off, ha, h1, h2⟩ := h i hi
  exact ⟨b, off, ha, cell_below hb h1, cell_below hb h2⟩
theorem RowT.below {w w' : World} {a : Option Addr} {is : List T2} (h : RowT w a is) (hb : Below w.heap.size w w') : RowT w' a is := by
  intro i hi
  obtain ⟨b, off, ha, h1, a', cap', h2, h3⟩ := h i hi
  exact ⟨b, off, ha, cell_below hb h1, a', cap', cell_below hb h2, h3.below hb⟩
set_option maxHeartbeats 400000 in
theorem szSource_any (i : S2) (l : Int) (w : World) (h0 : 0 ≤ l) (h1 : l ≤ 1048576) (hs : i.name.size ≤ maxLen) (ht : i.text.size ≤ maxLen) :
    Calls Tryz.prog 132 #[.agg #[.string i.name, .string i.text], .int .i64 l] w fun e w' => Below w.heap.size w w' ∧ ∃ r : Int, e = .returned (.int .i64 r) ∧ (r < 0 ∨ (0 ≤ r ∧ r ≤ l)) := by
  unfold maxLen at hs ht
  by_cases h : l - i.name.size < 0
  · go_enter Tryz.func132, Tryz.ntmps132
    go_wp2
    go_ret
    exact ⟨(Below.refl _ _).alloc (Nat.le_refl _) _, _, rfl, by omega⟩
  · by_cases h2 : l - i.name.size - i.text.size < 0
    · go_enter Tryz.func132, Tryz.ntmps132
      go_wp2
      go_ret
      exact ⟨(Below.refl _ _).alloc (Nat.le_refl _) _, _, rfl, by omega⟩
    · go_enter Tryz.func132, Tryz.ntmps132
      go_wp2
      go_ret
      exact ⟨(Below.refl _ _).alloc (Nat.le_refl _) _, _, rfl, by omega⟩
set_option maxHeartbeats 400000 in
theorem szTarget_any (n : ByteArray) (a : Option Addr) (cap : Nat) (is : List I3) (l : Int) (w : World) (h0 : 0 ≤ l) (h1 : l ≤ 1048576) (hn : n.size ≤ maxLen) (hc : Row3 w a is) (hl : is.length ≤ maxLen) (hs : ∀ i, (ix is i).text.size ≤ maxLen) :
    Calls Tryz.prog 133 #[.agg #[.string n, .slice a is.length cap], .int .i64 l] w fun e w' => Below w.heap.size w w' ∧ ∃ r : Int, e = .returned (.int .i64 r) ∧ (r < 0 ∨ (is.length ≤ 1048576 ∧ 0 ≤ r ∧ r ≤ l)) := by
  have hb0 : Below w.heap.size w (w.alloc (.cells #[.string n, .slice a is.length cap] 199)) := (Below.refl _ _).alloc (Nat.le_refl _) _
  unfold maxLen at hn
  by_cases h : l - n.size < 0
  · go_enter Tryz.func133, Tryz.ntmps133
    go_wp2
    go_ret
    exact ⟨hb0, _, rfl, by omega⟩
  · go_enter Tryz.func133, Tryz.ntmps133
    go_wp2_with fail
    refine (szProgram_left a cap is (l - n.size) _ (by omega) (by omega) (hc.below hb0) hl hs).mono ?_
    rintro e w1 ⟨hb1, r, rfl, hr⟩
    have hB1 := bt hb0 hb1
    clear hb0 hb1
    go_wp2
    all_goals go_ret
    · exact ⟨hB1, -1, rfl, by omega⟩
    · exact ⟨hB1, r, rfl, by omega⟩
set_option maxHeartbeats 1000000 in
theorem szSS_any (a : Option Addr) (cap : Nat) (is : List S2) (lft : Int) (w : World) (hf0 : 0 ≤ lft) (hf1 : lft ≤ 1048576) (hc : RowS w a is) (hl : is.length ≤ maxLen) (hs : ∀ i, (sx is i).name.size ≤ maxLen) (ht : ∀ i, (sx is i).text.size ≤ maxLen) :
    Calls Tryz.prog 71 #[.slice a is.length cap, .int .i64 lft] w fun e w' => Below w.heap.size w w' ∧ ∃ r : Int, e = .returned (.int .i64 r) ∧ (r < 0 ∨ ((is.length : Int) ≤ lft ∧ 0 ≤ r ∧ r ≤ lft)) := by
  have hl' := hl
  unfold maxLen at hl'
  by_cases h0 : (is.length : Int) ≤ lft
  · go_enter Tryz.func71, Tryz.ntmps71
    go_wp2
    go_loopw [1, 5] (fun l i wr => ∃ k : Nat, ∃ q : Int, k ≤ is.length ∧ i = .int .i64 k ∧ l = .int .i64 q ∧ 0 ≤ q ∧ q ≤ lft ∧ Below w.heap.size w wr) (fun _ i _ => is.length - (intOf i).toNat)
    case atStart => exact ⟨0, _, Nat.zero_le _, rfl, rfl, by omega, by omega, Below.refl _ _⟩
    case round =>
      obtain ⟨k, q, hk, rfl, rfl, hq0, hq1, hbr⟩ := hrel
      by_cases hlt : k < is.length
      · obtain ⟨b, off, rfl, c1, c2⟩ := (hc.below hbr) k hlt
        have hsk := hs k
        have htk := ht k
        clear hs ht hc
        generalize sx is k = i at *
        go_wp2_with fail
        refine (szSource_any i _ _ (by omega) (by omega) hsk htk).mono ?_
        rintro e w1 ⟨hb1, r, rfl, hr⟩
        rcases hr with hr | hr
        · go_wp2
          go_ret
          exact ⟨hbr.trans (hb1.mono hbr.size), -1, rfl, by omega⟩
        · have hr0 : 0 ≤ r := by omega
          have hr1 : r ≤ q := by omega
          go_wp2
          go_roundw
          case rel => exact ⟨k + 1, _, by omega, by go_num, rfl, by omega, by omega, hbr.trans (hb1.mono hbr.size)⟩
          case measure => simp [intOf]; omega
      · go_wp2
        go_ret
        exact ⟨hbr, _, rfl, by omega⟩
  · go_enter Tryz.func71, Tryz.ntmps71
    go_wp2
    go_ret
    exact ⟨Below.refl _ _, -1, rfl, by omega⟩
set_option maxHeartbeats 1000000 in
theorem szTS_any (a : Option Addr) (cap : Nat) (is : List T2) (lft : Int) (w : World) (hf0 : 0 ≤ lft) (hf1 : lft ≤ 1048576) (hc : RowT w a is) (hl : is.length ≤ maxLen) (hs : ∀ i, (tx is i).name.size ≤ maxLen) (ht : ∀ i, (tx is i).code.length ≤ maxLen) (hu : ∀ i j, (ix (tx is i).code j).text.size ≤ maxLen) :
    Calls Tryz.prog 72 #[.slice a is.length cap, .int .i64 lft] w fun e w' => Below w.heap.size w w' ∧ ∃ r : Int, e = .returned (.int .i64 r) ∧ (r < 0 ∨ ((is.length : Int) ≤ lft ∧ 0 ≤ r ∧ r ≤ lft ∧ ∀ i, i < is.length → (tx is i).code.length ≤ 1048576)) := by
  have hl' := hl
  unfold maxLen at hl'
  by_cases h0 : (is.length : Int) ≤ lft
  · go_enter Tryz.func72, Tryz.ntmps72
    go_wp2
    go_loopw [1, 5] (fun l i wr => ∃ k : Nat, ∃ q : Int, k ≤ is.length ∧ i = .int .i64 k ∧ l = .int .i64 q ∧ 0 ≤ q ∧ q ≤ lft ∧ Below w.heap.size w wr ∧ Hid (∀ i, i < k → (tx is i).code.length ≤ 1048576)) (fun _ i _ => is.length - (intOf i).toNat)
    case atStart => exact ⟨0, _, Nat.zero_le _, rfl, rfl, by omega, by omega, Below.refl _ _, (fun i hi => by omega : ∀ i, i < 0 → (tx is i).code.length ≤ 1048576)⟩
    case round =>
      obtain ⟨k, q, hk, rfl, rfl, hq0, hq1, hbr, HK⟩ := hrel
      by_cases hlt : k < is.length
      · obtain ⟨b, off, rfl, c1, a', cap', c2, c3⟩ := (hc.below hbr) k hlt
        have hsk := hs k
        have htk := ht k
        have huk := hu k
        clear hs ht hc
        obtain ⟨i, ei⟩ : ∃ i, tx is k = i := ⟨_, rfl⟩
        rw [ei] at c1 c2 c3 hsk htk huk
        have EI : Hid (tx is k = i) := ei
        clear ei
        go_wp2_with fail
        refine (szTarget_any i.name a' cap' i.code _ _ (by omega) (by omega) hsk c3 htk huk).mono ?_
        rintro e w1 ⟨hb1, r, rfl, hr⟩
        rcases hr with hr | hr
        · go_wp2
          go_ret
          exact ⟨hbr.trans (hb1.mono hbr.size), -1, rfl, Or.inl (by omega)⟩
        · have hr0 : 0 ≤ r := by omega
          have hr1 : r ≤ q := by omega
          go_wp2
          go_roundw
          case rel => exact ⟨k + 1, _, by omega, by go_num, rfl, by omega, by omega, hbr.trans (hb1.mono hbr.size), ext_succ HK.out (by rw [EI.out]; omega)⟩
          case measure => simp [intOf]; omega
      · go_wp2
        go_ret
        exact ⟨hbr, _, rfl, by refine Or.inr ⟨by omega, by omega, by omega, fun i hi => HK.out i (by omega)⟩⟩
  · go_enter Tryz.func72, Tryz.ntmps72
    go_wp2
    go_ret
    exact ⟨Below.refl _ _, -1, rfl, Or.inl (by omega)⟩
structure SpOk (w : World) (sa : Option Addr) (ss : List S2) (ta : Option Addr) (ts : List T2) : Prop where
  rs : RowS w sa ss
  rt : RowT w ta ts
  ls : ss.length ≤ maxLen
  lt : ts.length ≤ maxLen
  ns : ∀ i, (sx ss i).name.size ≤ maxLen
  xs : ∀ i, (sx ss i).text.size ≤ maxLen
  nt : ∀ i, (tx ts i).name.size ≤ maxLen
  lc : ∀ i, (tx ts i).code.length ≤ maxLen
  xt : ∀ i j, (ix (tx ts i).code j).text.size ≤ maxLen
structure SpSmall (ss : List S2) (ts : List T2) : Prop where
  ls : ss.length ≤ 1048576
  lt : ts.length ≤ 1048576
  lc : ∀ i, i < ts.length → (tx ts i).code.length ≤ 1048576
set_option maxHeartbeats 400000 in
theorem szSpace_any (sa ta : Option Addr) (c1 c2 : Nat) (ss : List S2) (ts : List T2) (w : World) (h : SpOk w sa ss ta ts) :
    Calls Tryz.prog 24 #[.agg #[.slice sa ss.length c1, .slice ta ts.length c2], .int .i64 1048576] w fun e w' => Below w.heap.size w w' ∧ ∃ r : Int, e = .returned (.int .i64 r) ∧ (r < 0 ∨ (SpSmall ss ts ∧ 0 ≤ r)) := by
  have hb0 : Below w.heap.size w (w.alloc (.cells #[.slice sa ss.length c1, .slice ta ts.length c2] 71)) := (Below.refl _ _).alloc (Nat.le_refl _) _
  have k0 : (w.alloc (.cells #[.slice sa ss.length c1, .slice ta ts.length c2] 71)).cell? ⟨w.heap.size, 1, none⟩ = some (.slice ta ts.length c2) := by simp [go_sem]
  obtain ⟨rs, rt, ls, lt, ns, xs, nt, lc, xt⟩ := h
  go_enter Tryz.func24, Tryz.ntmps24
  go_wp2_with fail
  refine (szSS_any sa c1 ss 1048576 _ (by omega) (by omega) (rs.below hb0) ls ns xs).mono ?_
  rintro e w1 ⟨hb1, r, rfl, hr⟩
  have hB1 := bt hb0 hb1
  have k1 := cell_below hb1 k0
  rcases hr with hr | ⟨h1, hr0, hr1⟩
  · clear hb0 hb1 k0
    go_wp2
    go_ret
    exact ⟨hB1, -1, rfl, Or.inl (by omega)⟩
  · clear hb0 hb1 k0
    go_wp2_with fail
    refine (szTS_any ta c2 ts r _ (by omega) (by omega) (rt.below hB1) lt nt lc xt).mono ?_
    rintro e w2 ⟨hb2, r2, rfl, hr2⟩
    have hB2 := bt hB1 hb2
    clear hb2 hB1 k1
    rcases hr2 with hr2 | ⟨h2, hr2, hr3, h3⟩
    · go_wp2
      go_ret
      exact ⟨hB2, -1, rfl, Or.inl (by omega)⟩
    · go_wp2
      go_ret
      exact ⟨hB2, r2, rfl, Or.inr ⟨⟨by omega, by omega, h3⟩, by omega⟩⟩
end Go.Proofs.YtmeojnaoljgieaeGreatDoor
namespace Go.Proofs.YtmeojnaoljgieaeGreatDoor
open Go.ChangeShapes Go.WideShapes Go.ChangeAt Go.RowKit Go.Deep
set_option linter.unusedVariables false

theorem Tryz.cells71 : Tryz.prog.cellsOf 71 = 2 := by kernel_rfl
theorem Tryz.cells68 : Tryz.prog.cellsOf 68 = 1 := by kernel_rfl
theorem Tryz.cells69 : Tryz.prog.cellsOf 69 = 1 := by kernel_rfl
theorem Tryz.cells196 : Tryz.prog.cellsOf 196 = 2 := by kernel_rfl
theorem Tryz.cells199 : Tryz.prog.cellsOf 199 = 2 := by kernel_rfl

section
variable {H : Type} {enc : TypeId × Value → H} {W : World} {base : Nat} {spare : Nat → Bool} {held : Bool}

theorem open_source {fuel : Nat} {cs : List Value} {x : DataW H × List MemPlace} (h : DataW.trod enc Tryz.prog W base spare held fuel 196 cs = some x) :
    ∃ i : S2, cs = [.string i.name, .string i.text] ∧ i.name.size ≤ maxLen ∧ i.text.size ≤ maxLen := by
  obtain ⟨y0, y1, n, _, hl, h0, h1⟩ := trod_struct2 Tryz.underlying196 h
  rw [Tryz.cells196] at hl
  simp only [Tryz.cells9] at h0 h1
  match cs, hl with
  | [c0, c1], _ =>
    obtain ⟨s, e0, _, hs⟩ := DataW.trod_string Tryz.underlying9 h0
    obtain ⟨t, e1, _, ht⟩ := DataW.trod_string Tryz.underlying9 h1
    simp at e0 e1
    subst e0; subst e1
    exact ⟨⟨s, t⟩, rfl, hs, ht⟩

theorem open_target {fuel : Nat} {cs : List Value} {x : DataW H × List MemPlace} (h : DataW.trod enc Tryz.prog W base spare held fuel 199 cs = some x) :
    ∃ (i : T2) (a : Option Addr) (cap : Nat), cs = [.string i.name, .slice a i.code.length cap] ∧ Row3 W a i.code ∧ i.name.size ≤ maxLen ∧ i.code.length ≤ maxLen ∧ ∀ j, (ix i.code j).text.size ≤ maxLen := by
  obtain ⟨y0, y1, n, _, hl, h0, h1⟩ := trod_struct2 Tryz.underlying199 h
  rw [Tryz.cells199] at hl
  simp only [Tryz.cells9, Tryz.cells47] at h0 h1
  match cs, hl with
  | [c0, c1], _ =>
    obtain ⟨s, e0, _, hs⟩ := DataW.trod_string Tryz.underlying9 h0
    simp at e0
    subst e0
    obtain ⟨z0, m, _, _, h2⟩ := trod_struct1 Tryz.underlying47 h1
    simp only [Tryz.cells45] at h2
    obtain ⟨a, cap, is, e1, r1, r2, r3⟩ := open_code (c := c1) (by simpa using h2)
    subst e1
    exact ⟨⟨s, is⟩, a, cap, rfl, r1, hs, r2, r3⟩

theorem open_sources {fuel : Nat} {c : Value} {x : DataW H × List MemPlace} (h : DataW.trod enc Tryz.prog W base spare held fuel 68 [c] = some x) :
    ∃ (a : Option Addr) (cap : Nat) (is : List S2), c = .slice a is.length cap ∧ RowS W a is ∧ is.length ≤ maxLen ∧ (∀ i, (sx is i).name.size ≤ maxLen) ∧ ∀ i, (sx is i).text.size ≤ maxLen := by
  rcases open_slice Tryz.underlying68 h with ⟨hcs, _⟩ | ⟨a, len, cap, m, n, D, Pl, hcs, _, hl, hm, hmm, _, hx⟩
  · simp at hcs
    subst hcs
    exact ⟨none, 0, [], rfl, fun i hi => by simp at hi, by simp, fun i => by simp [sx], fun i => by simp [sx]⟩
  · simp at hcs
    subst hcs
    rw [Tryz.cells196] at hx
    have hlm : len ≤ m := by rw [hmm]; split <;> omega
    have hex : ∀ i, i < len → ∃ t : S2, W.cell? ((a.add (i * 2)).add 0) = some (.string t.name) ∧ W.cell? ((a.add (i * 2)).add 1) = some (.string t.text) ∧ t.name.size ≤ maxLen ∧ t.text.size ≤ maxLen := by
      intro i hi
      obtain ⟨cs', hc, ht⟩ := hx i (by omega)
      obtain ⟨t, rfl, hts⟩ := open_source ht
      have hs := World.cells?_some hc
      exact ⟨t, by simpa using hs.2.2 0 (by omega), by simpa using hs.2.2 1 (by omega), hts⟩
    let f : Nat → S2 := fun i => if h : i < len then Classical.choose (hex i h) else ⟨ByteArray.empty, ByteArray.empty⟩
    have hf : ∀ i, (h : i < len) → W.cell? ((a.add (i * 2)).add 0) = some (.string (f i).name) ∧ W.cell? ((a.add (i * 2)).add 1) = some (.string (f i).text) ∧ (f i).name.size ≤ maxLen ∧ (f i).text.size ≤ maxLen := by
      intro i h
      have : f i = Classical.choose (hex i h) := by simp only [f, dif_pos h]
      rw [this]; exact Classical.choose_spec (hex i h)
    have hix : ∀ i, i < len → sx ((List.range len).map f) i = f i := by
      intro i h
      simp [sx, List.getD_eq_getElem?_getD, h]
    refine ⟨some a, cap, (List.range len).map f, by simp, ?_, by simp; omega, ?_, ?_⟩
    · intro i hi
      have hi' : i < len := by simpa using hi
      obtain ⟨h1, h2, _⟩ := hf i hi'
      rw [hix i hi']
      obtain ⟨b, off, spot⟩ := a
      have hspot : spot = none := by
        have := World.cell?_spot (hf 0 (by omega)).1
        simpa [Addr.add] using this
      subst hspot
      simp only [Addr.add_lit] at h1 h2
      exact ⟨b, off, rfl, h1, h2⟩
    · intro i
      by_cases h : i < len
      · rw [hix i h]; exact (hf i h).2.2.1
      · simp [sx, List.getD_eq_getElem?_getD, h]
    · intro i
      by_cases h : i < len
      · rw [hix i h]; exact (hf i h).2.2.2
      · simp [sx, List.getD_eq_getElem?_getD, h]

theorem open_targets {fuel : Nat} {c : Value} {x : DataW H × List MemPlace} (h : DataW.trod enc Tryz.prog W base spare held fuel 69 [c] = some x) :
    ∃ (a : Option Addr) (cap : Nat) (is : List T2), c = .slice a is.length cap ∧ RowT W a is ∧ is.length ≤ maxLen ∧ (∀ i, (tx is i).name.size ≤ maxLen) ∧ (∀ i, (tx is i).code.length ≤ maxLen) ∧ ∀ i j, (ix (tx is i).code j).text.size ≤ maxLen := by
  rcases open_slice Tryz.underlying69 h with ⟨hcs, _⟩ | ⟨a, len, cap, m, n, D, Pl, hcs, _, hl, hm, hmm, _, hx⟩
  · simp at hcs
    subst hcs
    exact ⟨none, 0, [], rfl, fun i hi => by simp at hi, by simp, fun i => by simp [tx], fun i => by simp [tx], fun i j => by simp [tx, ix, i0]⟩
  · simp at hcs
    subst hcs
    rw [Tryz.cells199] at hx
    have hlm : len ≤ m := by rw [hmm]; split <;> omega
    have hex : ∀ i, i < len → ∃ t : T2, W.cell? ((a.add (i * 2)).add 0) = some (.string t.name) ∧ (∃ a' cap', W.cell? ((a.add (i * 2)).add 1) = some (.slice a' t.code.length cap') ∧ Row3 W a' t.code) ∧ t.name.size ≤ maxLen ∧ t.code.length ≤ maxLen ∧ ∀ j, (ix t.code j).text.size ≤ maxLen := by
      intro i hi
      obtain ⟨cs', hc, ht⟩ := hx i (by omega)
      obtain ⟨t, a', cap', rfl, hr, hts⟩ := open_target ht
      have hs := World.cells?_some hc
      exact ⟨t, by simpa using hs.2.2 0 (by omega), ⟨a', cap', by simpa using hs.2.2 1 (by omega), hr⟩, hts⟩
    let f : Nat → T2 := fun i => if h : i < len then Classical.choose (hex i h) else ⟨ByteArray.empty, []⟩
    have hf : ∀ i, (h : i < len) → W.cell? ((a.add (i * 2)).add 0) = some (.string (f i).name) ∧ (∃ a' cap', W.cell? ((a.add (i * 2)).add 1) = some (.slice a' (f i).code.length cap') ∧ Row3 W a' (f i).code) ∧ (f i).name.size ≤ maxLen ∧ (f i).code.length ≤ maxLen ∧ ∀ j, (ix (f i).code j).text.size ≤ maxLen := by
      intro i h
      have : f i = Classical.choose (hex i h) := by simp only [f, dif_pos h]
      rw [this]; exact Classical.choose_spec (hex i h)
    have hix : ∀ i, i < len → tx ((List.range len).map f) i = f i := by
      intro i h
      simp [tx, List.getD_eq_getElem?_getD, h]
    refine ⟨some a, cap, (List.range len).map f, by simp, ?_, by simp; omega, ?_, ?_, ?_⟩
    · intro i hi
      have hi' : i < len := by simpa using hi
      obtain ⟨h1, ⟨a', cap', h2, h3⟩, _⟩ := hf i hi'
      rw [hix i hi']
      obtain ⟨b, off, spot⟩ := a
      have hspot : spot = none := by
        have := World.cell?_spot (hf 0 (by omega)).1
        simpa [Addr.add] using this
      subst hspot
      simp only [Addr.add_lit] at h1 h2
      exact ⟨b, off, rfl, h1, a', cap', h2, h3⟩
    · intro i
      by_cases h : i < len
      · rw [hix i h]; exact (hf i h).2.2.1
      · simp [tx, List.getD_eq_getElem?_getD, h]
    · intro i
      by_cases h : i < len
      · rw [hix i h]; exact (hf i h).2.2.2.1
      · simp [tx, List.getD_eq_getElem?_getD, h]
    · intro i j
      by_cases h : i < len
      · rw [hix i h]; exact (hf i h).2.2.2.2 j
      · simp [tx, List.getD_eq_getElem?_getD, h, ix, i0]

set_option maxRecDepth 100000 in
theorem open_space {r : Reach} {b0 : Nat} {v : Value} {d : DataW H} {p : List MemPlace} (hv : Value.okWide Tryz.prog W r b0 71 v) (h : DataW.Trod enc Tryz.prog W base spare held 71 v d p) :
    ∃ (sa : Option Addr) (c1 : Nat) (ss : List S2) (ta : Option Addr) (c2 : Nat) (ts : List T2), v = .agg #[.slice sa ss.length c1, .slice ta ts.length c2] ∧ SpOk W sa ss ta ts := by
  obtain ⟨cs, rfl, hsz⟩ := okWide_struct Tryz.underlying71 hv
  rw [Tryz.cells71] at hsz
  obtain ⟨fuel, hf⟩ := h
  obtain ⟨y0, y1, n, _, _, h0, h1⟩ := trod_struct2 Tryz.underlying71 hf
  simp only [Tryz.cells68, Tryz.cells69] at h0 h1
  obtain ⟨l⟩ := cs
  match l, hsz with
  | [k0, k1], _ =>
    simp only [Value.cells] at h0 h1
    obtain ⟨sa, c1, ss, e0, a1, a2, a3, a4⟩ := open_sources (c := k0) (by simpa using h0)
    obtain ⟨ta, c2, ts, e1, b1, b2, b3, b4, b5⟩ := open_targets (c := k1) (by simpa using h1)
    subst e0; subst e1
    exact ⟨sa, c1, ss, ta, c2, ts, rfl, ⟨a1, b1, a2, b2, a3, a4, b3, b4, b5⟩⟩
end

end Go.Proofs.YtmeojnaoljgieaeGreatDoor
