/-
  impl: the writers of a store's lines.
-/
import Derived.Test.YtmeojnaoljgieadGreatDoorPrB
namespace Go.Proofs.YtmeojnaoljgieadGreatDoor
open Go.RowKit
set_option linter.unusedVariables false

theorem hexb_succ (s : ByteArray) (k : Nat) (h : k < s.size) : hexbL (s.data.toList.take (k + 1)) = hexbL (s.data.toList.take k) ++ [hexd (s[k].toNat / 16), hexd (s[k].toNat % 16)] := by
  rw [take_snocQ s k h]
  simp [hexbL]

set_option maxHeartbeats 1000000 in
theorem printSum_any (s : ByteArray) (w : World) (hs : s.size ≤ 2002) :
    Calls Tryz.prog 131 #[.string s] w fun e w' => e = .returned (.string (bB (hexbL s.data.toList))) ∧ Below w.heap.size w w' := by
  have hI0 := Lib.fresh_isBuilder 91 5 w
  have hb0 : Below w.heap.size w (w.alloc (.cells #[.pointer none, .slice none 0 0] 91)) := (Below.refl _ _).alloc (Nat.le_refl _) _
  go_enter Tryz.func131, Tryz.ntmps131
  go_wp2
  go_loopw [7] (fun i wr => ∃ k : Nat, k ≤ s.size ∧ i = .int .i64 k ∧ Lib.IsBuilder 91 5 w.heap.size w.heap.size (Lib.byteCells (hexbL (s.data.toList.take k))) wr ∧ Below w.heap.size w wr) (fun i _ => s.size - (intOf i).toNat)
  case atStart => exact ⟨0, Nat.zero_le _, rfl, by simpa [hexbL, Lib.byteCells] using hI0, hb0⟩
  case round =>
    clear hI0 hb0
    obtain ⟨k, hk, rfl, hI, hB⟩ := hrel
    have hsz := hB.size
    have hql : (hexbL (s.data.toList.take k)).length ≤ 2 * s.size := by rw [hexbL_length, List.length_take, Array.length_toList]; have : s.data.size = s.size := rfl; omega
    by_cases hlt : k < s.size
    · have HQ : Hid (hexbL (s.data.toList.take (k + 1)) = hexbL (s.data.toList.take k) ++ [hexd (s[k].toNat / 16), hexd (s[k].toNat % 16)]) := hexb_succ s k hlt
      go_wp2_with fail
      refine (writeHex_any w.heap.size w.heap.size _ s[k] _ hI (by omega) hsz).mono ?_
      rintro e w4 ⟨⟨v4, rfl⟩, hI4, hb4⟩
      have hB4 := hB.trans hb4
      have HI4 : Hid (Lib.IsBuilder 91 5 w.heap.size w.heap.size (Lib.byteCells (hexbL (s.data.toList.take (k + 1)))) w4) := by show Lib.IsBuilder _ _ _ _ _ _; rw [HQ.out]; exact hI4
      clear hI hI4 hb4 hB
      go_wp2
      go_roundw
      case rel => exact ⟨k + 1, by omega, by go_num, HI4.out, hB4⟩
      case measure => simp [intOf]; omega
    · have ek : k = s.size := by omega
      have HE : Hid (hexbL (s.data.toList.take k) = hexbL s.data.toList) := by
        show _ = _
        rw [List.take_of_length_le (by rw [Array.length_toList]; show s.size ≤ k; omega)]
      clear ek
      rw [HE.out] at hI
      go_wp2_with fail
      refine (Tryz.Builder_String_any w.heap.size w.heap.size _ _ hI hsz).mono ?_
      rintro e w3 ⟨rfl, hb3⟩
      go_wp2
      go_ret
      exact ⟨rfl, hB.trans hb3⟩

theorem cells2 (w : World) (x y : ByteArray) : ∀ (j : Nat) z, [x, y][j]? = some z → (w.alloc (.cells #[.string x, .string y] 9)).cell? ⟨w.heap.size, 0 + j, none⟩ = some (.string z) := by
  intro j z h
  match j with
  | 0 => simp at h; subst h; simp [go_sem]
  | 1 => simp at h; subst h; simp [go_sem]
  | j + 2 => simp at h
theorem cells3w (w : World) (x y u : ByteArray) : ∀ (j : Nat) z, [x, y, u][j]? = some z → (w.alloc (.cells #[.string x, .string y, .string u] 9)).cell? ⟨w.heap.size, 0 + j, none⟩ = some (.string z) := by
  intro j z h
  match j with
  | 0 => simp at h; subst h; simp [go_sem]
  | 1 => simp at h; subst h; simp [go_sem]
  | 2 => simp at h; subst h; simp [go_sem]
  | j + 3 => simp at h
theorem cells1 (w : World) (x : ByteArray) : ∀ (j : Nat) z, [x][j]? = some z → (w.alloc (.cells #[.string x] 9)).cell? ⟨w.heap.size, 0 + j, none⟩ = some (.string z) := by
  intro j z h
  match j with
  | 0 => simp at h; subst h; simp [go_sem]
  | j + 1 => simp at h
theorem join2 (x y : List UInt8) : Lib.join [x, y] [32] = x ++ [32] ++ y := by simp [Lib.join]
theorem join3 (x y z : List UInt8) : Lib.join [x, y, z] [32] = x ++ [32] ++ y ++ [32] ++ z := by simp [Lib.join]
theorem join1 (x : List UInt8) : Lib.join [x] [32] = x := by simp [Lib.join]
/-- A line of two words, in a row of their own. -/
theorem line2_any (B b : Nat) (c l : List UInt8) (x y : ByteArray) (w : World) (hI : Lib.IsBuilder 91 5 B b (Lib.byteCells c) w) (hB : B ≤ w.heap.size) (hl : x.data.toList ++ [32] ++ y.data.toList = l) (hlen : c.length + l.length ≤ 9000000) :
    Calls Tryz.prog 46 #[.pointer (some ⟨b, 0, none⟩), .slice (some ⟨w.heap.size, 0, none⟩) 2 2] (w.alloc (.cells #[.string x, .string y] 9)) fun e w' => WrP B b w (c ++ nl l) e w' := by
  have h := writeLine_any B b w.heap.size 2 c [x, y] (w.alloc (.cells #[.string x, .string y] 9)) (builder_below hI ((Below.refl _ _).alloc (Nat.le_refl _) _)) (by simp; omega) (cells2 w x y) (by simp) (by simp) (by simp) (by simp only [List.map_cons, List.map_nil]; rw [join2, hl]; exact hlen)
  simp only [List.map_cons, List.map_nil] at h
  rw [join2, hl] at h
  refine h.mono ?_
  rintro e w' ⟨h1, h2, h3, h4⟩
  exact ⟨h1, h2, ((Below.refl _ _).alloc hB _).trans h3, (Keep5.alloc _ _ _).trans h4⟩
theorem line3_any (B b : Nat) (c l : List UInt8) (x y u : ByteArray) (w : World) (hI : Lib.IsBuilder 91 5 B b (Lib.byteCells c) w) (hB : B ≤ w.heap.size) (hl : x.data.toList ++ [32] ++ y.data.toList ++ [32] ++ u.data.toList = l) (hlen : c.length + l.length ≤ 9000000) :
    Calls Tryz.prog 46 #[.pointer (some ⟨b, 0, none⟩), .slice (some ⟨w.heap.size, 0, none⟩) 3 3] (w.alloc (.cells #[.string x, .string y, .string u] 9)) fun e w' => WrP B b w (c ++ nl l) e w' := by
  have h := writeLine_any B b w.heap.size 3 c [x, y, u] (w.alloc (.cells #[.string x, .string y, .string u] 9)) (builder_below hI ((Below.refl _ _).alloc (Nat.le_refl _) _)) (by simp; omega) (cells3w w x y u) (by simp) (by simp) (by simp) (by simp only [List.map_cons, List.map_nil]; rw [join3, hl]; exact hlen)
  simp only [List.map_cons, List.map_nil] at h
  rw [join3, hl] at h
  refine h.mono ?_
  rintro e w' ⟨h1, h2, h3, h4⟩
  exact ⟨h1, h2, ((Below.refl _ _).alloc hB _).trans h3, (Keep5.alloc _ _ _).trans h4⟩
theorem line1_any (B b : Nat) (c l : List UInt8) (x : ByteArray) (w : World) (hI : Lib.IsBuilder 91 5 B b (Lib.byteCells c) w) (hB : B ≤ w.heap.size) (hl : x.data.toList = l) (hlen : c.length + l.length ≤ 9000000) :
    Calls Tryz.prog 46 #[.pointer (some ⟨b, 0, none⟩), .slice (some ⟨w.heap.size, 0, none⟩) 1 1] (w.alloc (.cells #[.string x] 9)) fun e w' => WrP B b w (c ++ nl l) e w' := by
  have h := writeLine_any B b w.heap.size 1 c [x] (w.alloc (.cells #[.string x] 9)) (builder_below hI ((Below.refl _ _).alloc (Nat.le_refl _) _)) (by simp; omega) (cells1 w x) (by simp) (by simp) (by simp) (by simp only [List.map_cons, List.map_nil]; rw [join1, hl]; exact hlen)
  simp only [List.map_cons, List.map_nil] at h
  rw [join1, hl] at h
  refine h.mono ?_
  rintro e w' ⟨h1, h2, h3, h4⟩
  exact ⟨h1, h2, ((Below.refl _ _).alloc hB _).trans h3, (Keep5.alloc _ _ _).trans h4⟩
theorem WrP.after {B b : Nat} {w w1 : World} {c : List UInt8} {e : Ending} {w' : World} (h : WrP B b w1 c e w') (hb : Below w.heap.size w w1) (hB : B ≤ w.heap.size) : WrP B b w c e w' := ⟨h.1, h.2.1, (hb.mono hB).trans h.2.2.1, (Keep5.below hb).trans h.2.2.2⟩

set_option maxHeartbeats 1000000 in
theorem writeText_any (B b : Nat) (c : List UInt8) (x : ByteArray) (w : World) (hI : Lib.IsBuilder 91 5 B b (Lib.byteCells c) w) (hB : B ≤ w.heap.size) (hx : x.size ≤ 2002) (hc : c.length ≤ 8000000) :
    Calls Tryz.prog 49 #[.pointer (some ⟨b, 0, none⟩), .string x] w fun e w' => WrP B b w (c ++ nl (txtL x)) e w' := by
  have hq := quoteL_length x.data.toList
  have he : x.data.toList.length = x.size := by rw [Array.length_toList]; rfl
  have hq2 : (quoteL x.data.toList).length ≤ 6008 := by omega
  clear he
  have HQ : Hid (∀ W : World, Calls Tryz.prog 130 #[.string x] W fun e w' => e = .returned (.string (bB (quoteL x.data.toList))) ∧ Below W.heap.size W w') := fun W => quote_any x W hx
  have HL : Hid (∀ W : World, Lib.IsBuilder 91 5 B b (Lib.byteCells c) W → B ≤ W.heap.size → Calls Tryz.prog 46 #[.pointer (some ⟨b, 0, none⟩), .slice (some ⟨W.heap.size, 0, none⟩) 2 2] (W.alloc (.cells #[.string ⟨#[116, 101, 120, 116]⟩, .string (bB (quoteL x.data.toList))] 9)) fun e w' => WrP B b W (c ++ nl (txtL x)) e w') := fun W h1 h2 => line2_any B b c _ _ _ W h1 h2 (by simp [txtL, bB]) (by simp [txtL]; omega)
  generalize bB (quoteL x.data.toList) = q at *
  clear hq hq2
  go_enter Tryz.func49, Tryz.ntmps49
  go_wp2_with fail
  refine (HQ.out _).mono ?_
  rintro e w1 ⟨rfl, hb1⟩
  have HI1 : Hid (Lib.IsBuilder 91 5 B b (Lib.byteCells c) w1) := builder_below hI hb1
  have hs1 := hb1.size
  clear hI
  go_wp2_with fail
  refine (HL.out w1 HI1.out (by omega)).mono ?_
  rintro e w2 ⟨rfl, k1, k2, k3⟩
  have HO : Hid (WrP B b w (c ++ nl (txtL x)) (.returned (.tuple #[])) w2) := WrP.after ⟨rfl, k1, k2, k3⟩ hb1 hB
  clear k1 k2 k3 hb1
  go_wp2
  exact bodyPost_end (v := .tuple #[]) (by simp [results, Tryz.results49, go_sem]) rfl HO.out

set_option maxHeartbeats 1000000 in
theorem writeIns_any (B b : Nat) (c : List UInt8) (i : I3) (w : World) (hI : Lib.IsBuilder 91 5 B b (Lib.byteCells c) w) (hB : B ≤ w.heap.size) (hok : insOk i = true) (hT : Tab w) (hP : P10 w) (hc : c.length ≤ 8000000) :
    Calls Tryz.prog 133 #[.pointer (some ⟨b, 0, none⟩), .agg #[.int .i64 i.op, .string i.text, .int .i64 i.n]] w fun e w' => WrP B b w (c ++ nl (doL i)) e w' := by
  have hll := lineL_length hok
  have hb0 : Below w.heap.size w (w.alloc (.cells #[.int .i64 i.op, .string i.text, .int .i64 i.n] 207)) := (Below.refl _ _).alloc (Nat.le_refl _) _
  have HQ : Hid (∀ _ : Unit, Calls Tryz.prog 212 #[.agg #[.int .i64 i.op, .string i.text, .int .i64 i.n]] (w.alloc (.cells #[.int .i64 i.op, .string i.text, .int .i64 i.n] 207)) fun e w' => e = .returned (.string (bB (lineL i))) ∧ Below (w.alloc (.cells #[.int .i64 i.op, .string i.text, .int .i64 i.n] 207)).heap.size (w.alloc (.cells #[.int .i64 i.op, .string i.text, .int .i64 i.n] 207)) w') := fun _ => printIns_any i _ hok (hT.below hb0) (hP.below hb0)
  have HL : Hid (∀ W : World, Lib.IsBuilder 91 5 B b (Lib.byteCells c) W → B ≤ W.heap.size → Calls Tryz.prog 46 #[.pointer (some ⟨b, 0, none⟩), .slice (some ⟨W.heap.size, 0, none⟩) 2 2] (W.alloc (.cells #[.string ⟨#[100, 111]⟩, .string (bB (lineL i))] 9)) fun e w' => WrP B b W (c ++ nl (doL i)) e w') := fun W h1 h2 => line2_any B b c _ _ _ W h1 h2 (by simp [doL, bB]) (by simp [doL]; omega)
  have HT : Hid (Tab w) := hT
  generalize bB (lineL i) = q at *
  clear hll hT hP
  go_enter Tryz.func133, Tryz.ntmps133
  go_wp2_with fail
  refine (HQ.out ()).mono ?_
  rintro e w1 ⟨rfl, hb1⟩
  have hB1 := bt hb0 hb1
  have HI1 : Hid (Lib.IsBuilder 91 5 B b (Lib.byteCells c) w1) := builder_below hI hB1
  have hs1 := hB1.size
  clear hI hb0 hb1
  go_wp2_with fail
  refine (HL.out w1 HI1.out (by omega)).mono ?_
  rintro e w2 ⟨rfl, k1, k2, k3⟩
  have HO : Hid (WrP B b w (c ++ nl (doL i)) (.returned (.tuple #[])) w2) := WrP.after ⟨rfl, k1, k2, k3⟩ hB1 hB
  clear k1 k2 k3
  go_wp2
  exact bodyPost_end (v := .tuple #[]) (by simp [results, Tryz.results133, go_sem]) rfl HO.out

set_option maxRecDepth 100000 in
set_option maxHeartbeats 2000000 in
theorem writeLook_any (B b : Nat) (c : List UInt8) (g : G3) (w : World) (hI : Lib.IsBuilder 91 5 B b (Lib.byteCells c) w) (hB : B ≤ w.heap.size) (hn : g.name.size ≤ 2002) (hs : g.sum.size ≤ 2002) (hc : c.length ≤ 8000000) :
    Calls Tryz.prog 135 #[.pointer (some ⟨b, 0, none⟩), .agg #[.string g.name, .bool g.ask, .string g.sum]] w fun e w' => WrP B b w (c ++ nl (lookL g)) e w' := by
  obtain ⟨gn, ga, gs⟩ := g
  simp only at hn hs
  obtain ⟨W, eW⟩ : ∃ y, w.alloc (.cells #[.string gn, .bool ga, .string gs] 211) = y := ⟨_, rfl⟩
  have hb0 : Below w.heap.size w W := by rw [← eW]; exact (Below.refl _ _).alloc (Nat.le_refl _) _
  have d0 : W.cell? ⟨w.heap.size, 0, none⟩ = some (.string gn) := by rw [← eW]; simp [go_sem]
  have d1 : W.cell? ⟨w.heap.size, 1, none⟩ = some (.bool ga) := by rw [← eW]; simp [go_sem]
  have d2 : W.cell? ⟨w.heap.size, 2, none⟩ = some (.string gs) := by rw [← eW]; simp [go_sem]
  have hql : (hexbL gs.data.toList).length ≤ 4004 := by rw [hexbL_length, Array.length_toList]; have : gs.data.size = gs.size := rfl; omega
  have hnl : gn.data.toList.length ≤ 2002 := by rw [Array.length_toList]; exact hn
  have HP : Hid (∀ V : World, Calls Tryz.prog 131 #[.string gs] V fun e w' => e = .returned (.string (bB (hexbL gs.data.toList))) ∧ Below V.heap.size V w') := fun V => printSum_any gs V hs
  have HI0 : Hid (Lib.IsBuilder 91 5 B b (Lib.byteCells c) W) := builder_below hI hb0
  have hne : w.heap.size ≠ b := by have : b < w.heap.size := (by rcases hI with h | h <;> exact h.lt); omega
  have HBW : Hid (∀ (V V' : World), Below W.heap.size W V → Keep5 b V V' → V'.cell? ⟨w.heap.size, 0, none⟩ = some (.string gn) ∧ V'.cell? ⟨w.heap.size, 2, none⟩ = some (.string gs)) := fun V V' h1 h2 => by
    have hk : W.heap[w.heap.size]? = some (.cells #[.string gn, .bool ga, .string gs] 211 (0, 0)) := by rw [← eW]; exact heap_at_new _ _
    have hv : V.heap[w.heap.size]? = some (.cells #[.string gn, .bool ga, .string gs] 211 (0, 0)) := by rw [h1.block _ (Array.getElem?_eq_some_iff.1 hk).1]; exact hk
    have hv' := h2 _ _ 211 (by decide) hne hv
    constructor <;> rw [Lib.cell_of_heap hv'] <;> rfl
  have hs0 := hb0.size
  have hbd : Below W.heap.size W W.drew := (Below.refl _ _).drew
  clear hI
  cases ga
  · have HL : Hid (∀ V : World, Lib.IsBuilder 91 5 B b (Lib.byteCells c) V → B ≤ V.heap.size → Calls Tryz.prog 46 #[.pointer (some ⟨b, 0, none⟩), .slice (some ⟨V.heap.size, 0, none⟩) 3 3] (V.alloc (.cells #[.string ⟨#[104, 97, 115]⟩, .string gn, .string (bB (hexbL gs.data.toList))] 9)) fun e w' => WrP B b V (c ++ nl (lookL ⟨gn, false, gs⟩)) e w') := fun V h1 h2 => line3_any B b c _ _ _ _ V h1 h2 (by simp [lookL, bB]) (by simp [lookL]; omega)
    generalize lookL ⟨gn, false, gs⟩ = l at *
    generalize bB (hexbL gs.data.toList) = q at *
    go_enter Tryz.func135, Tryz.ntmps135
    go_wp2_with fail
    clear eW
    go_region_held3 (fun w' => w'.cell? ⟨w.heap.size, 0, none⟩ = some (.string gn) ∧ w'.cell? ⟨w.heap.size, 2, none⟩ = some (.string gs))
      (first | (with_reducible exact ⟨g0, g2⟩) | (with_reducible exact ⟨f0, f2⟩) | exact ⟨d0, d2⟩ | exact ⟨cell_below (alB _ _) f0, cell_below (alB _ _) f2⟩ | exact trivial)
      (first | (go_at_call 131; refine (HP.out _).mono ?_; rintro e w1 ⟨rfl, hb1⟩; have hb1 := bt hbd hb1; have f0 := cell_below hb1 d0; have f2 := cell_below hb1 d2) | (go_at_call 46; refine (HL.out w1 (builder_below HI0.out hb1) (by have := hb1.size; omega)).mono ?_; rintro e w2 ⟨rfl, k1, k2, k3⟩; have HO : Hid (WrP B b w (c ++ nl l) (.returned (.tuple #[])) w2) := WrP.after (WrP.after ⟨rfl, k1, k2, k3⟩ hb1 (by omega)) hb0 hB; obtain ⟨g0, g2⟩ := HBW.out w1 w2 hb1 k3; clear k1 k2 k3))
    all_goals
      go_wp2
      exact bodyPost_end (v := .tuple #[]) (by simp [results, Tryz.results135, go_sem]) rfl HO.out
  · have HL : Hid (∀ V : World, Lib.IsBuilder 91 5 B b (Lib.byteCells c) V → B ≤ V.heap.size → Calls Tryz.prog 46 #[.pointer (some ⟨b, 0, none⟩), .slice (some ⟨V.heap.size, 0, none⟩) 3 3] (V.alloc (.cells #[.string ⟨#[97, 115, 107]⟩, .string gn, .string (bB (hexbL gs.data.toList))] 9)) fun e w' => WrP B b V (c ++ nl (lookL ⟨gn, true, gs⟩)) e w') := fun V h1 h2 => line3_any B b c _ _ _ _ V h1 h2 (by simp [lookL, bB]) (by simp [lookL]; omega)
    generalize lookL ⟨gn, true, gs⟩ = l at *
    generalize bB (hexbL gs.data.toList) = q at *
    go_enter Tryz.func135, Tryz.ntmps135
    go_wp2_with fail
    clear eW
    go_region_held3 (fun w' => w'.cell? ⟨w.heap.size, 0, none⟩ = some (.string gn) ∧ w'.cell? ⟨w.heap.size, 2, none⟩ = some (.string gs))
      (first | (with_reducible exact ⟨g0, g2⟩) | (with_reducible exact ⟨f0, f2⟩) | exact ⟨d0, d2⟩ | exact ⟨cell_below (alB _ _) f0, cell_below (alB _ _) f2⟩ | exact trivial)
      (first | (go_at_call 131; refine (HP.out _).mono ?_; rintro e w1 ⟨rfl, hb1⟩; have hb1 := bt hbd hb1; have f0 := cell_below hb1 d0; have f2 := cell_below hb1 d2) | (go_at_call 46; refine (HL.out w1 (builder_below HI0.out hb1) (by have := hb1.size; omega)).mono ?_; rintro e w2 ⟨rfl, k1, k2, k3⟩; have HO : Hid (WrP B b w (c ++ nl l) (.returned (.tuple #[])) w2) := WrP.after (WrP.after ⟨rfl, k1, k2, k3⟩ hb1 (by omega)) hb0 hB; obtain ⟨g0, g2⟩ := HBW.out w1 w2 hb1 k3; clear k1 k2 k3))
    all_goals
      go_wp2
      exact bodyPost_end (v := .tuple #[]) (by simp [results, Tryz.results135, go_sem]) rfl HO.out

end Go.Proofs.YtmeojnaoljgieadGreatDoor
