import Derived.Test.YtjdjhenijihpfaaGreatDoorEdO
import Derived.Test.YtjdjhenijihpfaaGreatDoorSrch
import Derived.Test.YtjdjhenijihpfaaGreatDoorPtB
namespace Go.Proofs.YtjdjhenijihpfaaGreatDoor
open Go.RowKit Go.Deep
set_option linter.unusedVariables false

theorem at_true {l : List ByteArray} {t : ByteArray} {r : Nat} (ha : Asc l) (h : At l t r true) : r < l.length ∧ nx l r = t := by
  obtain ⟨j, hj, e⟩ := h.has.mp rfl
  rcases Nat.lt_trichotomy j r with q | q | q
  · have := h.lo j q; rw [e, lessB_irrefl] at this; cases this
  · subst q; exact ⟨hj, e⟩
  · have h1 := h.hi r (Nat.le_refl _) (by omega)
    have h2 := ha.pair q hj
    rw [e, h1] at h2; cases h2
theorem at_false {l : List ByteArray} {t : ByteArray} {r : Nat} (h : At l t r false) : ¬ Has l t := fun q => by have := h.has.mpr q; cases this
theorem asc_inj {l : List ByteArray} (h : Asc l) {i j : Nat} (hi : i < l.length) (hj : j < l.length) (e : nx l i = nx l j) : i = j := by
  rcases Nat.lt_trichotomy i j with q | q | q
  · have := h.pair q hj; rw [e, lessB_irrefl] at this; cases this
  · exact q
  · have := h.pair q hi; rw [e, lessB_irrefl] at this; cases this
/-- A source, or a name that is nothing's. -/
def Easy (ss : List S2) (ts : List T2) (nm : ByteArray) (c : Int) (t : ByteArray) : Prop := (c = 0 ∧ ∃ r, r < ss.length ∧ (sx ss r).name = nm ∧ (sx ss r).text = t) ∨ (c = 4 ∧ t = nm ∧ ¬ Has (snames ss) nm ∧ ¬ Has (tnames ts) nm)
/-- Where the space of the maker lies. -/
structure SpE (W0 : World) (sa ta : Option Addr) (ss : List S2) (ts : List T2) : Prop where
  rs : RowS W0 sa ss
  rt : RowT W0 ta ts
  l1 : ss.length ≤ 1048576
  l2 : ts.length ≤ 1048576
  a1 : Asc (snames ss)
  a2 : Asc (tnames ts)

set_option maxRecDepth 100000 in
set_option maxHeartbeats 8000000 in
theorem makeThing_easy (W0 : World) (h : Nat) (sa ta : Option Addr) (c1 c2 : Nat) (ss : List S2) (ts : List T2) (nm t : ByteArray) (c : Int) (mv av kv fv : Value) (w : World) (hE : SpE W0 sa ta ss ts) (hW : Below W0.heap.size W0 w) (hm : w.heap[h]? = some (.cells #[.slice sa ss.length c1, .slice ta ts.length c2, mv, av, kv, fv] 114 (0, 0))) (hc : Easy ss ts nm c t) :
    Calls Tryz.prog 97 #[.pointer (some ⟨h, 0, none⟩), .string nm] w fun e w' => Below w.heap.size w w' ∧ e = .returned (.agg #[.bool false, .int .i64 c, .string t, .slice none 0 0, .string ⟨#[]⟩, .slice none 0 0]) := by
  have hB := hW.size
  have hhw : h < w.heap.size := blkW_lt hm
  obtain ⟨W, eW⟩ : ∃ W, w.alloc (.cells #[.bool false, .int .i64 0, .string ⟨#[]⟩, .slice none 0 0, .string ⟨#[]⟩, .slice none 0 0] 73) = W := ⟨_, rfl⟩
  have hbW : Below w.heap.size w W := by rw [← eW]; exact (Below.refl _ _).alloc (Nat.le_refl _) _
  have HRB : Hid (W.heap[w.heap.size]? = some (.cells #[.bool false, .int .i64 0, .string ⟨#[]⟩, .slice none 0 0, .string ⟨#[]⟩, .slice none 0 0] 73 (0, 0))) := by
    show _ = _
    rw [← eW]; exact heapW_new _ _
  have HM := hid0 (blk_below hm hbW)
  obtain ⟨⟨x0, x1, _⟩, _⟩ := bk6 HM.out
  have HFS : Hid (∀ V, Below w.heap.size w V → Calls Tryz.prog 26 #[.agg #[.slice sa ss.length c1, .slice ta ts.length c2], .string nm] V fun e w' => Below V.heap.size V w' ∧ ∃ (r : Nat) (b : Bool), e = .returned (.tuple #[.int .i64 r, .bool b]) ∧ At (snames ss) nm r b) := fun V hV => findSource_any sa ta ss.length ts.length c1 c2 ss nm V (hE.rs.below (hW.trans (hV.mono hB))) hE.l1 hE.a1 rfl
  have HFT : Hid (∀ V, Below w.heap.size w V → Calls Tryz.prog 42 #[.agg #[.slice sa ss.length c1, .slice ta ts.length c2], .string nm] V fun e w' => Below V.heap.size V w' ∧ ∃ (r : Nat) (b : Bool), e = .returned (.tuple #[.int .i64 r, .bool b]) ∧ At (tnames ts) nm r b) := fun V hV => findTarget_any sa ta ss.length ts.length c1 c2 ts nm V (hE.rt.below (hW.trans (hV.mono hB))) hE.l2 hE.a2 rfl
  have HE := hid0 hE
  have HC := hid0 hc
  have HB := hid0 hbW
  have HW := hid0 hW
  have hl1 := hE.l1
  clear hE hc hW hbW
  go_enter Tryz.func97, Tryz.ntmps97
  go_wp2_with fail
  refine (HFS.out W HB.out).mono ?_
  rintro e w3 ⟨hb3, r, b, rfl, hat⟩
  have HB3 : Hid (Below w.heap.size w w3) := bt HB.out hb3
  have HR3 := hid0 (blk_below HRB.out hb3)
  have HAT := hid0 hat
  replace HM := hid0 (blk_below HM.out hb3)
  clear hb3 hat x0 x1 HRB eW
  obtain ⟨⟨x0, x1, _⟩, _⟩ := bk6 HM.out
  obtain ⟨⟨z0, z1, z2, z3, z4, z5⟩, zf⟩ := bk6 HR3.out
  dsimp only
  cases b with
  | true =>
    obtain ⟨hr, hrn⟩ := at_true HE.out.a1 HAT.out
    have hrl := hr
    rw [snames_length] at hr
    have hrI : (r : Int) < (ss.length : Int) := by omega
    obtain ⟨rfl, r', hr', e1, e2⟩ : c = 0 ∧ ∃ r, r < ss.length ∧ (sx ss r).name = nm ∧ (sx ss r).text = t := by
      rcases HC.out with q | ⟨_, _, q, _⟩
      · exact q
      · exact absurd (HAT.out.has.mp rfl) q
    have hrr : r' = r := asc_inj HE.out.a1 (by rw [snames_length]; exact hr') hrl (by rw [nx_snames, e1, hrn])
    subst hrr
    obtain ⟨sb, so, rfl, _, e3⟩ := (HE.out.rs.below (HW.out.trans (HB3.out.mono hB))) r' hr
    rw [e2] at e3
    clear HFS HFT e1 e2 hrn hr' hrl
    go_wp2_with fail
    obtain ⟨⟨v0, v1, v2, v3, v4, v5⟩, _⟩ := bk6 (set6_at HR3.out (.bool false) (.int .i64 0) (.string t) (.slice none 0 0) (.string ⟨#[]⟩) (.slice none 0 0))
    exact bodyPost_ret (v := .agg #[.bool false, .int .i64 0, .string t, .slice none 0 0, .string ⟨#[]⟩, .slice none 0 0]) (by simp [results, Tryz.results97, go_sem, v0, v1, v2, v3, v4, v5]) rfl ⟨below_set6 HB3.out (Nat.le_refl _) _ _ _ _ _ _, rfl⟩
  | false =>
    have hno := at_false HAT.out
    obtain ⟨rfl, rfl, h1, h2⟩ : c = 4 ∧ t = nm ∧ ¬ Has (snames ss) nm ∧ ¬ Has (tnames ts) nm := by
      rcases HC.out with ⟨_, r', hr', e1, _⟩ | q
      · exact absurd ⟨r', by rw [snames_length]; exact hr', by rw [nx_snames]; exact e1⟩ hno
      · exact q
    have HN2 := hid0 h2
    clear hno h1 h2 HC HAT
    go_wp2_with fail
    refine (HFT.out w3 HB3.out).mono ?_
    rintro e w4 ⟨hb4, r4, b4, rfl, hat4⟩
    have HB4 : Hid (Below w.heap.size w w4) := bt HB3.out hb4
    have HR4 := hid0 (blk_below HR3.out hb4)
    have hb4f : b4 = false := by
      cases b4 with
      | true => exact absurd (hat4.has.mp rfl) HN2.out
      | false => rfl
    subst hb4f
    clear hb4 hat4 HR3 HB3 z0 z1 z2 z3 z4 z5 zf x0 x1
    obtain ⟨⟨z0, z1, z2, z3, z4, z5⟩, zf⟩ := bk6 HR4.out
    dsimp only
    go_wp2_with fail
    obtain ⟨⟨v0, v1, v2, v3, v4, v5⟩, _⟩ := bk6 (set6_at HR4.out (.bool false) (.int .i64 4) (.string t) (.slice none 0 0) (.string ⟨#[]⟩) (.slice none 0 0))
    exact bodyPost_ret (v := .agg #[.bool false, .int .i64 4, .string t, .slice none 0 0, .string ⟨#[]⟩, .slice none 0 0]) (by simp [results, Tryz.results97, go_sem, v0, v1, v2, v3, v4, v5]) rfl ⟨below_set6 HB4.out (Nat.le_refl _) _ _ _ _ _ _, rfl⟩
end Go.Proofs.YtjdjhenijihpfaaGreatDoor
namespace Go.Proofs.YtjdjhenijihpfaaGreatDoor
open Go.RowKit Go.Deep
set_option linter.unusedVariables false

theorem nx_get {l : List ByteArray} {i : Nat} (h : i < l.length) : nx l i = l[i] := by simp [nx, List.getD_eq_getElem?_getD, h]
theorem has_mem {l : List ByteArray} {n : ByteArray} : Has l n ↔ n ∈ l := by
  constructor
  · rintro ⟨j, hj, e⟩
    rw [nx_get hj] at e
    rw [← e]; exact List.getElem_mem _
  · intro h
    obtain ⟨j, hj, e⟩ := List.mem_iff_getElem.1 h
    exact ⟨j, hj, by rw [nx_get hj]; exact e⟩
theorem allN_mem {l : List ByteArray} : AllN l ↔ ∀ a ∈ l, nameB a = true := by
  constructor
  · intro h a ha
    obtain ⟨j, hj, e⟩ := List.mem_iff_getElem.1 ha
    have := h j hj
    rw [nx_get hj, e] at this
    exact this
  · intro h i hi
    rw [nx_get hi]; exact h _ (List.getElem_mem _)
/-- A valid space, told of its members. -/
structure VSp (ss : List S2) (ts : List T2) : Prop where
  len : ss.length + ts.length ≤ 200
  ns : ∀ s ∈ ss, nameB s.name = true
  nt : ∀ t ∈ ts, nameB t.name = true
  a1 : Asc (snames ss)
  a2 : Asc (tnames ts)
  apart : ∀ s ∈ ss, ∀ t ∈ ts, s.name ≠ t.name
  tx : ∀ s ∈ ss, s.text.size ≤ 2000
  act : ∀ t ∈ ts, progOk t.code = true
theorem chk_iff {ss : List S2} {ts : List T2} : chk ss ts = 0 ↔ VSp ss ts := by
  constructor
  · intro h
    by_cases g1 : 200 < ss.length + ts.length
    · rw [chk1 g1] at h; exact absurd h (by decide)
    by_cases g2 : AllN (snames ss) ∧ AllN (tnames ts)
    · by_cases g3 : Asc (snames ss)
      · by_cases g4 : Asc (tnames ts)
        · by_cases g5 : Share (snames ss) (tnames ts)
          · rw [chk5 g1 g2 g3 g4 g5] at h; exact absurd h (by decide)
          · by_cases g6 : TextsOk ss
            · by_cases g7 : ActsOk ts
              · refine ⟨by omega, fun s hs => allN_mem.1 g2.1 _ (List.mem_map.2 ⟨s, hs, rfl⟩), fun t ht => allN_mem.1 g2.2 _ (List.mem_map.2 ⟨t, ht, rfl⟩), g3, g4, fun s hs t ht e => g5 ?_, fun s hs => ?_, fun t ht => ?_⟩
                · obtain ⟨i, hi, ei⟩ := List.mem_iff_getElem.1 (show s.name ∈ snames ss from List.mem_map.2 ⟨s, hs, rfl⟩)
                  exact ⟨i, hi, has_mem.2 (by rw [nx_get hi, ei, e]; exact List.mem_map.2 ⟨t, ht, rfl⟩)⟩
                · obtain ⟨i, hi, ei⟩ := List.mem_iff_getElem.1 hs
                  have := g6 i hi
                  rw [sx_get hi, ei] at this
                  exact this
                · obtain ⟨i, hi, ei⟩ := List.mem_iff_getElem.1 ht
                  have := g7 i hi
                  rw [tx_get hi, ei] at this
                  exact this
              · rw [chk7 g1 g2 g3 g4 g5 g6 g7] at h; exact absurd h (by decide)
            · rw [chk6 g1 g2 g3 g4 g5 g6] at h; exact absurd h (by decide)
        · rw [chk4 g1 g2 g3 g4] at h; exact absurd h (by decide)
      · rw [chk3 g1 g2 g3] at h; exact absurd h (by decide)
    · rw [chk2 g1 g2] at h; exact absurd h (by decide)
  · intro v
    refine chk0 (by have := v.len; omega) ⟨allN_mem.2 (fun a ha => ?_), allN_mem.2 (fun a ha => ?_)⟩ v.a1 v.a2 ?_ (fun i hi => ?_) (fun i hi => ?_)
    · obtain ⟨s, hs, rfl⟩ := List.mem_map.1 ha; exact v.ns s hs
    · obtain ⟨s, hs, rfl⟩ := List.mem_map.1 ha; exact v.nt s hs
    · rintro ⟨i, hi, hh⟩
      have h1 := has_mem.1 hh
      obtain ⟨t, ht, et⟩ := List.mem_map.1 h1
      have h2 : nx (snames ss) i ∈ snames ss := by rw [nx_get hi]; exact List.getElem_mem _
      obtain ⟨s, hs, es⟩ := List.mem_map.1 h2
      exact v.apart s hs t ht (by rw [es, et])
    · rw [sx_get hi]; exact v.tx _ (List.getElem_mem _)
    · rw [tx_get hi]; exact v.act _ (List.getElem_mem _)
/-- A name put in its place leaves the names ascending. -/
theorem asc_ins {l : List ByteArray} {t : ByteArray} {r : Nat} (ha : Asc l) (hr : AtR l t r) (hne : t ∉ l) : Asc (l.take r ++ [t] ++ l.drop r) := by
  have hp := asc_pairwise ha
  rw [← List.take_append_drop r l] at hp
  obtain ⟨h1, h2, h3⟩ := List.pairwise_append.1 hp
  have lo : ∀ a ∈ l.take r, lessB a t = true := fun a h => by
    obtain ⟨j, hj, e⟩ := List.mem_iff_getElem.1 h
    rw [List.getElem_take] at e
    have hj' : j < r ∧ j < l.length := by rw [List.length_take] at hj; omega
    have := hr.lo j hj'.1
    rw [nx_get hj'.2, e] at this
    exact this
  have hi : ∀ a ∈ l.drop r, lessB t a = true := fun a h => by
    obtain ⟨j, hj, e⟩ := List.mem_iff_getElem.1 h
    rw [List.getElem_drop] at e
    have hj' : r + j < l.length := by rw [List.length_drop] at hj; omega
    have h5 := hr.hi (r + j) (by omega) hj'
    rw [nx_get hj', e] at h5
    exact lessB_total h5 (fun q => hne (by rw [← q, ← e]; exact List.getElem_mem _))
  refine pairwise_asc (List.pairwise_append.2 ⟨List.pairwise_append.2 ⟨h1, List.pairwise_singleton _ _, fun a ha b hb => ?_⟩, h2, fun a ha b hb => ?_⟩)
  · rw [List.mem_singleton.1 hb]; exact lo a ha
  · rcases List.mem_append.1 ha with q | q
    · exact h3 a q b hb
    · rw [List.mem_singleton.1 q]; exact hi b hb
theorem snames_ins (l : List S2) (s : S2) (r : Nat) : snames (insS l s r) = (snames l).take r ++ [s.name] ++ (snames l).drop r := by simp [snames, insS, List.map_take, List.map_drop]
theorem tnames_ins (l : List T2) (s : T2) (r : Nat) : tnames (insT l s r) = (tnames l).take r ++ [s.name] ++ (tnames l).drop r := by simp [tnames, insT, List.map_take, List.map_drop]
theorem mem_insS {l : List S2} {s x : S2} {r : Nat} (h : x ∈ insS l s r) : x = s ∨ x ∈ l := by
  unfold insS at h
  rcases List.mem_append.1 h with q | q
  · rcases List.mem_append.1 q with q | q
    · exact Or.inr (List.mem_of_mem_take q)
    · exact Or.inl (List.mem_singleton.1 q)
  · exact Or.inr (List.mem_of_mem_drop q)
theorem mem_insT {l : List T2} {s x : T2} {r : Nat} (h : x ∈ insT l s r) : x = s ∨ x ∈ l := by
  unfold insT at h
  rcases List.mem_append.1 h with q | q
  · rcases List.mem_append.1 q with q | q
    · exact Or.inr (List.mem_of_mem_take q)
    · exact Or.inl (List.mem_singleton.1 q)
  · exact Or.inr (List.mem_of_mem_drop q)
theorem fltS_mem' {t : ByteArray} {ss : List S2} {x : S2} (h : x ∈ fltS t ss) : x ∈ ss ∧ x.name ≠ t := by
  unfold fltS at h
  have := List.mem_filter.1 h
  exact ⟨this.1, by simpa using this.2⟩
theorem fltT_mem' {t : ByteArray} {ss : List T2} {x : T2} (h : x ∈ fltT t ss) : x ∈ ss ∧ x.name ≠ t := by
  unfold fltT at h
  have := List.mem_filter.1 h
  exact ⟨this.1, by simpa using this.2⟩
theorem flt_not {t : ByteArray} {ss : List S2} {ts : List T2} : t ∉ snames (fltS t ss) ∧ t ∉ tnames (fltT t ts) := by
  refine ⟨fun h => ?_, fun h => ?_⟩
  · obtain ⟨s, hs, e⟩ := List.mem_map.1 h; exact (fltS_mem' hs).2 e
  · obtain ⟨s, hs, e⟩ := List.mem_map.1 h; exact (fltT_mem' hs).2 e
/-- Without a name a valid space is valid. -/
theorem VSp.flt {ss : List S2} {ts : List T2} (v : VSp ss ts) (t : ByteArray) : VSp (fltS t ss) (fltT t ts) :=
  ⟨by have h1 := fltS_len t ss; have h2 := fltT_len t ts; have := v.len; omega, fun s hs => v.ns s (fltS_mem' hs).1, fun s hs => v.nt s (fltT_mem' hs).1, ascS t v.a1, ascT t v.a2, fun s hs x hx => v.apart s (fltS_mem' hs).1 x (fltT_mem' hx).1, fun s hs => v.tx s (fltS_mem' hs).1, fun s hs => v.act s (fltT_mem' hs).1⟩
/-- What PutSource leaves is valid, and has the source. -/
theorem ps_valid {ss : List S2} {ts : List T2} {t x : ByteArray} {ok : Bool} (h : roomC ss ts t ok = 0) (hx : x.size ≤ 2000) : chk (psS ss ts t x ok) (psT ss ts t ok) = 0 ∧ Easy (psS ss ts t x ok) (psT ss ts t ok) t 0 x ∧ NameOk t := by
  have hch : chk ss ts = 0 := by
    by_cases g : chk ss ts = 0
    · exact g
    · rw [roomC1 g] at h; exact absurd h (by decide)
  have hno : NameOk t := by
    by_cases g : NameOk t ∧ ok = true
    · exact g.1
    · rw [roomC2 hch g] at h; exact absurd h (by decide)
  have hroom := (roomC_zero h).2.2
  have v := (chk_iff.1 hch).flt t
  obtain ⟨r, hr⟩ := atR_exists v.a1 t
  obtain ⟨e1, e2⟩ := ps_yes (x := x) h hr
  have hle : r ≤ (fltS t ss).length := by have := hr.le; rw [snames_length] at this; exact this
  refine ⟨chk_iff.2 ?_, ?_, hno⟩
  · rw [e1, e2]
    refine ⟨by rw [insS_length _ _ _ hle]; omega, fun s hs => ?_, v.nt, by rw [snames_ins]; exact asc_ins v.a1 hr (flt_not (ss := ss) (ts := ts)).1, v.a2, fun s hs y hy => ?_, fun s hs => ?_, v.act⟩
    · rcases mem_insS hs with rfl | q
      · exact nameB_true hno
      · exact v.ns s q
    · rcases mem_insS hs with rfl | q
      · exact fun e => (fltT_mem' hy).2 e.symm
      · exact v.apart s q y hy
    · rcases mem_insS hs with rfl | q
      · exact hx
      · exact v.tx s q
  · rw [e1]
    refine Or.inl ⟨rfl, r, by rw [insS_length _ _ _ hle]; omega, ?_⟩
    have hg : r < (insS (fltS t ss) ⟨t, x⟩ r).length := by rw [insS_length _ _ _ hle]; omega
    have e3 : sx (insS (fltS t ss) ⟨t, x⟩ r) r = ⟨t, x⟩ := by
      rw [sx_get hg]
      have h4 : (insS (fltS t ss) ⟨t, x⟩ r)[r]? = some ⟨t, x⟩ := by
        unfold insS
        rw [List.append_assoc, List.getElem?_append_right (by rw [List.length_take]; omega), List.length_take, Nat.min_eq_left hle, Nat.sub_self]
        rfl
      rw [List.getElem?_eq_getElem hg] at h4
      exact Option.some.inj h4
    rw [e3]
    exact ⟨rfl, rfl⟩
/-- What PutTarget leaves is valid. -/
theorem pt_valid {ss : List S2} {ts : List T2} {t : ByteArray} {is : List I3} (h : roomC ss ts t (progOk is) = 0) : VSp (ptS ss ts t (progOk is)) (ptT ss ts t is (progOk is)) ∧ NameOk t ∧ Has (tnames (ptT ss ts t is (progOk is))) t := by
  have hch : chk ss ts = 0 := by
    by_cases g : chk ss ts = 0
    · exact g
    · rw [roomC1 g] at h; exact absurd h (by decide)
  have hok : NameOk t ∧ progOk is = true := by
    by_cases g : NameOk t ∧ progOk is = true
    · exact g
    · rw [roomC2 hch g] at h; exact absurd h (by decide)
  have hroom := (roomC_zero h).2.2
  have v := (chk_iff.1 hch).flt t
  obtain ⟨r, hr⟩ := atR_exists v.a2 t
  obtain ⟨e1, e2⟩ := pt_yes h hr
  have hle : r ≤ (fltT t ts).length := by have := hr.le; rw [tnames_length] at this; exact this
  rw [e1, e2]
  refine ⟨⟨by rw [insT_length _ _ _ hle]; omega, v.ns, fun s hs => ?_, v.a1, by rw [tnames_ins]; exact asc_ins v.a2 hr (flt_not (ss := ss) (ts := ts)).2, fun s hs y hy => ?_, v.tx, fun s hs => ?_⟩, hok.1, has_mem.2 (by rw [tnames_ins]; simp)⟩
  · rcases mem_insT hs with rfl | q
    · exact nameB_true hok.1
    · exact v.nt s q
  · rcases mem_insT hy with rfl | q
    · exact (fltS_mem' hs).2
    · exact v.apart s hs y q
  · rcases mem_insT hs with rfl | q
    · exact hok.2
    · exact v.act s q
end Go.Proofs.YtjdjhenijihpfaaGreatDoor
