import Derived.Test.YtmeojnaoljgieaeGreatDoorClO
import Derived.Test.YtmeojnaoljgieaeGreatDoorChkS
namespace Go.Proofs.YtmeojnaoljgieaeGreatDoor
open Go.RowKit Go.Deep
set_option linter.unusedVariables false
theorem env_of {w : World} {sa ta : Option Addr} {ss : List S2} {ts : List T2} (h : SpOk w sa ss ta ts) (hc : chk ss ts = 0) : EnvS w sa ta ss ts := by
  unfold chk at hc
  split at hc
  · omega
  · rename_i h1
    split at hc
    · omega
    · rename_i h2
      split at hc
      · omega
      · rename_i h3
        split at hc
        · omega
        · rename_i h4
          split at hc
          · omega
          · rename_i h5
            split at hc
            · omega
            · rename_i h6
              split at hc
              · omega
              · rename_i h7
                have h2 := Classical.not_not.mp h2
                have h3 := Classical.not_not.mp h3
                have h4 := Classical.not_not.mp h4
                have h6 := Classical.not_not.mp h6
                have h7 := Classical.not_not.mp h7
                refine ⟨h.rs, h.rt, ⟨h3, h4, ?_, ?_, ?_, ?_⟩, by omega, by omega, ?_⟩
                · rintro nm ⟨i, hi, e⟩ hn
                  exact h5 ⟨i, hi, by rw [e]; exact hn⟩
                · exact h6
                · exact h7
                · intro i hi
                  have hq := h2.2 i (by rw [tnames_length]; exact hi)
                  rw [nx_tnames] at hq
                  unfold nameB at hq
                  simpa using hq
                · intro i j
                  have := h.xt i j
                  unfold maxLen at this
                  omega
theorem Does.circle_len {ss : List S2} {ts : List T2} {ms : Ms} {st : List ByteArray} {j : Job} {ms' : Ms} {a : Ans} (h : Does ss ts ms st j ms' a) : st.length ≤ 60 → ∀ ch, a = .circle ch → 0 < ch.length ∧ ch.length ≤ 60 := by
  induction h with
  | known => intro _ ch e; cases e
  | circle h1 h2 h3 h4 => intro hs ch e; cases e; rw [List.length_drop]; omega
  | source => intro _ ch e; cases e
  | missing => intro _ ch e; cases e
  | deep => intro _ ch e; cases e
  | made => intro _ ch e; cases e
  | fell h1 h2 h3 h4 h5 _ _ ih => intro hs ch e; exact ih (by simp; omega) ch e
  | over => intro _ ch e; cases e
  | has _ _ ih => intro hs ch e; exact ih hs ch e
  | asked _ _ _ _ ih => intro hs ch e; exact ih hs ch e
  | askfell _ _ _ ih => intro hs ch e; exact ih hs ch e
def CleanP (ss : List S2) (ts : List T2) (nm : ByteArray) (c : Int) (t : ByteArray) (ch : List ByteArray) : Prop :=
  (¬ (chk ss ts = 0 ∧ nameB nm = true) ∧ c = 9 ∧ t = ⟨#[]⟩ ∧ ch = []) ∨ (chk ss ts = 0 ∧ nameB nm = true ∧ ∃ ms a, Does ss ts [] [] (.make nm) ms a ∧ (match a with | .ok d => c = d.c ∧ t = d.t ∧ ch = [] | .circle l => c = 6 ∧ t = ⟨#[]⟩ ∧ ch = l | .deep x => c = 7 ∧ t = x ∧ ch = []))
theorem CleanP.unique {ss : List S2} {ts : List T2} (hs : Asc (snames ss)) (ht : Asc (tnames ts)) {nm : ByteArray} {c c' : Int} {t t' : ByteArray} {ch ch' : List ByteArray} (h : CleanP ss ts nm c t ch) (h' : CleanP ss ts nm c' t' ch') : c' = c ∧ t' = t ∧ ch' = ch := by
  rcases h with ⟨n, rfl, rfl, rfl⟩ | ⟨y1, y2, ms, a, hd, k⟩
  · rcases h' with ⟨_, rfl, rfl, rfl⟩ | ⟨y1, y2, _⟩
    · exact ⟨rfl, rfl, rfl⟩
    · exact absurd ⟨y1, y2⟩ n
  · rcases h' with ⟨n, _⟩ | ⟨_, _, ms', a', hd', k'⟩
    · exact absurd ⟨y1, y2⟩ n
    · obtain ⟨_, rfl⟩ := hd.unique hs ht hd'
      cases a' with
      | ok d => obtain ⟨rfl, rfl, rfl⟩ := k; obtain ⟨rfl, rfl, rfl⟩ := k'; exact ⟨rfl, rfl, rfl⟩
      | circle l => obtain ⟨rfl, rfl, rfl⟩ := k; obtain ⟨rfl, rfl, rfl⟩ := k'; exact ⟨rfl, rfl, rfl⟩
      | deep x => obtain ⟨rfl, rfl, rfl⟩ := k; obtain ⟨rfl, rfl, rfl⟩ := k'; exact ⟨rfl, rfl, rfl⟩
theorem SpOk.below {w w' : World} {sa ta : Option Addr} {ss : List S2} {ts : List T2} (h : SpOk w sa ss ta ts) (hb : Below w.heap.size w w') : SpOk w' sa ss ta ts := ⟨h.rs.below hb, h.rt.below hb, h.ls, h.lt, h.ns, h.xs, h.nt, h.lc, h.xt⟩
theorem strs_nil (w : World) (a : Option Addr) : Strs w a [] := fun i hi => by simp at hi
theorem strs_row {w : World} {base g cp : Nat} {ch : List ByteArray} (h : w.ownsRow base 9 1 (.slice (some ⟨g, 0, none⟩) ch.length cp) ch.length (strV ch)) : Strs w (some ⟨g, 0, none⟩) ch := fun i hi => ⟨g, 0, rfl, by rw [Nat.zero_add, h.cellAt i (by omega), strV_get ch i hi]; rfl⟩
set_option maxRecDepth 100000 in
set_option maxHeartbeats 8000000 in
theorem specClean_any (sa ta : Option Addr) (c1 c2 : Nat) (ss : List S2) (ts : List T2) (nm : ByteArray) (w : World) (h : SpOk w sa ss ta ts) (hsm : SpSmall ss ts) (hn : nm.size ≤ 9223372036854775807) :
    Calls Tryz.prog 25 #[.agg #[.slice sa ss.length c1, .slice ta ts.length c2], .string nm] w fun e w' => Below w.heap.size w w' ∧ ∃ c t ch ca cc, e = .returned (.agg #[.int .i64 c, .string t, .slice ca ch.length cc]) ∧ CleanP ss ts nm c t ch ∧ Strs w' ca ch := by
  obtain ⟨W, eW⟩ : ∃ W, (w.alloc (.cells #[.slice sa ss.length c1, .slice ta ts.length c2] 26)).alloc (.cells #[.int .i64 0, .string ⟨#[]⟩, .slice none 0 0] 32) = W := ⟨_, rfl⟩
  have hb0 : Below w.heap.size w W := by rw [← eW]; exact ((Below.refl _ _).alloc (Nat.le_refl _) _).alloc (by simp) _
  have HRB : Hid (W.heap[w.heap.size + 1]? = some (.cells #[.int .i64 0, .string ⟨#[]⟩, .slice none 0 0] 32 (0, 0))) := by
    show _ = _
    rw [← eW]
    have h := heap_new (w.alloc (.cells #[.slice sa ss.length c1, .slice ta ts.length c2] 26)) (.cells #[.int .i64 0, .string ⟨#[]⟩, .slice none 0 0] 32)
    rw [show (w.alloc (.cells #[.slice sa ss.length c1, .slice ta ts.length c2] 26)).heap.size = w.heap.size + 1 from by simp] at h
    exact h
  have HPB : Hid (W.heap[w.heap.size]? = some (.cells #[.slice sa ss.length c1, .slice ta ts.length c2] 26 (0, 0))) := by
    show _ = _
    rw [← eW, Lib.alloc_old _ _ _ (by simp)]
    exact heap_new _ _
  have hW9 : w.heap.size + 1 < W.heap.size := blk_lt HRB.out
  have p0 : W.cell? ⟨w.heap.size, 0, none⟩ = some (.slice sa ss.length c1) := by rw [Lib.cell_of_heap HPB.out]; rfl
  have p1 : W.cell? ⟨w.heap.size, 1, none⟩ = some (.slice ta ts.length c2) := by rw [Lib.cell_of_heap HPB.out]; rfl
  have HCK : Hid (Calls Tryz.prog 46 #[.agg #[.slice sa ss.length c1, .slice ta ts.length c2]] W _) := specCheck_any sa ta c1 c2 ss ts W (h.below hb0) hsm
  have HB0 : Hid (Below w.heap.size w W) := hb0
  have HOK : Hid (SpOk w sa ss ta ts) := h
  clear h hb0 hsm
  go_enter Tryz.func25, Tryz.ntmps25
  go_wp2_with fail
  refine HCK.out.mono ?_
  rintro e w1 ⟨hb1, rfl⟩
  have HB1 : Hid (Below w.heap.size w w1) := HB0.out.trans (hb1.mono (by omega))
  have HR1 : Hid (w1.heap[w.heap.size + 1]? = some (.cells #[.int .i64 0, .string ⟨#[]⟩, .slice none 0 0] 32 (0, 0))) := blk_keep hb1 HRB.out
  have HP1 : Hid (w1.heap[w.heap.size]? = some (.cells #[.slice sa ss.length c1, .slice ta ts.length c2] 26 (0, 0))) := blk_keep hb1 HPB.out
  obtain ⟨z0, z1, z2, zf⟩ := bk3 HR1.out
  have q0 : w1.cell? ⟨w.heap.size, 0, none⟩ = some (.slice sa ss.length c1) := by rw [Lib.cell_of_heap HP1.out]; rfl
  have q1 : w1.cell? ⟨w.heap.size, 1, none⟩ = some (.slice ta ts.length c2) := by rw [Lib.cell_of_heap HP1.out]; rfl
  clear hb1 p0 p1 eW HCK
  dsimp only
  by_cases hc : chk ss ts = 0
  · by_cases hnb : nameB nm = true
    · have hE := env_of (HOK.out.below HB1.out) hc
      have hnk : NameOk nm := by unfold nameB at hnb; simpa using hnb
      have HLC : Hid (Calls Tryz.prog 48 #[.agg #[.slice sa ss.length c1, .slice ta ts.length c2], .string nm] w1 _) := l3Clean_any sa ta c1 c2 ss ts nm w1 hE hnk
      have HCC : Hid (chk ss ts = 0 ∧ nameB nm = true) := ⟨hc, hnb⟩
      rw [hc]
      clear hE hnk hc
      go_wp2_with (first | (go_at_call 47; refine (l2NameOk_any nm _ hn).mono ?_; rintro e w9 ⟨rfl, rfl⟩; rw [hnb]))
      refine HLC.out.mono ?_
      rintro e w2 ⟨hb2, h, ms', a, rfl, hh, hdo, ho⟩
      have HR2 : Hid (w2.heap[w.heap.size + 1]? = some (.cells #[.int .i64 0, .string ⟨#[]⟩, .slice none 0 0] 32 (0, 0))) := blk_keep hb2 HR1.out
      have HB2 : Hid (Below w.heap.size w w2) := HB1.out.trans (hb2.mono (by have := HB1.out.size; omega))
      have hs2 : w.heap.size ≤ w2.heap.size := HB2.out.size
      obtain ⟨c, t, ch, cv, hcell, HCP, HCV⟩ : ∃ c t ch cv, (w2.cell? ⟨h, 4, none⟩ = some (.int .i64 c) ∧ w2.cell? ⟨h, 5, none⟩ = some (.string t) ∧ w2.cell? ⟨h, 6, none⟩ = some cv) ∧ Hid (CleanP ss ts nm c t ch) ∧ ((ch = [] ∧ cv = .slice none 0 0) ∨ (0 < ch.length ∧ ch.length ≤ 60 ∧ ∃ base g cp, cv = .slice (some ⟨g, 0, none⟩) ch.length cp ∧ w2.ownsRow base 9 1 cv ch.length (strV ch))) := by
        rcases ho with ⟨d, mv, kv, vs, rfl, hdn⟩ | ⟨v, mv, kv, c, t, chv, hblk, rfl, k⟩
        · obtain ⟨_, ⟨x4, x5, x6, _⟩, _⟩ := bk8 hdn.blk
          exact ⟨d.c, d.t, [], _, ⟨x4, x5, x6⟩, Or.inr ⟨HCC.out.1, HCC.out.2, _, _, hdo, rfl, rfl, rfl⟩, Or.inl ⟨rfl, rfl⟩⟩
        · obtain ⟨_, ⟨x4, x5, x6, _⟩, _⟩ := bk8 hblk
          cases a with
          | ok d => exact absurd k id
          | circle l =>
            obtain ⟨rfl, rfl, base, hown⟩ := k
            obtain ⟨l0, l6⟩ := hdo.circle_len (by simp) l rfl
            refine ⟨6, ⟨#[]⟩, l, chv, ⟨x4, x5, x6⟩, Or.inr ⟨HCC.out.1, HCC.out.2, _, _, hdo, rfl, rfl, rfl⟩, Or.inr ⟨l0, l6, base, ?_⟩⟩
            rcases hown.2 with ⟨_, h0⟩ | ⟨g, cap, cur, e, _⟩
            · omega
            · exact ⟨g, cap, e, hown⟩
          | deep x =>
            obtain ⟨rfl, rfl, rfl⟩ := k
            exact ⟨7, t, [], _, ⟨x4, x5, x6⟩, Or.inr ⟨HCC.out.1, HCC.out.2, _, _, hdo, rfl, rfl, rfl⟩, Or.inl ⟨rfl, rfl⟩⟩
      obtain ⟨x4, x5, x6⟩ := hcell
      clear ho hdo hb2 z0 z1 z2 zf q0 q1
      rcases HCV with ⟨rfl, rfl⟩ | ⟨l0, l6, base, g, cp, rfl, hown⟩
      · go_wp2_with fail
        refine (l3Copy_nil c t w2).mono ?_
        rintro e w3 ⟨hb3, g', rfl⟩
        have HR3 : Hid (w3.heap[w.heap.size + 1]? = some (.cells #[.int .i64 0, .string ⟨#[]⟩, .slice none 0 0] 32 (0, 0))) := blk_keep hb3 HR2.out
        have HB3 : Hid (Below w.heap.size w w3) := HB2.out.trans (hb3.mono hs2)
        obtain ⟨z0, z1, z2, zf⟩ := bk3 HR3.out
        clear hb3 x4 x5 x6
        go_wp2_with fail
        have hb := below_set3 HB3.out (b := w.heap.size + 1) (by omega) (.int .i64 c) (.string t) (.slice (some ⟨g', 0, none⟩) 0 0)
        obtain ⟨v0, v1, v2, _⟩ := bk3 (set3_at HR3.out (.int .i64 c) (.string t) (.slice (some ⟨g', 0, none⟩) 0 0))
        exact bodyPost_ret (v := .agg #[.int .i64 c, .string t, .slice (some ⟨g', 0, none⟩) 0 0]) (by simp [results, Tryz.results25, go_sem, v0, v1, v2]) rfl ⟨hb, c, t, [], some ⟨g', 0, none⟩, 0, rfl, HCP.out, strs_nil _ _⟩
      · have HOW : Hid _ := hown
        clear hown
        go_wp2_with fail
        refine (l3Copy_row c t ch base g cp w2 l0 l6 HOW.out).mono ?_
        rintro e w3 ⟨hb3, g', cp', rfl, hown3⟩
        have HR3 : Hid (w3.heap[w.heap.size + 1]? = some (.cells #[.int .i64 0, .string ⟨#[]⟩, .slice none 0 0] 32 (0, 0))) := blk_keep hb3 HR2.out
        have HB3 : Hid (Below w.heap.size w w3) := HB2.out.trans (hb3.mono hs2)
        have HO3 : Hid (w3.ownsRow w2.heap.size 9 1 (.slice (some ⟨g', 0, none⟩) ch.length cp') ch.length (strV ch)) := hown3
        obtain ⟨z0, z1, z2, zf⟩ := bk3 HR3.out
        clear hb3 x4 x5 x6 hown3
        go_wp2_with fail
        have hb := below_set3 HB3.out (b := w.heap.size + 1) (by omega) (.int .i64 c) (.string t) (.slice (some ⟨g', 0, none⟩) ch.length cp')
        have e1 := Joins.block_setCell HR3.out (.int .i64 c) (i := 0)
        have e2 := Joins.block_setCell e1 (.string t) (i := 1)
        have ho := own_set (own_set (own_set HO3.out HR3.out (by decide) 0 (.int .i64 c)) e1 (by decide) 1 (.string t)) e2 (by decide) 2 (.slice (some ⟨g', 0, none⟩) ch.length cp')
        obtain ⟨v0, v1, v2, _⟩ := bk3 (set3_at HR3.out (.int .i64 c) (.string t) (.slice (some ⟨g', 0, none⟩) ch.length cp'))
        exact bodyPost_ret (v := .agg #[.int .i64 c, .string t, .slice (some ⟨g', 0, none⟩) ch.length cp']) (by simp [results, Tryz.results25, go_sem, v0, v1, v2]) rfl ⟨hb, c, t, ch, some ⟨g', 0, none⟩, cp', rfl, HCP.out, strs_row ho⟩
    · have hnf : nameB nm = false := by simpa using hnb
      have HCP : Hid (CleanP ss ts nm 9 ⟨#[]⟩ []) := Or.inl ⟨fun q => hnb q.2, rfl, rfl, rfl⟩
      rw [hc]
      clear hnb hc
      go_wp2_with (first | (go_at_call 47; refine (l2NameOk_any nm _ hn).mono ?_; rintro e w9 ⟨rfl, rfl⟩; rw [hnf]))
      have hb := below_set3 HB1.out (b := w.heap.size + 1) (by omega) (.int .i64 9) (.string ⟨#[]⟩) (.slice none 0 0)
      obtain ⟨v0, v1, v2, _⟩ := bk3 (set3_at HR1.out (.int .i64 9) (.string ⟨#[]⟩) (.slice none 0 0))
      exact bodyPost_ret (v := .agg #[.int .i64 9, .string ⟨#[]⟩, .slice none 0 0]) (by simp [results, Tryz.results25, go_sem, v0, v1, v2]) rfl ⟨hb, 9, ⟨#[]⟩, [], none, 0, rfl, HCP.out, strs_nil _ _⟩
  · have HCP : Hid (CleanP ss ts nm 9 ⟨#[]⟩ []) := Or.inl ⟨fun q => hc q.1, rfl, rfl, rfl⟩
    generalize chk ss ts = z at hc
    go_wp2_with fail
    have hb := below_set3 HB1.out (b := w.heap.size + 1) (by omega) (.int .i64 9) (.string ⟨#[]⟩) (.slice none 0 0)
    obtain ⟨v0, v1, v2, _⟩ := bk3 (set3_at HR1.out (.int .i64 9) (.string ⟨#[]⟩) (.slice none 0 0))
    exact bodyPost_ret (v := .agg #[.int .i64 9, .string ⟨#[]⟩, .slice none 0 0]) (by simp [results, Tryz.results25, go_sem, v0, v1, v2]) rfl ⟨hb, 9, ⟨#[]⟩, [], none, 0, rfl, HCP.out, strs_nil _ _⟩
end Go.Proofs.YtmeojnaoljgieaeGreatDoor
namespace Go.Proofs.YtmeojnaoljgieaeGreatDoor
open Go.RowKit Go.Deep
set_option linter.unusedVariables false
def TrailP (ss : List S2) (ts : List T2) (nm : ByteArray) (ls : List G3) (c : Int) (t : ByteArray) (ch : List ByteArray) : Prop :=
  (¬ (chk ss ts = 0 ∧ nameB nm = true) ∧ ls = [] ∧ c = 9 ∧ t = ⟨#[]⟩ ∧ ch = []) ∨ (chk ss ts = 0 ∧ nameB nm = true ∧ ∃ ms a, Does ss ts [] [] (.make nm) ms a ∧ (match a with | .ok d => ls = d.ls ∧ c = d.c ∧ t = d.t ∧ ch = [] | .circle l => ls = [] ∧ c = 6 ∧ t = ⟨#[]⟩ ∧ ch = l | .deep x => ls = [] ∧ c = 7 ∧ t = x ∧ ch = []))
theorem TrailP.clean {ss : List S2} {ts : List T2} {nm : ByteArray} {ls : List G3} {c : Int} {t : ByteArray} {ch : List ByteArray} (h : TrailP ss ts nm ls c t ch) : CleanP ss ts nm c t ch := by
  rcases h with ⟨n, _, h⟩ | ⟨y1, y2, ms, a, hd, k⟩
  · exact Or.inl ⟨n, h⟩
  · refine Or.inr ⟨y1, y2, ms, a, hd, ?_⟩
    cases a with
    | ok d => exact k.2
    | circle l => exact k.2
    | deep x => exact k.2
def MarkP (ss : List S2) (ts : List T2) (nm : ByteArray) (w : World) (e : Ending) (w' : World) : Prop :=
  Below w.heap.size w w' ∧ ∃ ls c t ch ca cn cc la ln lc b fo, e = .returned (.agg #[.bool b, .int .i64 c, .string t, .slice ca cn cc, .string fo, .slice la ln lc]) ∧ TrailP ss ts nm ls c t ch ∧ w'.ownsRow w.heap.size 9 1 (.slice ca cn cc) ch.length (strV ch) ∧ LooksO w' w.heap.size (.slice la ln lc) ls
theorem nil9 (w : World) (B : Nat) : w.ownsRow B 9 1 (.slice none 0 0) ([] : List ByteArray).length (strV []) := ⟨rfl, Or.inl ⟨rfl, rfl⟩⟩
theorem looks_base {w : World} {B B' : Nat} {v : Value} {ls : List G3} (h : LooksO w B v ls) (hB : B' ≤ B) : LooksO w B' v ls := by
  obtain ⟨xs, h1, h2⟩ := h
  exact ⟨xs, own_base h1 hB, h2⟩
set_option maxRecDepth 100000 in
set_option maxHeartbeats 8000000 in
theorem cleanMark_any (sa ta : Option Addr) (c1 c2 : Nat) (ss : List S2) (ts : List T2) (nm : ByteArray) (w : World) (hT : Tab w) (hP : P10 w) (h : SpOk w sa ss ta ts) (hsm : SpSmall ss ts) (hn : nm.size ≤ 9223372036854775807) :
    Calls Tryz.prog 45 #[.agg #[.slice sa ss.length c1, .slice ta ts.length c2], .string nm] w fun e w' => MarkP ss ts nm w e w' := by
  obtain ⟨W, eW⟩ : ∃ W, (w.alloc (.cells #[.slice sa ss.length c1, .slice ta ts.length c2] 26)).alloc (.cells #[.bool false, .int .i64 0, .string ⟨#[]⟩, .slice none 0 0, .string ⟨#[]⟩, .slice none 0 0] 92) = W := ⟨_, rfl⟩
  have hb0 : Below w.heap.size w W := by rw [← eW]; exact below_trans (alloc_below _ _) (alloc_below _ _)
  have HRB : Hid (W.heap[w.heap.size + 1]? = some (.cells #[.bool false, .int .i64 0, .string ⟨#[]⟩, .slice none 0 0, .string ⟨#[]⟩, .slice none 0 0] 92 (0, 0))) := by
    show _ = _
    rw [← eW]
    have h := heap_new (w.alloc (.cells #[.slice sa ss.length c1, .slice ta ts.length c2] 26)) (.cells #[.bool false, .int .i64 0, .string ⟨#[]⟩, .slice none 0 0, .string ⟨#[]⟩, .slice none 0 0] 92)
    rw [show (w.alloc (.cells #[.slice sa ss.length c1, .slice ta ts.length c2] 26)).heap.size = w.heap.size + 1 from by simp] at h
    exact h
  have HPB : Hid (W.heap[w.heap.size]? = some (.cells #[.slice sa ss.length c1, .slice ta ts.length c2] 26 (0, 0))) := by
    show _ = _
    rw [← eW, Lib.alloc_old _ _ _ (by simp)]
    exact heap_new _ _
  have hW9 : w.heap.size + 1 < W.heap.size := blk_lt HRB.out
  have p0 : W.cell? ⟨w.heap.size, 0, none⟩ = some (.slice sa ss.length c1) := by rw [Lib.cell_of_heap HPB.out]; rfl
  have p1 : W.cell? ⟨w.heap.size, 1, none⟩ = some (.slice ta ts.length c2) := by rw [Lib.cell_of_heap HPB.out]; rfl
  have HCK : Hid (Calls Tryz.prog 103 #[.agg #[.slice sa ss.length c1, .slice ta ts.length c2]] W _) := implCheck_any sa ta c1 c2 ss ts W (hT.below hb0) (h.below hb0) hsm
  have HB0 : Hid (Below w.heap.size w W) := hb0
  have HOK : Hid (SpOk w sa ss ta ts ∧ Tab w ∧ P10 w) := ⟨h, hT, hP⟩
  have HN : Hid (∀ V : World, Calls Tryz.prog 104 #[.string nm] V fun e w' => e = .returned (.bool (nameB nm)) ∧ V = w') := fun V => validName_any nm V hn
  clear h hb0 hsm hT hP
  go_enter Tryz.func45, Tryz.ntmps45
  go_wp2_with fail
  refine HCK.out.mono ?_
  rintro e w1 ⟨hb1, rfl⟩
  have HB1 : Hid (Below w.heap.size w w1) := HB0.out.trans (hb1.mono (by omega))
  have HR1 : Hid (w1.heap[w.heap.size + 1]? = some (.cells #[.bool false, .int .i64 0, .string ⟨#[]⟩, .slice none 0 0, .string ⟨#[]⟩, .slice none 0 0] 92 (0, 0))) := blk_keep hb1 HRB.out
  have HP1 : Hid (w1.heap[w.heap.size]? = some (.cells #[.slice sa ss.length c1, .slice ta ts.length c2] 26 (0, 0))) := blk_keep hb1 HPB.out
  obtain ⟨⟨z0, z1, z2, z3, z4, z5⟩, zf⟩ := bk6 HR1.out
  have q0 : w1.cell? ⟨w.heap.size, 0, none⟩ = some (.slice sa ss.length c1) := by rw [Lib.cell_of_heap HP1.out]; rfl
  have q1 : w1.cell? ⟨w.heap.size, 1, none⟩ = some (.slice ta ts.length c2) := by rw [Lib.cell_of_heap HP1.out]; rfl
  have hs1 : w.heap.size ≤ w1.heap.size := HB1.out.size
  have hs1' : w.heap.size + 1 < w1.heap.size := blk_lt HR1.out
  clear hb1 p0 p1 eW HCK
  dsimp only
  by_cases hc : chk ss ts = 0
  · by_cases hnb : nameB nm = true
    · have hE := env_of (HOK.out.1.below HB1.out) hc
      have hnk : NameOk nm := by unfold nameB at hnb; simpa using hnb
      have HCC : Hid (chk ss ts = 0 ∧ nameB nm = true) := ⟨hc, hnb⟩
      have HMK : Hid (Calls Tryz.prog 105 #[.agg #[.slice sa ss.length c1, .slice ta ts.length c2]] w1 _) := cleanMaker_any sa ta ss.length ts.length c1 c2 w1
      have HFI : Hid (∀ (h mb : Nat) (w2 : World), Mkr w1.heap.size h mb (.slice sa ss.length c1) (.slice ta ts.length c2) (.func (.func 164) #[.pointer (some ⟨h, 0, none⟩)] #[]) w2 [] [] (.slice none 0 0) (.slice none 0 0) (fun _ => .slice none 0 0) → Below w1.heap.size w1 w2 → Calls Tryz.prog 106 #[.pointer (some ⟨h, 0, none⟩), .string nm] w2 fun e w' => FirstP w1.heap.size h mb (.slice sa ss.length c1) (.slice ta ts.length c2) (.func (.func 164) #[.pointer (some ⟨h, 0, none⟩)] #[]) ss ts nm w2 e w') := fun h mb w2 hs hb => first_any w1 h mb sa ta c1 c2 ss ts nm w2 hE (HOK.out.2.1.below HB1.out) (HOK.out.2.2.below HB1.out) hnk hs hb
      rw [hc]
      clear hE hnk hc
      go_wp2_with (first | (go_at_call 104; refine (HN.out _).mono ?_; rintro e w9 ⟨rfl, rfl⟩; rw [hnb]))
      refine HMK.out.mono ?_
      rintro e w2 ⟨h, mb, rfl, hb2, hs2⟩
      have HF2 := HFI.out h mb w2 hs2 hb2
      have HFF : Hid (Calls Tryz.prog 106 #[.pointer (some ⟨h, 0, none⟩), .string nm] w2 fun e w' => FirstP w1.heap.size h mb (.slice sa ss.length c1) (.slice ta ts.length c2) (.func (.func 164) #[.pointer (some ⟨h, 0, none⟩)] #[]) ss ts nm w2 e w') := HF2
      have HB2 : Hid (Below w1.heap.size w1 w2) := hb2
      clear HF2 hb2 hs2 z0 z1 z2 z3 z4 z5 zf q0 q1 HMK
      dsimp only
      go_wp2_with fail
      refine HFF.out.mono ?_
      rintro e w3 ⟨hb3, ms', an, hdo, ho⟩
      have HB3 : Hid (Below w1.heap.size w1 w3) := HB2.out.trans hb3
      obtain ⟨ls, c, t, ch, ca, cn, cc, la, ln, lc, b, fo, rfl, hTP, hown, hlo⟩ : ∃ ls c t ch ca cn cc la ln lc b fo, e = .returned (.agg #[.bool b, .int .i64 c, .string t, .slice ca cn cc, .string fo, .slice la ln lc]) ∧ TrailP ss ts nm ls c t ch ∧ w3.ownsRow w1.heap.size 9 1 (.slice ca cn cc) ch.length (strV ch) ∧ LooksO w3 w1.heap.size (.slice la ln lc) ls := by
        rcases ho with ⟨d, lv, rfl, rfl, hlo⟩ | ⟨c, t, ca, cn, cc, rfl, hv⟩
        · obtain ⟨la, ln, lc, rfl⟩ := looks_is hlo
          exact ⟨d.ls, d.c, d.t, [], none, 0, 0, la, ln, lc, true, formB d.c d.t, rfl, Or.inr ⟨HCC.out.1, HCC.out.2, ms', _, hdo, rfl, rfl, rfl, rfl⟩, nil9 _ _, hlo⟩
        · cases an with
          | ok d => exact absurd hv id
          | circle l =>
            obtain ⟨ca', cn', cc', e1, hown⟩ := hv
            simp only [Value.agg.injEq, Array.mk.injEq, List.cons.injEq, Value.int.injEq, Value.string.injEq, Value.slice.injEq, and_true, true_and] at e1
            obtain ⟨rfl, rfl, rfl, rfl, rfl⟩ := e1
            exact ⟨[], 6, ⟨#[]⟩, l, ca, cn, cc, none, 0, 0, false, ⟨#[]⟩, rfl, Or.inr ⟨HCC.out.1, HCC.out.2, ms', _, hdo, rfl, rfl, rfl, rfl⟩, hown, looks_nil _ _⟩
          | deep x =>
            have e1 : (Value.agg #[.int .i64 c, .string t, .slice ca cn cc]) = .agg #[.int .i64 7, .string x, .slice none 0 0] := hv
            simp only [Value.agg.injEq, Array.mk.injEq, List.cons.injEq, Value.int.injEq, Value.string.injEq, Value.slice.injEq, and_true, true_and] at e1
            obtain ⟨rfl, rfl, rfl, rfl, rfl⟩ := e1
            exact ⟨[], 7, t, [], none, 0, 0, none, 0, 0, false, ⟨#[]⟩, rfl, Or.inr ⟨HCC.out.1, HCC.out.2, ms', _, hdo, rfl, rfl, rfl, rfl⟩, nil9 _ _, looks_nil _ _⟩
      have HR3 : Hid (w3.heap[w.heap.size + 1]? = some (.cells #[.bool false, .int .i64 0, .string ⟨#[]⟩, .slice none 0 0, .string ⟨#[]⟩, .slice none 0 0] 92 (0, 0))) := by
        show _ = _
        rw [HB3.out.block _ hs1']; exact HR1.out
      have HX3 : Hid (TrailP ss ts nm ls c t ch ∧ w3.ownsRow w1.heap.size 9 1 (.slice ca cn cc) ch.length (strV ch) ∧ LooksO w3 w1.heap.size (.slice la ln lc) ls) := ⟨hTP, hown, hlo⟩
      obtain ⟨⟨z0, z1, z2, z3, z4, z5⟩, zf⟩ := bk6 HR3.out
      clear ho hdo hb3 hTP hown hlo HFF
      dsimp only
      go_wp2_with fail
      obtain ⟨⟨v0, v1, v2, v3, v4, v5⟩, _⟩ := bk6 (set6_at HR3.out (.bool b) (.int .i64 c) (.string t) (.slice ca cn cc) (.string fo) (.slice la ln lc))
      obtain ⟨x1, x2, x3⟩ := HX3.out
      have ho := own_same x2 (fun b' q => set6_ne (w := w3) (b := w.heap.size + 1) (fun e => by subst e; exact own_ne_cells x2 (by decide) HR3.out q) (.bool b) (.int .i64 c) (.string t) (.slice ca cn cc) (.string fo) (.slice la ln lc))
      have hl : LooksO _ w1.heap.size (.slice la ln lc) ls := x3.keptB (fun b' q => set6_ne (w := w3) (b := w.heap.size + 1) (fun e => by obtain ⟨xs, k1, _⟩ := x3; subst e; exact own_ne_cells k1 (by decide) HR3.out q) (.bool b) (.int .i64 c) (.string t) (.slice ca cn cc) (.string fo) (.slice la ln lc))
      exact bodyPost_ret (v := .agg #[.bool b, .int .i64 c, .string t, .slice ca cn cc, .string fo, .slice la ln lc]) (by simp [results, Tryz.results45, go_sem, v0, v1, v2, v3, v4, v5]) rfl ⟨below_set6 (HB1.out.trans (HB3.out.mono hs1)) (by omega) _ _ _ _ _ _, ls, c, t, ch, ca, cn, cc, la, ln, lc, b, fo, rfl, x1, own_base ho hs1, looks_base hl hs1⟩
    · have hnf : nameB nm = false := by simpa using hnb
      have HCP : Hid (TrailP ss ts nm [] 9 ⟨#[]⟩ []) := Or.inl ⟨fun q => hnb q.2, rfl, rfl, rfl, rfl⟩
      rw [hc]
      clear hnb hc
      go_wp2_with (first | (go_at_call 104; refine (HN.out _).mono ?_; rintro e w9 ⟨rfl, rfl⟩; rw [hnf]))
      obtain ⟨⟨v0, v1, v2, v3, v4, v5⟩, _⟩ := bk6 (set6_at HR1.out (.bool false) (.int .i64 9) (.string ⟨#[]⟩) (.slice none 0 0) (.string ⟨#[]⟩) (.slice none 0 0))
      exact bodyPost_ret (v := .agg #[.bool false, .int .i64 9, .string ⟨#[]⟩, .slice none 0 0, .string ⟨#[]⟩, .slice none 0 0]) (by simp [results, Tryz.results45, go_sem, v0, v1, v2, v3, v4, v5]) rfl ⟨below_set6 HB1.out (by omega) _ _ _ _ _ _, [], 9, ⟨#[]⟩, [], none, 0, 0, none, 0, 0, false, ⟨#[]⟩, rfl, HCP.out, nil9 _ _, looks_nil _ _⟩
  · have HCP : Hid (TrailP ss ts nm [] 9 ⟨#[]⟩ []) := Or.inl ⟨fun q => hc q.1, rfl, rfl, rfl, rfl⟩
    generalize chk ss ts = z at hc
    go_wp2_with fail
    obtain ⟨⟨v0, v1, v2, v3, v4, v5⟩, _⟩ := bk6 (set6_at HR1.out (.bool false) (.int .i64 9) (.string ⟨#[]⟩) (.slice none 0 0) (.string ⟨#[]⟩) (.slice none 0 0))
    exact bodyPost_ret (v := .agg #[.bool false, .int .i64 9, .string ⟨#[]⟩, .slice none 0 0, .string ⟨#[]⟩, .slice none 0 0]) (by simp [results, Tryz.results45, go_sem, v0, v1, v2, v3, v4, v5]) rfl ⟨below_set6 HB1.out (by omega) _ _ _ _ _ _, [], 9, ⟨#[]⟩, [], none, 0, 0, none, 0, 0, false, ⟨#[]⟩, rfl, HCP.out, nil9 _ _, looks_nil _ _⟩
end Go.Proofs.YtmeojnaoljgieaeGreatDoor
