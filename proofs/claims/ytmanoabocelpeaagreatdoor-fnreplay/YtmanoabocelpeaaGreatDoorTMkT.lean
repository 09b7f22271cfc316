import Derived.Test.YtmanoabocelpeaaGreatDoorTClP
import Derived.Test.YtmanoabocelpeaaGreatDoorTNPiece
namespace Go.Proofs.YtmanoabocelpeaaGreatDoor
open Go.RowKit
set_option linter.unusedVariables false
set_option maxHeartbeats 8000000
set_option maxRecDepth 100000
section
open Go.Deep
def TrailP (ss : List S2) (ts : List T2) (nm : ByteArray) (ls : List G3) (c : Int) (t : ByteArray) (ch : List ByteArray) : Prop :=
 (¬ (chk ss ts = 0 /\ nameB nm = true) /\ ls = [] /\ c = 9 /\ t = ⟨#[]⟩ /\ ch = []) \/ (chk ss ts = 0 /\ nameB nm = true /\ ∃ ms a, Does ss ts [] [] (.make nm) ms a /\ (match a with | .ok d => ls = d.ls /\ c = d.c /\ t = d.t /\ ch = [] | .circle l => ls = [] /\ c = 6 /\ t = ⟨#[]⟩ /\ ch = l | .deep x => ls = [] /\ c = 7 /\ t = x /\ ch = []))
theorem TrailP.clean {ss : List S2} {ts : List T2} {nm : ByteArray} {ls : List G3} {c : Int} {t : ByteArray} {ch : List ByteArray} (h : TrailP ss ts nm ls c t ch) : CleanP ss ts nm c t ch := by
 rcases h with ⟨n, _, h⟩ | ⟨y1, y2, ms, a, hd, k⟩
 ·exact Or.inl ⟨n, h⟩
 ·refine Or.inr ⟨y1, y2, ms, a, hd, ?_⟩
  cases a with
  | ok d => exact k.2
  | circle l => exact k.2
  | deep x => exact k.2
theorem TrailP.unique {ss : List S2} {ts : List T2} (hs : Asc (snames ss)) (ht : Asc (tnames ts)) {nm : ByteArray} {ls ls' : List G3} {c c' : Int} {t t' : ByteArray} {ch ch' : List ByteArray} (h : TrailP ss ts nm ls c t ch) (h' : TrailP ss ts nm ls' c' t' ch') : ls' = ls /\ c' = c /\ t' = t /\ ch' = ch := by
 rcases h with ⟨n, rfl, rfl, rfl, rfl⟩ | ⟨y1, y2, ms, a, hd, k⟩
 ·rcases h' with ⟨_, rfl, rfl, rfl, rfl⟩ | ⟨y1, y2, _⟩
  ·exact ⟨rfl, rfl, rfl, rfl⟩
  ·exact absurd ⟨y1, y2⟩ n
 ·rcases h' with ⟨n, _⟩ | ⟨_, _, ms', a', hd', k'⟩
  ·exact absurd ⟨y1, y2⟩ n
  ·obtain ⟨_, rfl⟩ := hd.unique hs ht hd'
   cases a' with
   | ok d => obtain ⟨rfl, rfl, rfl, rfl⟩ := k; obtain ⟨rfl, rfl, rfl, rfl⟩ := k'; exact ⟨rfl, rfl, rfl, rfl⟩
   | circle l => obtain ⟨rfl, rfl, rfl, rfl⟩ := k; obtain ⟨rfl, rfl, rfl, rfl⟩ := k'; exact ⟨rfl, rfl, rfl, rfl⟩
   | deep x => obtain ⟨rfl, rfl, rfl, rfl⟩ := k; obtain ⟨rfl, rfl, rfl, rfl⟩ := k'; exact ⟨rfl, rfl, rfl, rfl⟩
def MarkP (ss : List S2) (ts : List T2) (nm : ByteArray) (w : World) (e : Ending) (w' : World) : Prop :=
 Below w.heap.size w w' /\ ∃ ls c t ch ca cn cc la ln lc b fo, e = .returned (.agg #[.bool b, .int .i64 c, .string t, .slice ca cn cc, .string fo, .slice la ln lc]) /\ TrailP ss ts nm ls c t ch /\ w'.ownsRow w.heap.size 9 1 (.slice ca cn cc) ch.length (strV ch) /\ LooksO w' w.heap.size (.slice la ln lc) ls
theorem nil9 (w : World) (B : Nat) : w.ownsRow B 9 1 (.slice none 0 0) ([] : List ByteArray).length (strV []) := ⟨rfl, Or.inl ⟨rfl, rfl⟩⟩
theorem looks_base {w : World} {B B' : Nat} {v : Value} {ls : List G3} (h : LooksO w B v ls) (hB : B' <= B) : LooksO w B' v ls := by
 obtain ⟨xs, h1, h2⟩ := h
 exact ⟨xs, own_base h1 hB, h2⟩
theorem cleanMark_any (sa ta : Option Addr) (c1 c2 : Nat) (ss : List S2) (ts : List T2) (nm : ByteArray) (w : World) (hT : Tab w) (hP : P10 w) (h : SpOk w sa ss ta ts) (hsm : SpSmall ss ts) (hn : nm.size <= 9223372036854775807) :
  Calls Tryz.prog 18 #[.agg #[.slice sa ss.length c1, .slice ta ts.length c2], .string nm] w fun e w' => MarkP ss ts nm w e w' := by
 obtain ⟨W, eW⟩ : ∃ W, (w.alloc (.cells #[.slice sa ss.length c1, .slice ta ts.length c2] 26)).alloc (.cells #[.bool false, .int .i64 0, .string ⟨#[]⟩, .slice none 0 0, .string ⟨#[]⟩, .slice none 0 0] 66) = W := ⟨_, rfl⟩
 have hb0 : Below w.heap.size w W := by rw [<- eW]; exact below_trans (alloc_below _ _) (alloc_below _ _)
 have HRB : Hid (W.heap[w.heap.size + 1]? = some (.cells #[.bool false, .int .i64 0, .string ⟨#[]⟩, .slice none 0 0, .string ⟨#[]⟩, .slice none 0 0] 66 (0, 0))) := by
  show _ = _
  rw [<- eW]
  have h := heap_new (w.alloc (.cells #[.slice sa ss.length c1, .slice ta ts.length c2] 26)) (.cells #[.bool false, .int .i64 0, .string ⟨#[]⟩, .slice none 0 0, .string ⟨#[]⟩, .slice none 0 0] 66)
  rw [show (w.alloc (.cells #[.slice sa ss.length c1, .slice ta ts.length c2] 26)).heap.size = w.heap.size + 1 from by simp] at h
  exact h
 have HPB : Hid (W.heap[w.heap.size]? = some (.cells #[.slice sa ss.length c1, .slice ta ts.length c2] 26 (0, 0))) := by
  show _ = _
  rw [<- eW, Lib.alloc_old _ _ _ (by simp)]
  exact heap_new _ _
 have hW9 : w.heap.size + 1 < W.heap.size := blk_lt HRB.out
 have p0 : W.cell? ⟨w.heap.size, 0, none⟩ = some (.slice sa ss.length c1) := by rw [Lib.cell_of_heap HPB.out]; rfl
 have p1 : W.cell? ⟨w.heap.size, 1, none⟩ = some (.slice ta ts.length c2) := by rw [Lib.cell_of_heap HPB.out]; rfl
 have HCK : Hid (Calls Tryz.prog 30 #[.agg #[.slice sa ss.length c1, .slice ta ts.length c2]] W _) := implCheck_any sa ta c1 c2 ss ts W (hT.below hb0) (h.below hb0) hsm
 have HB0 : Hid (Below w.heap.size w W) := hb0
 have HOK : Hid (SpOk w sa ss ta ts /\ Tab w /\ P10 w) := ⟨h, hT, hP⟩
 have HN : Hid (∀ V : World, Calls Tryz.prog 31 #[.string nm] V fun e w' => e = .returned (.bool (nameB nm)) /\ V = w') := fun V => validName_any nm V hn
 clear h hb0 hsm hT hP
 go_enter Tryz.func18, Tryz.ntmps18
 go_wp2_with fail
 refine HCK.out.mono ?_
 rintro e w1 ⟨hb1, rfl⟩
 have HB1 : Hid (Below w.heap.size w w1) := HB0.out.trans (hb1.mono (by omega))
 have HR1 : Hid (w1.heap[w.heap.size + 1]? = some (.cells #[.bool false, .int .i64 0, .string ⟨#[]⟩, .slice none 0 0, .string ⟨#[]⟩, .slice none 0 0] 66 (0, 0))) := blk_keep hb1 HRB.out
 have HP1 : Hid (w1.heap[w.heap.size]? = some (.cells #[.slice sa ss.length c1, .slice ta ts.length c2] 26 (0, 0))) := blk_keep hb1 HPB.out
 obtain ⟨⟨z0, z1, z2, z3, z4, z5⟩, zf⟩ := bk6 HR1.out
 have q0 : w1.cell? ⟨w.heap.size, 0, none⟩ = some (.slice sa ss.length c1) := by rw [Lib.cell_of_heap HP1.out]; rfl
 have q1 : w1.cell? ⟨w.heap.size, 1, none⟩ = some (.slice ta ts.length c2) := by rw [Lib.cell_of_heap HP1.out]; rfl
 have hs1 : w.heap.size <= w1.heap.size := HB1.out.size
 have hs1' : w.heap.size + 1 < w1.heap.size := blk_lt HR1.out
 clear hb1 p0 p1 eW HCK
 dsimp only
 by_cases hc : chk ss ts = 0
 ·by_cases hnb : nameB nm = true
  ·have hE := env_of (HOK.out.1.below HB1.out) hc
   have hnk : NameOk nm := by unfold nameB at hnb; simpa using hnb
   have HCC : Hid (chk ss ts = 0 /\ nameB nm = true) := ⟨hc, hnb⟩
   have HMK : Hid (Calls Tryz.prog 32 #[.agg #[.slice sa ss.length c1, .slice ta ts.length c2]] w1 _) := cleanMaker_any sa ta ss.length ts.length c1 c2 w1
   have HFI : Hid (∀ (h mb : Nat) (w2 : World), Mkr w1.heap.size h mb (.slice sa ss.length c1) (.slice ta ts.length c2) (.func (.func 64) #[.pointer (some ⟨h, 0, none⟩)] #[]) w2 [] [] (.slice none 0 0) (.slice none 0 0) (fun _ => .slice none 0 0) -> Below w1.heap.size w1 w2 -> Calls Tryz.prog 33 #[.pointer (some ⟨h, 0, none⟩), .string nm] w2 fun e w' => FirstP w1.heap.size h mb (.slice sa ss.length c1) (.slice ta ts.length c2) (.func (.func 64) #[.pointer (some ⟨h, 0, none⟩)] #[]) ss ts nm w2 e w') := fun h mb w2 hs hb => first_any w1 h mb sa ta c1 c2 ss ts nm w2 hE (HOK.out.2.1.below HB1.out) (HOK.out.2.2.below HB1.out) hnk hs hb
   rw [hc]
   clear hE hnk hc
   go_wp2_with (first | (go_at_call 31; refine (HN.out _).mono ?_; rintro e w9 ⟨rfl, rfl⟩; rw [hnb]))
   refine HMK.out.mono ?_
   rintro e w2 ⟨h, mb, rfl, hb2, hs2⟩
   have HF2 := HFI.out h mb w2 hs2 hb2
   have HFF : Hid (Calls Tryz.prog 33 #[.pointer (some ⟨h, 0, none⟩), .string nm] w2 fun e w' => FirstP w1.heap.size h mb (.slice sa ss.length c1) (.slice ta ts.length c2) (.func (.func 64) #[.pointer (some ⟨h, 0, none⟩)] #[]) ss ts nm w2 e w') := HF2
   have HB2 : Hid (Below w1.heap.size w1 w2) := hb2
   clear HF2 hb2 hs2 z0 z1 z2 z3 z4 z5 zf q0 q1 HMK
   dsimp only
   go_wp2_with fail
   refine HFF.out.mono ?_
   rintro e w3 ⟨hb3, ms', an, hdo, ho⟩
   have HB3 : Hid (Below w1.heap.size w1 w3) := HB2.out.trans hb3
   obtain ⟨ls, c, t, ch, ca, cn, cc, la, ln, lc, b, fo, rfl, hTP, hown, hlo⟩ : ∃ ls c t ch ca cn cc la ln lc b fo, e = .returned (.agg #[.bool b, .int .i64 c, .string t, .slice ca cn cc, .string fo, .slice la ln lc]) /\ TrailP ss ts nm ls c t ch /\ w3.ownsRow w1.heap.size 9 1 (.slice ca cn cc) ch.length (strV ch) /\ LooksO w3 w1.heap.size (.slice la ln lc) ls := by
    rcases ho with ⟨d, lv, rfl, rfl, hlo⟩ | ⟨c, t, ca, cn, cc, rfl, hv⟩
    ·obtain ⟨la, ln, lc, rfl⟩ := looks_is hlo
     exact ⟨d.ls, d.c, d.t, [], none, 0, 0, la, ln, lc, true, formB d.c d.t, rfl, Or.inr ⟨HCC.out.1, HCC.out.2, ms', _, hdo, rfl, rfl, rfl, rfl⟩, nil9 _ _, hlo⟩
    ·cases an with
     | ok d => exact absurd hv id
     | circle l =>
      obtain ⟨ca', cn', cc', e1, hown⟩ := hv
      simp only [Value.agg.injEq, Array.mk.injEq, List.cons.injEq, Value.int.injEq, Value.string.injEq, Value.slice.injEq, and_true, true_and] at e1
      obtain ⟨rfl, rfl, rfl, rfl, rfl⟩ := e1
      exact ⟨[], 6, ⟨#[]⟩, l, ca, cn, cc, none, 0, 0, false, ⟨#[]⟩, rfl, Or.inr ⟨HCC.out.1, HCC.out.2, ms', _, hdo, rfl, rfl, rfl, rfl⟩, hown, looks_nil _ _⟩
     | deep x =>
      have e1 : (Value.agg #[.int .i64 c, .string t, .slice ca cn cc]) = .agg #[.int .i64 7, .string x, .slice none 0 0] := hv
      simp only [Value.agg.injEq, Array.mk.injEq, List.cons.injEq, Value.int.injEq, Value.string.injEq, Value.slice.injEq, and_true, true_and] at e1
      obtain ⟨rfl, rfl, rfl, rfl, rfl⟩ := e1
      exact ⟨[], 7, t, [], none, 0, 0, none, 0, 0, false, ⟨#[]⟩, rfl, Or.inr ⟨HCC.out.1, HCC.out.2, ms', _, hdo, rfl, rfl, rfl, rfl⟩, nil9 _ _, looks_nil _ _⟩
   have HR3 : Hid (w3.heap[w.heap.size + 1]? = some (.cells #[.bool false, .int .i64 0, .string ⟨#[]⟩, .slice none 0 0, .string ⟨#[]⟩, .slice none 0 0] 66 (0, 0))) := by
    show _ = _
    rw [HB3.out.block _ hs1']; exact HR1.out
   have HX3 : Hid (TrailP ss ts nm ls c t ch /\ w3.ownsRow w1.heap.size 9 1 (.slice ca cn cc) ch.length (strV ch) /\ LooksO w3 w1.heap.size (.slice la ln lc) ls) := ⟨hTP, hown, hlo⟩
   obtain ⟨⟨z0, z1, z2, z3, z4, z5⟩, zf⟩ := bk6 HR3.out
   clear ho hdo hb3 hTP hown hlo HFF
   dsimp only
   go_wp2_with fail
   obtain ⟨⟨v0, v1, v2, v3, v4, v5⟩, _⟩ := bk6 (set6_at HR3.out (.bool b) (.int .i64 c) (.string t) (.slice ca cn cc) (.string fo) (.slice la ln lc))
   obtain ⟨x1, x2, x3⟩ := HX3.out
   have ho := own_same x2 (fun b' q => set6_ne (w := w3) (b := w.heap.size + 1) (fun e => by subst e; exact own_ne_cells x2 (by decide) HR3.out q) (.bool b) (.int .i64 c) (.string t) (.slice ca cn cc) (.string fo) (.slice la ln lc))
   have hl : LooksO _ w1.heap.size (.slice la ln lc) ls := x3.keptB (fun b' q => set6_ne (w := w3) (b := w.heap.size + 1) (fun e => by obtain ⟨xs, k1, _⟩ := x3; subst e; exact own_ne_cells k1 (by decide) HR3.out q) (.bool b) (.int .i64 c) (.string t) (.slice ca cn cc) (.string fo) (.slice la ln lc))
   exact bodyPost_ret (v := .agg #[.bool b, .int .i64 c, .string t, .slice ca cn cc, .string fo, .slice la ln lc]) (by simp [results, Tryz.results18, go_sem, v0, v1, v2, v3, v4, v5]) rfl ⟨below_set6 (HB1.out.trans (HB3.out.mono hs1)) (by omega) _ _ _ _ _ _, ls, c, t, ch, ca, cn, cc, la, ln, lc, b, fo, rfl, x1, own_base ho hs1, looks_base hl hs1⟩
  ·have hnf : nameB nm = false := by simpa using hnb
   have HCP : Hid (TrailP ss ts nm [] 9 ⟨#[]⟩ []) := Or.inl ⟨fun q => hnb q.2, rfl, rfl, rfl, rfl⟩
   rw [hc]
   clear hnb hc
   go_wp2_with (first | (go_at_call 31; refine (HN.out _).mono ?_; rintro e w9 ⟨rfl, rfl⟩; rw [hnf]))
   obtain ⟨⟨v0, v1, v2, v3, v4, v5⟩, _⟩ := bk6 (set6_at HR1.out (.bool false) (.int .i64 9) (.string ⟨#[]⟩) (.slice none 0 0) (.string ⟨#[]⟩) (.slice none 0 0))
   exact bodyPost_ret (v := .agg #[.bool false, .int .i64 9, .string ⟨#[]⟩, .slice none 0 0, .string ⟨#[]⟩, .slice none 0 0]) (by simp [results, Tryz.results18, go_sem, v0, v1, v2, v3, v4, v5]) rfl ⟨below_set6 HB1.out (by omega) _ _ _ _ _ _, [], 9, ⟨#[]⟩, [], none, 0, 0, none, 0, 0, false, ⟨#[]⟩, rfl, HCP.out, nil9 _ _, looks_nil _ _⟩
 ·have HCP : Hid (TrailP ss ts nm [] 9 ⟨#[]⟩ []) := Or.inl ⟨fun q => hc q.1, rfl, rfl, rfl, rfl⟩
  generalize chk ss ts = z at hc
  go_wp2_with fail
  obtain ⟨⟨v0, v1, v2, v3, v4, v5⟩, _⟩ := bk6 (set6_at HR1.out (.bool false) (.int .i64 9) (.string ⟨#[]⟩) (.slice none 0 0) (.string ⟨#[]⟩) (.slice none 0 0))
  exact bodyPost_ret (v := .agg #[.bool false, .int .i64 9, .string ⟨#[]⟩, .slice none 0 0, .string ⟨#[]⟩, .slice none 0 0]) (by simp [results, Tryz.results18, go_sem, v0, v1, v2, v3, v4, v5]) rfl ⟨below_set6 HB1.out (by omega) _ _ _ _ _ _, [], 9, ⟨#[]⟩, [], none, 0, 0, none, 0, 0, false, ⟨#[]⟩, rfl, HCP.out, nil9 _ _, looks_nil _ _⟩
end
section
open Go.Deep
theorem implClean_any (sa ta : Option Addr) (c1 c2 : Nat) (ss : List S2) (ts : List T2) (nm : ByteArray) (w : World) (hT : Tab w) (hP : P10 w) (h : SpOk w sa ss ta ts) (hsm : SpSmall ss ts) (hn : nm.size <= 9223372036854775807) :
  Calls Tryz.prog 8 #[.agg #[.slice sa ss.length c1, .slice ta ts.length c2], .string nm] w fun e w' => Below w.heap.size w w' /\ ∃ c t ch ca cn cc, e = .returned (.agg #[.int .i64 c, .string t, .slice ca cn cc]) /\ CleanP ss ts nm c t ch /\ w'.ownsRow w.heap.size 9 1 (.slice ca cn cc) ch.length (strV ch) := by
 obtain ⟨W, eW⟩ : ∃ W, (w.alloc (.cells #[.slice sa ss.length c1, .slice ta ts.length c2] 26)).alloc (.cells #[.int .i64 0, .string ⟨#[]⟩, .slice none 0 0] 32) = W := ⟨_, rfl⟩
 have hb0 : Below w.heap.size w W := by rw [<- eW]; exact below_trans (alloc_below _ _) (alloc_below _ _)
 have HRB : Hid (W.heap[w.heap.size + 1]? = some (.cells #[.int .i64 0, .string ⟨#[]⟩, .slice none 0 0] 32 (0, 0))) := by
  show _ = _
  rw [<- eW]
  have h := heap_new (w.alloc (.cells #[.slice sa ss.length c1, .slice ta ts.length c2] 26)) (.cells #[.int .i64 0, .string ⟨#[]⟩, .slice none 0 0] 32)
  rw [show (w.alloc (.cells #[.slice sa ss.length c1, .slice ta ts.length c2] 26)).heap.size = w.heap.size + 1 from by simp] at h
  exact h
 have p0 : W.cell? ⟨w.heap.size, 0, none⟩ = some (.slice sa ss.length c1) := by rw [<- eW]; simp [go_sem]
 have p1 : W.cell? ⟨w.heap.size, 1, none⟩ = some (.slice ta ts.length c2) := by rw [<- eW]; simp [go_sem]
 have HM : Hid (Calls Tryz.prog 18 #[.agg #[.slice sa ss.length c1, .slice ta ts.length c2], .string nm] W fun e w' => MarkP ss ts nm W e w') := cleanMark_any sa ta c1 c2 ss ts nm W (hT.below hb0) (hP.below hb0) (h.below hb0) hsm hn
 have HB0 : Hid (Below w.heap.size w W) := hb0
 clear h hb0 hsm hT hP
 have hfd : ∀ (v0 v1 v2 v3 v4 v5 : Value) (w : World), (Instr.field 66 (.agg #[v0, v1, v2, v3, v4, v5]) 1).run Tryz.prog w = .ok (.agg #[v1, v2, v3]) w := fun _ _ _ _ _ _ _ => by kernel_rfl
 go_enter Tryz.func8, Tryz.ntmps8
 go_wp2_with fail
 refine HM.out.mono ?_
 rintro e w1 ⟨hb1, ls, c, t, ch, ca, cn, cc, la, ln, lc, b, fo, rfl, hTP, hown, hlo⟩
 have HR1 : Hid (w1.heap[w.heap.size + 1]? = some (.cells #[.int .i64 0, .string ⟨#[]⟩, .slice none 0 0] 32 (0, 0))) := blk_keep hb1 HRB.out
 have HB1 : Hid (Below w.heap.size w w1) := below_trans HB0.out hb1
 have hs := HB0.out.size
 have HX : Hid (TrailP ss ts nm ls c t ch /\ w1.ownsRow W.heap.size 9 1 (.slice ca cn cc) ch.length (strV ch)) := ⟨hTP, hown⟩
 obtain ⟨z0, z1, z2, zf⟩ := bk3 HR1.out
 clear hb1 hTP hown hlo HM p0 p1 eW
 dsimp only
 go_wp2_with fail
 obtain ⟨v0, v1, v2, _⟩ := bk3 (set3_at HR1.out (.int .i64 c) (.string t) (.slice ca cn cc))
 have x2 := HX.out.2
 have ho := own_same x2 (fun b' q => set3_ne (w := w1) (b := w.heap.size + 1) (fun e => by subst e; exact own_ne_cells x2 (by decide) HR1.out q) (.int .i64 c) (.string t) (.slice ca cn cc))
 exact bodyPost_ret (v := .agg #[.int .i64 c, .string t, .slice ca cn cc]) (by simp [results, Tryz.results8, go_sem, v0, v1, v2]) rfl ⟨below_set3 HB1.out (by omega) _ _ _, c, t, ch, ca, cn, cc, rfl, HX.out.1.clean, own_base ho hs⟩
end
end Go.Proofs.YtmanoabocelpeaaGreatDoor
