import Derived.Test.YtmanoabocelpeaaGreatDoorTMkT
import Derived.Test.YtmanoabocelpeaaGreatDoorTOrd
namespace Go.Proofs.YtmanoabocelpeaaGreatDoor
open Go.RowKit
set_option linter.unusedVariables false
set_option linter.unusedSimpArgs false
set_option maxHeartbeats 8000000
set_option maxRecDepth 100000
section
open Go.Deep
theorem rowG_nil (w : World) (a : Option Addr) : RowG w a [] := fun i hi => by simp at hi
theorem looks_rowG {w : World} {B n : Nat} {a : Option Addr} {cap : Nat} {ls : List G3} (h : LooksO w B (.slice a n cap) ls) : n = ls.length /\ RowG w a ls := by
 obtain ⟨xs, h1, h2⟩ := h
 rcases h1.2 with ⟨e, h0⟩ | ⟨g, cp, cur, e, _⟩
 ·simp only [Value.slice.injEq] at e
  exact ⟨by omega, fun i hi => by omega⟩
 ·simp only [Value.slice.injEq] at e
  obtain ⟨rfl, rfl, rfl⟩ := e
  refine ⟨rfl, fun i hi => ⟨g, 0, rfl, ?_⟩⟩
  obtain ⟨k1, k2, k3⟩ := h2 i hi
  refine ⟨?_, ?_, ?_⟩
  ·rw [Nat.zero_add, h1.cellAt _ (by omega)]; exact k1
  ·rw [Nat.zero_add, h1.cellAt _ (by omega)]; exact k2
  ·rw [Nat.zero_add, h1.cellAt _ (by omega)]; exact k3
theorem lk_first {ms : Ms} {nm : ByteArray} {o : Option Md} (h : lk ms nm = some o) : ∃ k, k < ms.length /\ (mx ms k).1 = nm /\ (∀ j, j < k -> (mx ms j).1 ≠ nm) /\ (mx ms k).2 = o := by
 induction ms with
 | nil => cases h
 | cons e r ih =>
  obtain ⟨a, x⟩ := e
  by_cases ha : a = nm
  ·subst ha
   rw [lk_cons_same] at h
   cases h
   exact ⟨0, by simp, rfl, fun j hj => by omega, rfl⟩
  ·rw [lk_cons_other ha] at h
   obtain ⟨k, k1, k2, k3, k4⟩ := ih h
   refine ⟨k + 1, by simpa using k1, by rw [mx_cons_succ]; exact k2, fun j hj => ?_, by rw [mx_cons_succ]; exact k4⟩
   cases j with
   | zero => exact ha
   | succ j => rw [mx_cons_succ]; exact k3 j (by omega)
theorem copy_nil (c : Int) (t : ByteArray) (w : World) : Calls Tryz.prog 15 #[.agg #[.int .i64 c, .string t, .slice none 0 0]] w fun e w' => ∃ v, e = .returned v /\ (Below w.heap.size w w' /\ ∃ g, v = .agg #[.int .i64 c, .string t, .slice (some ⟨g, 0, none⟩) 0 0]) :=
 (l3Copy_nil c t w).mono fun e w' ⟨hb, g, he⟩ => ⟨_, he, hb, g, rfl⟩
theorem filledG_one {ls : List G3} {xs : List Value} (h : FilledG ls ls.length xs) (hl : xs.length = ls.length * 3) : ∀ u ∈ xs, u.oneCell' = true := fun u hu => by
 obtain ⟨i, hi, rfl⟩ := List.getElem_of_mem hu
 have h3 : i / 3 < ls.length := by omega
 obtain ⟨k1, k2, k3⟩ := h (i / 3) h3
 have hm : i = i / 3 * 3 \/ i = i / 3 * 3 + 1 \/ i = i / 3 * 3 + 2 := by omega
 rcases hm with q | q | q
 ·have := k1; rw [<- q, List.getElem?_eq_getElem hi] at this; injection this with this; rw [this]; rfl
 ·have := k2; rw [<- q, List.getElem?_eq_getElem hi] at this; injection this with this; rw [this]; rfl
 ·have := k3; rw [<- q, List.getElem?_eq_getElem hi] at this; injection this with this; rw [this]; rfl
theorem far_grown' {base e sz n : Nat} {V w' : World} {v : Value} {xs : List Value} (ho : V.ownsRow base e sz v n xs) (hg : V.grownBy w' v.ownBlock) {b : Nat} {cs : Array Value} {T : TypeId} (h : T ≠ e /\ V.heap[b]? = some (.cells cs T (0, 0))) : w'.heap[b]? = V.heap[b]? := by rw [far_grown ho hg h.1 h.2, h.2]
def TrailS (ss : List S2) (ts : List T2) (nm : ByteArray) (w : World) (e : Ending) (w' : World) : Prop :=
 Below w.heap.size w w' /\ ∃ ls c t ch ca cc la lc, e = .returned (.tuple #[.slice la ls.length lc, .agg #[.int .i64 c, .string t, .slice ca ch.length cc]]) /\ TrailP ss ts nm ls c t ch /\ Strs w' ca ch /\ RowG w' la ls
theorem specTrail_any (sa ta : Option Addr) (c1 c2 : Nat) (ss : List S2) (ts : List T2) (nm : ByteArray) (w : World) (h : SpOk w sa ss ta ts) (hsm : SpSmall ss ts) (hn : nm.size <= 9223372036854775807) :
  Calls Tryz.prog 5 #[.agg #[.slice sa ss.length c1, .slice ta ts.length c2], .string nm] w fun e w' => TrailS ss ts nm w e w' := by
 obtain ⟨W0, eW0⟩ : ∃ W0, (w.alloc (.cells #[.slice sa ss.length c1, .slice ta ts.length c2] 26)).alloc (.cells #[.int .i64 0, .string ⟨#[]⟩, .slice none 0 0] 32) = W0 := ⟨_, rfl⟩
 have hW0s : W0.heap.size = w.heap.size + 1 + 1 := by rw [<- eW0]; simp
 obtain ⟨W, eW⟩ : ∃ W, W0.alloc (.cells #[] 47) = W := ⟨_, rfl⟩
 have hb00 : Below w.heap.size w W0 := by rw [<- eW0]; exact below_trans (alloc_below _ _) (alloc_below _ _)
 have hb0 : Below w.heap.size w W := by rw [<- eW]; exact below_trans hb00 (alloc_below _ _)
 have HRB : Hid (W.heap[w.heap.size + 1]? = some (.cells #[.int .i64 0, .string ⟨#[]⟩, .slice none 0 0] 32 (0, 0))) := by
  show _ = _
  rw [<- eW, Lib.alloc_old _ _ _ (by omega), <- eW0]
  have h := heap_new (w.alloc (.cells #[.slice sa ss.length c1, .slice ta ts.length c2] 26)) (.cells #[.int .i64 0, .string ⟨#[]⟩, .slice none 0 0] 32)
  rw [show (w.alloc (.cells #[.slice sa ss.length c1, .slice ta ts.length c2] 26)).heap.size = w.heap.size + 1 from by simp] at h
  exact h
 have HPB : Hid (W.heap[w.heap.size]? = some (.cells #[.slice sa ss.length c1, .slice ta ts.length c2] 26 (0, 0))) := by
  show _ = _
  rw [<- eW, Lib.alloc_old _ _ _ (by omega), <- eW0, Lib.alloc_old _ _ _ (by simp)]
  exact heap_new _ _
 have HNB : Hid (W.ownsRow w.heap.size 47 3 (.slice (some ⟨w.heap.size + 1 + 1, 0, none⟩) 0 0) 0 []) := by
  have h := World.ownsRow_lit (base := w.heap.size) (e := 47) (size := 3) W0 #[] 0 (by omega) (by unfold maxLen; omega) rfl
  rw [eW, hW0s] at h
  exact h
 have hW9 : w.heap.size + 1 < W.heap.size := blk_lt HRB.out
 have p0 : W.cell? ⟨w.heap.size, 0, none⟩ = some (.slice sa ss.length c1) := by rw [Lib.cell_of_heap HPB.out]; rfl
 have p1 : W.cell? ⟨w.heap.size, 1, none⟩ = some (.slice ta ts.length c2) := by rw [Lib.cell_of_heap HPB.out]; rfl
 have HCK : Hid (Calls Tryz.prog 12 #[.agg #[.slice sa ss.length c1, .slice ta ts.length c2]] W _) := specCheck_any sa ta c1 c2 ss ts W (h.below hb0) hsm
 have HB0 : Hid (Below w.heap.size w W) := hb0
 have HOK : Hid (SpOk w sa ss ta ts) := h
 have EW0 : Hid (W0.heap.size = w.heap.size + 1 + 1) := hW0s
 clear h hb0 hb00 hsm
 go_enter Tryz.func5, Tryz.ntmps5
 go_wp2_with fail
 refine HCK.out.mono ?_
 rintro e w1 ⟨hb1, rfl⟩
 have HB1 : Hid (Below w.heap.size w w1) := HB0.out.trans (hb1.mono (by omega))
 have HR1 : Hid (w1.heap[w.heap.size + 1]? = some (.cells #[.int .i64 0, .string ⟨#[]⟩, .slice none 0 0] 32 (0, 0))) := blk_keep hb1 HRB.out
 have HP1 : Hid (w1.heap[w.heap.size]? = some (.cells #[.slice sa ss.length c1, .slice ta ts.length c2] 26 (0, 0))) := blk_keep hb1 HPB.out
 have HN1 : Hid (w1.ownsRow w.heap.size 47 3 (.slice (some ⟨w.heap.size + 1 + 1, 0, none⟩) 0 0) 0 []) := ownsRow_below HNB.out hb1
 obtain ⟨z0, z1, z2, zf⟩ := bk3 HR1.out
 have q0 : w1.cell? ⟨w.heap.size, 0, none⟩ = some (.slice sa ss.length c1) := by rw [Lib.cell_of_heap HP1.out]; rfl
 have q1 : w1.cell? ⟨w.heap.size, 1, none⟩ = some (.slice ta ts.length c2) := by rw [Lib.cell_of_heap HP1.out]; rfl
 clear hb1 p0 p1 eW eW0 hW0s HCK
 dsimp only
 by_cases hc : chk ss ts = 0
 ·by_cases hnb : nameB nm = true
  ·have hE := env_of (HOK.out.below HB1.out) hc
   have hnk : NameOk nm := by unfold nameB at hnb; simpa using hnb
   have HLC : Hid (Calls Tryz.prog 14 #[.agg #[.slice sa ss.length c1, .slice ta ts.length c2], .string nm] w1 _) := l3Clean_any sa ta c1 c2 ss ts nm w1 hE hnk
   have HCC : Hid (chk ss ts = 0 /\ nameB nm = true) := ⟨hc, hnb⟩
   have HLK : Hid (∀ ms' d, Does ss ts [] [] (.make nm) ms' (.ok d) -> lk ms' nm = some (some d) /\ d.ls.length <= 200 /\ ms'.length <= 40001) := fun ms' d hd => by
    obtain ⟨i1, _, i3⟩ := Does.inv hE.v hd (Inv.nil ss ts) hnk trivial d rfl
    have hph := Does.phi_le hE.v hd hnk (Inv.nil ss ts) trivial
    have hphi : phi ts [] = 0 := by simp [phi, tcount, nms]
    simp only at hph
    exact ⟨i3, (i1.done nm d i3).ls, phi_len i1 hE.l2 (by omega)⟩
   rw [hc]
   clear hE hnk hc
   go_wp2_with (first | (go_at_call 13; refine (l2NameOk_any nm _ hn).mono ?_; rintro e w9 ⟨rfl, rfl⟩; rw [hnb]))
   refine HLC.out.mono ?_
   rintro e w2 ⟨hb2, h, ms', a, rfl, hh, hdo, ho⟩
   have HR2 : Hid (w2.heap[w.heap.size + 1]? = some (.cells #[.int .i64 0, .string ⟨#[]⟩, .slice none 0 0] 32 (0, 0))) := blk_keep hb2 HR1.out
   have HN2 : Hid (w2.ownsRow w.heap.size 47 3 (.slice (some ⟨w.heap.size + 1 + 1, 0, none⟩) 0 0) 0 []) := ownsRow_below HN1.out hb2
   have HB2 : Hid (Below w.heap.size w w2) := HB1.out.trans (hb2.mono (by have := HB1.out.size; omega))
   have hs2 : w.heap.size <= w2.heap.size := HB2.out.size
   have hs1 : w.heap.size <= w1.heap.size := HB1.out.size
   clear hb2 z0 z1 z2 zf q0 q1
   rcases ho with ⟨d, mv, kv, vs, rfl, hdn⟩ | ⟨v, mv, kv, c, t, chv, hblk, rfl, k⟩
   ·obtain ⟨hlk, hl200, hml⟩ := HLK.out _ _ hdo
    obtain ⟨k, hk, hkn, hkf, hkd⟩ := lk_first hlk
    obtain ⟨U, eU⟩ : ∃ U, w2.drew = U := ⟨_, rfl⟩
    have hbU : Below w2.heap.size w2 U := by rw [<- eU]; exact (Below.refl _ _).drew
    have hblkU := blk_keep hbU hdn.blk
    have hrowU := ownsRow_below hdn.row hbU
    have HLO : LooksO U w1.heap.size (vs k) d.ls := (hdn.lks k d hk hkd).below hbU
    obtain ⟨⟨x0, x1, x2, x3⟩, ⟨x4, x5, x6, x7⟩, xf⟩ := bk8 hblkU
    have HFD : Hid (Calls Tryz.prog 16 #[.pointer (some ⟨h, 0, none⟩), .string nm] U fun e w' => ∃ v, e = .returned v /\ (v = .int .i64 (k : Nat) /\ w' = U)) := by
     refine (find_done w1.heap.size h ms' mv vs nm U x2 hrowU (by omega)).mono ?_
     rintro e w' ⟨rfl, ⟨i, rfl, i1, i2, i3⟩ | ⟨rfl, i1⟩⟩
     ·rcases Nat.lt_trichotomy i k with q | q | q
      ·exact absurd i2 (hkf i q)
      ·subst q; exact ⟨_, rfl, rfl, rfl⟩
      ·exact absurd hkn (i3 k q)
     ·exact absurd hkn (i1 k hk)
    obtain ⟨ma, mc, rfl, hat⟩ := row_at hrowU
    obtain ⟨mg, rfl, hc6⟩ := hat k hk
    obtain ⟨mcur, hmcur⟩ : ∃ cur, U.heap[mg]? = some (Obj.cells cur 60 (0, 0)) := (own_kind hrowU (b := mg) (by simp [Value.ownBlock])).2
    have HMW : Hid ((60 : Nat) ≠ 47 /\ U.heap[mg]? = some (.cells mcur 60 (0, 0))) := ⟨by decide, hmcur⟩
    clear hmcur
    have hcell : U.cell? ⟨mg, k * 6 + 4, none⟩ = some (vs k) := by
     rw [hc6 4 (by omega)]
     unfold mk6
     rw [hkd]
     rfl
    have HTP : Hid (TrailP ss ts nm d.ls d.c d.t []) := Or.inr ⟨HCC.out.1, HCC.out.2, _, _, hdo, rfl, rfl, rfl, rfl⟩
    have hkI : (k : Int) < (ms'.length : Int) := by omega
    have HR3 : Hid (U.heap[w.heap.size + 1]? = some (.cells #[.int .i64 0, .string ⟨#[]⟩, .slice none 0 0] 32 (0, 0))) := blk_keep hbU HR2.out
    have HNU : Hid (U.ownsRow w.heap.size 47 3 (.slice (some ⟨w.heap.size + 1 + 1, 0, none⟩) 0 0) 0 []) := ownsRow_below HN2.out hbU
    have HBU : Hid (Below w.heap.size w U) := HB2.out.trans (hbU.mono hs2)
    have HBL : Hid (U.heap[h]? = some (.cells #[.slice sa ss.length c1, .slice ta ts.length c2, .slice (some ⟨mg, 0, none⟩) ms'.length mc, kv, .int .i64 d.c, .string d.t, .slice none 0 0, .bool false] 57 (0, 0))) := hblkU
    have HLU : Hid (LooksO U w1.heap.size (vs k) d.ls) := HLO
    have x7' : w2.cell? ⟨h, 7, none⟩ = some (.bool false) := by rw [Lib.cell_of_heap hdn.blk]; rfl
    obtain ⟨dc, dt, dls⟩ := d
    have hsU : w.heap.size <= U.heap.size := HBU.out.size
    obtain ⟨lv, elv⟩ : ∃ lv, vs k = lv := ⟨_, rfl⟩
    rw [elv] at hcell HLU
    clear hbU hblkU hrowU HLO hat hc6 hdn hlk hkn hkf hkd hdo HR2 HN2 elv
    go_upto_region 7 with fail
    clear x7'
    obtain ⟨xs, HLr, HLf⟩ := HLU.out
    rcases HLr.2 with ⟨rfl, hl0⟩ | ⟨lg, lcp, lcur, rfl, hlg⟩
    ·have hls0 : dls = [] := List.length_eq_zero_iff.mp hl0
     subst hls0
     refine Lt.begin 18 (fun w' => w'.cell? ⟨h, 2, none⟩ = some (.slice (some ⟨mg, 0, none⟩) ms'.length mc) /\ w'.cell? ⟨h, 4, none⟩ = some (.int .i64 dc) /\ w'.cell? ⟨h, 5, none⟩ = some (.string dt) /\ w'.cell? ⟨h, 6, none⟩ = some (.slice none 0 0) /\ w'.cell? ⟨mg, k * 6 + 4, none⟩ = some (.slice none 0 0)) (by kernel_rfl) ?_
     rw [eU]
     have hS0 : U.cell? ⟨h, 2, none⟩ = some (.slice (some ⟨mg, 0, none⟩) ms'.length mc) /\ U.cell? ⟨h, 4, none⟩ = some (.int .i64 dc) /\ U.cell? ⟨h, 5, none⟩ = some (.string dt) /\ U.cell? ⟨h, 6, none⟩ = some (.slice none 0 0) /\ U.cell? ⟨mg, k * 6 + 4, none⟩ = some (.slice none 0 0) := ⟨x2, x4, x5, x6, hcell⟩
     change K 0 _
     iterate 7
      refine Lt.ti (v := ?_) hS0 ?_ ?_
      rotate_left 1
      ·intro w hSw; (try dsimp only at hSw); go_simp; first | done | with_reducible rfl
      simp only [gX]
     change K 12 _
     iterate 4
      refine Lt.ti (v := ?_) hS0 ?_ ?_
      rotate_left 1
      ·intro w hSw; (try dsimp only at hSw); go_simp; first | done | with_reducible rfl
      simp only [gX]
     refine Lt.sp (i := 7) (fun K hK => ?_)
     refine step_call2 (f := 16) rfl rfl (.pointer (some ⟨h, 0, none⟩)) (.string nm) rfl rfl HFD.out (fun W => by simp [go_sem]) ?_
     rintro v w' ⟨hv', hw'⟩
     rw [hv', hw']
     refine hK.out _ _ (fun _ => hS0) (fun _ => ?_)
     clear hK K hv' hw'
     simp only [gX]
     change K 8 _
     iterate 3
      refine Lt.ti (v := ?_) hS0 ?_ ?_
      rotate_left 1
      ·intro w hSw; (try dsimp only at hSw); go_simp; first | done | with_reducible rfl
      simp only [gX]
     refine Lt.sp (i := 11) (fun K hK => ?_)
     go_simp
     refine hK.out _ _ (fun _ => hS0) (fun hS5 => ?_)
     replace hS5 := hS5 (by decide)
     clear hK K
     have HR5 : Hid (U.heap[w.heap.size + 1]? = some (.cells #[.int .i64 0, .string ⟨#[]⟩, .slice none 0 0] 32 (0, 0))) := HR3.out
     have HB5 : Hid (Below w.heap.size w U) := HBU.out
     try simp only [gX]
     refine Lt.sp (i := 16) (fun K hK => ?_)
     refine step_call1 (f := 15) rfl rfl (.agg #[.int .i64 dc, .string dt, .slice none 0 0]) rfl (copy_nil dc dt _) (fun W => by simp [go_sem]) ?_
     rintro v w6 ⟨hb6, g6, hv6⟩
     rw [hv6]
     have HR6 : Hid (w6.heap[w.heap.size + 1]? = some (.cells #[.int .i64 0, .string ⟨#[]⟩, .slice none 0 0] 32 (0, 0))) := blk_keep hb6 HR5.out
     have HB6 : Hid (Below w.heap.size w w6) := below_trans HB5.out hb6
     refine hK.out _ _ (fun _ => ⟨cell_below hb6 hS5.1, cell_below hb6 hS5.2.1, cell_below hb6 hS5.2.2.1, cell_below hb6 hS5.2.2.2.1, cell_below hb6 hS5.2.2.2.2⟩) (fun hS6 => ?_)
     replace hS6 := hS6 (by decide)
     clear hK K hS5 hv6
     simp only [gX]
     refine Lt.ti (i := 17) (v := ?_) hS6 ?_ ?_
     rotate_left 1
     ·intro w hSw; (try dsimp only at hSw); go_simp; first | done | with_reducible rfl
     simp only [gX]
     obtain ⟨r0, r1, r2, rf⟩ := bk3 HR6.out
     clear hb6
     refine Lt.sp (i := 18) (fun K hK => ?_)
     go_simp
     refine hK.out _ _ (fun h => absurd rfl h) (fun _ => ?_)
     clear hK K hS6
     refine Lt.done (by kernel_rfl) ?_ _
     go_wp2_with fail
     have hb := below_set3 HB6.out (b := w.heap.size + 1) (by omega) (.int .i64 dc) (.string dt) (.slice (some ⟨g6, 0, none⟩) 0 0)
     obtain ⟨v0, v1, v2, _⟩ := bk3 (set3_at HR6.out (.int .i64 dc) (.string dt) (.slice (some ⟨g6, 0, none⟩) 0 0))
     exact bodyPost_ret (v := .tuple #[.slice (some ⟨w.heap.size + 1 + 1, 0, none⟩) ([] : List G3).length 0, .agg #[.int .i64 dc, .string dt, .slice (some ⟨g6, 0, none⟩) 0 0]]) (by simp [results, Tryz.results5, go_sem, v0, v1, v2]) rfl ⟨hb, [], dc, dt, [], some ⟨g6, 0, none⟩, 0, _, _, rfl, HTP.out, strs_nil _ _, rowG_nil _ _⟩
    ·by_cases hl0 : dls.length = 0
     ·have hls0 : dls = [] := List.length_eq_zero_iff.mp hl0
      subst hls0
      refine Lt.begin 18 (fun w' => w'.cell? ⟨h, 2, none⟩ = some (.slice (some ⟨mg, 0, none⟩) ms'.length mc) /\ w'.cell? ⟨h, 4, none⟩ = some (.int .i64 dc) /\ w'.cell? ⟨h, 5, none⟩ = some (.string dt) /\ w'.cell? ⟨h, 6, none⟩ = some (.slice none 0 0) /\ w'.cell? ⟨mg, k * 6 + 4, none⟩ = some (.slice (some ⟨lg, 0, none⟩) 0 lcp)) (by kernel_rfl) ?_
      rw [eU]
      have hS0 : U.cell? ⟨h, 2, none⟩ = some (.slice (some ⟨mg, 0, none⟩) ms'.length mc) /\ U.cell? ⟨h, 4, none⟩ = some (.int .i64 dc) /\ U.cell? ⟨h, 5, none⟩ = some (.string dt) /\ U.cell? ⟨h, 6, none⟩ = some (.slice none 0 0) /\ U.cell? ⟨mg, k * 6 + 4, none⟩ = some (.slice (some ⟨lg, 0, none⟩) 0 lcp) := ⟨x2, x4, x5, x6, hcell⟩
      change K 0 _
      iterate 7
       refine Lt.ti (v := ?_) hS0 ?_ ?_
       rotate_left 1
       ·intro w hSw; (try dsimp only at hSw); go_simp; first | done | with_reducible rfl
       simp only [gX]
      change K 12 _
      iterate 4
       refine Lt.ti (v := ?_) hS0 ?_ ?_
       rotate_left 1
       ·intro w hSw; (try dsimp only at hSw); go_simp; first | done | with_reducible rfl
       simp only [gX]
      refine Lt.sp (i := 7) (fun K hK => ?_)
      refine step_call2 (f := 16) rfl rfl (.pointer (some ⟨h, 0, none⟩)) (.string nm) rfl rfl HFD.out (fun W => by simp [go_sem]) ?_
      rintro v w' ⟨hv', hw'⟩
      rw [hv', hw']
      refine hK.out _ _ (fun _ => hS0) (fun _ => ?_)
      clear hK K hv' hw'
      simp only [gX]
      change K 8 _
      iterate 3
       refine Lt.ti (v := ?_) hS0 ?_ ?_
       rotate_left 1
       ·intro w hSw; (try dsimp only at hSw); go_simp; first | done | with_reducible rfl
       simp only [gX]
      refine Lt.sp (i := 11) (fun K hK => ?_)
      go_simp
      refine hK.out _ _ (fun _ => hS0) (fun hS5 => ?_)
      replace hS5 := hS5 (by decide)
      clear hK K
      have HR5 : Hid (U.heap[w.heap.size + 1]? = some (.cells #[.int .i64 0, .string ⟨#[]⟩, .slice none 0 0] 32 (0, 0))) := HR3.out
      have HB5 : Hid (Below w.heap.size w U) := HBU.out
      try simp only [gX]
      refine Lt.sp (i := 16) (fun K hK => ?_)
      refine step_call1 (f := 15) rfl rfl (.agg #[.int .i64 dc, .string dt, .slice none 0 0]) rfl (copy_nil dc dt _) (fun W => by simp [go_sem]) ?_
      rintro v w6 ⟨hb6, g6, hv6⟩
      rw [hv6]
      have HR6 : Hid (w6.heap[w.heap.size + 1]? = some (.cells #[.int .i64 0, .string ⟨#[]⟩, .slice none 0 0] 32 (0, 0))) := blk_keep hb6 HR5.out
      have HB6 : Hid (Below w.heap.size w w6) := below_trans HB5.out hb6
      refine hK.out _ _ (fun _ => ⟨cell_below hb6 hS5.1, cell_below hb6 hS5.2.1, cell_below hb6 hS5.2.2.1, cell_below hb6 hS5.2.2.2.1, cell_below hb6 hS5.2.2.2.2⟩) (fun hS6 => ?_)
      replace hS6 := hS6 (by decide)
      clear hK K hS5 hv6
      simp only [gX]
      refine Lt.ti (i := 17) (v := ?_) hS6 ?_ ?_
      rotate_left 1
      ·intro w hSw; (try dsimp only at hSw); go_simp; first | done | with_reducible rfl
      simp only [gX]
      obtain ⟨r0, r1, r2, rf⟩ := bk3 HR6.out
      clear hb6
      refine Lt.sp (i := 18) (fun K hK => ?_)
      go_simp
      refine hK.out _ _ (fun h => absurd rfl h) (fun _ => ?_)
      clear hK K hS6
      refine Lt.done (by kernel_rfl) ?_ _
      go_wp2_with fail
      have hb := below_set3 HB6.out (b := w.heap.size + 1) (by omega) (.int .i64 dc) (.string dt) (.slice (some ⟨g6, 0, none⟩) 0 0)
      obtain ⟨v0, v1, v2, _⟩ := bk3 (set3_at HR6.out (.int .i64 dc) (.string dt) (.slice (some ⟨g6, 0, none⟩) 0 0))
      exact bodyPost_ret (v := .tuple #[.slice (some ⟨w.heap.size + 1 + 1, 0, none⟩) ([] : List G3).length 0, .agg #[.int .i64 dc, .string dt, .slice (some ⟨g6, 0, none⟩) 0 0]]) (by simp [results, Tryz.results5, go_sem, v0, v1, v2]) rfl ⟨hb, [], dc, dt, [], some ⟨g6, 0, none⟩, 0, _, _, rfl, HTP.out, strs_nil _ _, rowG_nil _ _⟩
     ·have HN0 : Hid (0 < dls.length) := by show _ < _; omega
      have HRW : Hid (U.ownsRow w1.heap.size 47 3 (.slice (some ⟨lg, 0, none⟩) dls.length lcp) dls.length xs) := HLr
      have HFL : Hid (FilledG dls dls.length xs) := HLf
      have HCE : Hid (∀ u ∈ xs, u.oneCell' = true) := fun u hu => filledG_one HLf HLr.1 u hu
      have HMG : Hid (∀ w5, U.grownBy w5 (some (w.heap.size + 1 + 1)) -> w5.cell? ⟨mg, k * 6 + 4, none⟩ = some (.slice (some ⟨lg, 0, none⟩) dls.length lcp)) := fun w5 hg => by
       have hm := HMW.out
       rw [cell_same (far_grown' HNU.out hg hm)]
       exact hcell
      clear HLr HLf hlg HLU
      refine Lt.begin 18 (fun w' => w'.cell? ⟨h, 2, none⟩ = some (.slice (some ⟨mg, 0, none⟩) ms'.length mc) /\ w'.cell? ⟨h, 4, none⟩ = some (.int .i64 dc) /\ w'.cell? ⟨h, 5, none⟩ = some (.string dt) /\ w'.cell? ⟨h, 6, none⟩ = some (.slice none 0 0) /\ w'.cell? ⟨mg, k * 6 + 4, none⟩ = some (.slice (some ⟨lg, 0, none⟩) dls.length lcp)) (by kernel_rfl) ?_
      rw [eU]
      have hS0 : U.cell? ⟨h, 2, none⟩ = some (.slice (some ⟨mg, 0, none⟩) ms'.length mc) /\ U.cell? ⟨h, 4, none⟩ = some (.int .i64 dc) /\ U.cell? ⟨h, 5, none⟩ = some (.string dt) /\ U.cell? ⟨h, 6, none⟩ = some (.slice none 0 0) /\ U.cell? ⟨mg, k * 6 + 4, none⟩ = some (.slice (some ⟨lg, 0, none⟩) dls.length lcp) := ⟨x2, x4, x5, x6, hcell⟩
      change K 0 _
      iterate 7
       refine Lt.ti (v := ?_) hS0 ?_ ?_
       rotate_left 1
       ·intro w hSw; (try dsimp only at hSw); go_simp; first | done | with_reducible rfl
       simp only [gX]
      change K 12 _
      iterate 4
       refine Lt.ti (v := ?_) hS0 ?_ ?_
       rotate_left 1
       ·intro w hSw; (try dsimp only at hSw); go_simp; first | done | with_reducible rfl
       simp only [gX]
      refine Lt.sp (i := 7) (fun K hK => ?_)
      refine step_call2 (f := 16) rfl rfl (.pointer (some ⟨h, 0, none⟩)) (.string nm) rfl rfl HFD.out (fun W => by simp [go_sem]) ?_
      rintro v w' ⟨hv', hw'⟩
      rw [hv', hw']
      refine hK.out _ _ (fun _ => hS0) (fun _ => ?_)
      clear hK K hv' hw'
      simp only [gX]
      change K 8 _
      iterate 3
       refine Lt.ti (v := ?_) hS0 ?_ ?_
       rotate_left 1
       ·intro w hSw; (try dsimp only at hSw); go_simp; first | done | with_reducible rfl
       simp only [gX]
      refine Lt.sp (i := 11) (fun K hK => ?_)
      refine step_appR rfl rfl w.heap.size (w.heap.size + 1 + 1) rfl HNU.out lg dls.length lcp xs HN0.out hl200 rfl (own_base HRW.out hs1) HCE.out hsU ?_
      intro g5 cp5 w5 hown5 hgrow5
      have HR5 : Hid (w5.heap[w.heap.size + 1]? = some (.cells #[.int .i64 0, .string ⟨#[]⟩, .slice none 0 0] 32 (0, 0))) := far_grown HNU.out hgrow5 (by decide) HR3.out
      obtain ⟨⟨y0, y1, y2, y3⟩, ⟨y4, y5, y6, y7⟩, yf⟩ := bk8 (far_grown HNU.out hgrow5 (by decide) HBL.out)
      have y8 : w5.cell? ⟨mg, k * 6 + 4, none⟩ = some (.slice (some ⟨lg, 0, none⟩) dls.length lcp) := HMG.out w5 hgrow5
      have HB5 : Hid (Below w.heap.size w w5) := HBU.out.grown hgrow5 hsU (fun k hk => by simp at hk; omega)
      have HRG5 : Hid (LooksO w5 w.heap.size (.slice (some ⟨g5, 0, none⟩) dls.length cp5) dls) := ⟨xs, hown5, HFL.out⟩
      refine hK.out _ _ (fun _ => ⟨y2, y4, y5, y6, y8⟩) (fun hS5 => ?_)
      replace hS5 := hS5 (by decide)
      clear hK K hown5 hgrow5 y0 y1 y2 y3 y4 y5 y6 y7 yf y8
      simp only [gX]
      refine Lt.sp (i := 16) (fun K hK => ?_)
      refine step_call1 (f := 15) rfl rfl (.agg #[.int .i64 dc, .string dt, .slice none 0 0]) rfl (copy_nil dc dt _) (fun W => by simp [go_sem]) ?_
      rintro v w6 ⟨hb6, g6, hv6⟩
      rw [hv6]
      have HR6 : Hid (w6.heap[w.heap.size + 1]? = some (.cells #[.int .i64 0, .string ⟨#[]⟩, .slice none 0 0] 32 (0, 0))) := blk_keep hb6 HR5.out
      have HB6 : Hid (Below w.heap.size w w6) := below_trans HB5.out hb6
      have HRG6 : Hid (LooksO w6 w.heap.size (.slice (some ⟨g5, 0, none⟩) dls.length cp5) dls) := HRG5.out.below hb6
      refine hK.out _ _ (fun _ => ⟨cell_below hb6 hS5.1, cell_below hb6 hS5.2.1, cell_below hb6 hS5.2.2.1, cell_below hb6 hS5.2.2.2.1, cell_below hb6 hS5.2.2.2.2⟩) (fun hS6 => ?_)
      replace hS6 := hS6 (by decide)
      clear hK K hS5 hv6
      simp only [gX]
      refine Lt.ti (i := 17) (v := ?_) hS6 ?_ ?_
      rotate_left 1
      ·intro w hSw; (try dsimp only at hSw); go_simp; first | done | with_reducible rfl
      simp only [gX]
      obtain ⟨r0, r1, r2, rf⟩ := bk3 HR6.out
      clear hb6
      refine Lt.sp (i := 18) (fun K hK => ?_)
      go_simp
      refine hK.out _ _ (fun h => absurd rfl h) (fun _ => ?_)
      clear hK K hS6
      refine Lt.done (by kernel_rfl) ?_ _
      go_wp2_with fail
      have hb := below_set3 HB6.out (b := w.heap.size + 1) (by omega) (.int .i64 dc) (.string dt) (.slice (some ⟨g6, 0, none⟩) 0 0)
      have hlk6 : LooksO _ w.heap.size (.slice (some ⟨g5, 0, none⟩) dls.length cp5) dls := HRG6.out.keptB (fun b' q => set3_ne (w := w6) (b := w.heap.size + 1) (fun e => by obtain ⟨ys, k1, _⟩ := HRG6.out; subst e; exact own_ne_cells k1 (by decide) HR6.out q) (.int .i64 dc) (.string dt) (.slice (some ⟨g6, 0, none⟩) 0 0))
      have hrg := (looks_rowG hlk6).2
      obtain ⟨v0, v1, v2, _⟩ := bk3 (set3_at HR6.out (.int .i64 dc) (.string dt) (.slice (some ⟨g6, 0, none⟩) 0 0))
      exact bodyPost_ret (v := .tuple #[.slice (some ⟨g5, 0, none⟩) (dls : List G3).length cp5, .agg #[.int .i64 dc, .string dt, .slice (some ⟨g6, 0, none⟩) 0 0]]) (by simp [results, Tryz.results5, go_sem, v0, v1, v2]) rfl ⟨hb, dls, dc, dt, [], some ⟨g6, 0, none⟩, 0, _, _, rfl, HTP.out, strs_nil _ _, hrg⟩
   ·obtain ⟨⟨x0, x1, x2, x3⟩, ⟨x4, x5, x6, x7⟩, xf⟩ := bk8 hblk
    obtain ⟨ch, HTP, HCV⟩ : ∃ ch, Hid (TrailP ss ts nm [] c t ch) /\ ((ch = [] /\ chv = .slice none 0 0) \/ (0 < ch.length /\ ch.length <= 60 /\ ∃ base g cp, chv = .slice (some ⟨g, 0, none⟩) ch.length cp /\ w2.ownsRow base 9 1 chv ch.length (strV ch))) := by
     cases a with
     | ok d => exact absurd k id
     | circle l =>
      obtain ⟨rfl, rfl, base, hown⟩ := k
      obtain ⟨l0, l6⟩ := hdo.circle_len (by simp) l rfl
      refine ⟨l, Or.inr ⟨HCC.out.1, HCC.out.2, _, _, hdo, rfl, rfl, rfl, rfl⟩, Or.inr ⟨l0, l6, base, ?_⟩⟩
      rcases hown.2 with ⟨_, h0⟩ | ⟨g, cap, cur, e, _⟩
      ·omega
      ·exact ⟨g, cap, e, hown⟩
     | deep x =>
      obtain ⟨rfl, rfl, rfl⟩ := k
      exact ⟨[], Or.inr ⟨HCC.out.1, HCC.out.2, _, _, hdo, rfl, rfl, rfl, rfl⟩, Or.inl ⟨rfl, rfl⟩⟩
    clear k hdo hblk
    rcases HCV with ⟨rfl, rfl⟩ | ⟨l0, l6, base, g, cp, rfl, hown⟩
    ·go_wp2_with fail
     refine (l3Copy_nil c t w2).mono ?_
     rintro e w3 ⟨hb3, g', rfl⟩
     have HR3 : Hid (w3.heap[w.heap.size + 1]? = some (.cells #[.int .i64 0, .string ⟨#[]⟩, .slice none 0 0] 32 (0, 0))) := blk_keep hb3 HR2.out
     have HB3 : Hid (Below w.heap.size w w3) := HB2.out.trans (hb3.mono hs2)
     obtain ⟨z0, z1, z2, zf⟩ := bk3 HR3.out
     clear hb3 x0 x1 x2 x3 x4 x5 x6 x7 xf
     dsimp only
     go_wp2_with fail
     have hb := below_set3 HB3.out (b := w.heap.size + 1) (by omega) (.int .i64 c) (.string t) (.slice (some ⟨g', 0, none⟩) 0 0)
     obtain ⟨v0, v1, v2, _⟩ := bk3 (set3_at HR3.out (.int .i64 c) (.string t) (.slice (some ⟨g', 0, none⟩) 0 0))
     exact bodyPost_ret (v := .tuple #[.slice (some ⟨w.heap.size + 1 + 1, 0, none⟩) 0 0, .agg #[.int .i64 c, .string t, .slice (some ⟨g', 0, none⟩) 0 0]]) (by simp [results, Tryz.results5, go_sem, v0, v1, v2]) rfl ⟨hb, [], c, t, [], some ⟨g', 0, none⟩, 0, _, 0, rfl, HTP.out, strs_nil _ _, rowG_nil _ _⟩
    ·have HOW : Hid _ := hown
     clear hown
     go_wp2_with fail
     refine (l3Copy_row c t ch base g cp w2 l0 l6 HOW.out).mono ?_
     rintro e w3 ⟨hb3, g', cp', rfl, hown3⟩
     have HR3 : Hid (w3.heap[w.heap.size + 1]? = some (.cells #[.int .i64 0, .string ⟨#[]⟩, .slice none 0 0] 32 (0, 0))) := blk_keep hb3 HR2.out
     have HB3 : Hid (Below w.heap.size w w3) := HB2.out.trans (hb3.mono hs2)
     have HO3 : Hid (w3.ownsRow w2.heap.size 9 1 (.slice (some ⟨g', 0, none⟩) ch.length cp') ch.length (strV ch)) := hown3
     obtain ⟨z0, z1, z2, zf⟩ := bk3 HR3.out
     clear hb3 x0 x1 x2 x3 x4 x5 x6 x7 xf hown3
     dsimp only
     go_wp2_with fail
     have hb := below_set3 HB3.out (b := w.heap.size + 1) (by omega) (.int .i64 c) (.string t) (.slice (some ⟨g', 0, none⟩) ch.length cp')
     have ho := own_same HO3.out (fun b' q => set3_ne (w := w3) (b := w.heap.size + 1) (fun e => by subst e; exact own_ne_cells HO3.out (by decide) HR3.out q) (.int .i64 c) (.string t) (.slice (some ⟨g', 0, none⟩) ch.length cp'))
     obtain ⟨v0, v1, v2, _⟩ := bk3 (set3_at HR3.out (.int .i64 c) (.string t) (.slice (some ⟨g', 0, none⟩) ch.length cp'))
     exact bodyPost_ret (v := .tuple #[.slice (some ⟨w.heap.size + 1 + 1, 0, none⟩) 0 0, .agg #[.int .i64 c, .string t, .slice (some ⟨g', 0, none⟩) ch.length cp']]) (by simp [results, Tryz.results5, go_sem, v0, v1, v2]) rfl ⟨hb, [], c, t, ch, some ⟨g', 0, none⟩, cp', _, 0, rfl, HTP.out, strs_row ho, rowG_nil _ _⟩
  ·have hnf : nameB nm = false := by simpa using hnb
   have HCP : Hid (TrailP ss ts nm [] 9 ⟨#[]⟩ []) := Or.inl ⟨fun q => hnb q.2, rfl, rfl, rfl, rfl⟩
   rw [hc]
   clear hnb hc
   go_wp2_with (first | (go_at_call 13; refine (l2NameOk_any nm _ hn).mono ?_; rintro e w9 ⟨rfl, rfl⟩; rw [hnf]))
   have hb := below_set3 HB1.out (b := w.heap.size + 1) (by omega) (.int .i64 9) (.string ⟨#[]⟩) (.slice none 0 0)
   obtain ⟨v0, v1, v2, _⟩ := bk3 (set3_at HR1.out (.int .i64 9) (.string ⟨#[]⟩) (.slice none 0 0))
   exact bodyPost_ret (v := .tuple #[.slice (some ⟨w.heap.size + 1 + 1, 0, none⟩) 0 0, .agg #[.int .i64 9, .string ⟨#[]⟩, .slice none 0 0]]) (by simp [results, Tryz.results5, go_sem, v0, v1, v2]) rfl ⟨hb, [], 9, ⟨#[]⟩, [], none, 0, _, 0, rfl, HCP.out, strs_nil _ _, rowG_nil _ _⟩
 ·have HCP : Hid (TrailP ss ts nm [] 9 ⟨#[]⟩ []) := Or.inl ⟨fun q => hc q.1, rfl, rfl, rfl, rfl⟩
  generalize chk ss ts = z at hc
  go_wp2_with fail
  have hb := below_set3 HB1.out (b := w.heap.size + 1) (by omega) (.int .i64 9) (.string ⟨#[]⟩) (.slice none 0 0)
  obtain ⟨v0, v1, v2, _⟩ := bk3 (set3_at HR1.out (.int .i64 9) (.string ⟨#[]⟩) (.slice none 0 0))
  exact bodyPost_ret (v := .tuple #[.slice (some ⟨w.heap.size + 1 + 1, 0, none⟩) 0 0, .agg #[.int .i64 9, .string ⟨#[]⟩, .slice none 0 0]]) (by simp [results, Tryz.results5, go_sem, v0, v1, v2]) rfl ⟨hb, [], 9, ⟨#[]⟩, [], none, 0, _, 0, rfl, HCP.out, strs_nil _ _, rowG_nil _ _⟩
end
end Go.Proofs.YtmanoabocelpeaaGreatDoor
