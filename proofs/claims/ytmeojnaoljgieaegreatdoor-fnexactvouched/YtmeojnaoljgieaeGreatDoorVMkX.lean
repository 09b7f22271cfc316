import Derived.Test.YtmeojnaoljgieaeGreatDoorVMkH
import Derived.Test.YtmeojnaoljgieaeGreatDoorVCpA
import Derived.Test.YtmeojnaoljgieaeGreatDoorVStLaw
import Derived.Test.YtmeojnaoljgieaeGreatDoorVVoT
import Derived.Test.YtmeojnaoljgieaeGreatDoorVSoA
import Derived.Deep.RegionHeld3
namespace Go.Proofs.YtmeojnaoljgieaeGreatDoor
open Go.RowKit
set_option linter.unusedVariables false
set_option maxHeartbeats 8000000
set_option maxRecDepth 100000
section
open Go.Shelf
attribute [local go_sem] Oper.semAt_some
theorem those_stops (n Bl Bs n₀ sb len qc : Nat) (qa : Option Addr) (vals : Nat -> RV) (stays : Nat -> Bool) (hn : 1 <= n) (h63 : len <= 1048576)
    (w : World) (hn0 : n₀ <= w.heap.size) (hBl : Bl < n₀) (hBs : Bs < n₀) (hl : w.cell? ⟨Bl, 0, none⟩ = some (.slice qa len qc)) (hs : w.cell? ⟨Bs, 0, none⟩ = some (.func (.func 100) #[] #[.pointer (some ⟨sb, 0, none⟩)]))
    (hrow : ∀ W', Below n₀ w W' -> ∀ i, i < len -> ∃ b off, qa = some ⟨b, off, none⟩ /\ W'.cell? ⟨b, off + i * 3, none⟩ = some (vals i).cv /\ W'.cell? ⟨b, off + i * 3 + 1, none⟩ = some (vals i).lv /\ W'.cell? ⟨b, off + i * 3 + 2, none⟩ = some (.string (vals i).out))
    (hst : ∀ W', Below n₀ w W' -> ∀ i, i < len -> Calls Tryz.prog 100 #[(vals i).agg, .pointer (some ⟨sb, 0, none⟩)] W' fun e w' => Below W'.heap.size W' w' /\ e = .returned (.bool (stays i))) :
    SeqStopsK Fence.wide n Tryz.prog 153 #[.pointer (some ⟨Bl, 0, none⟩), .pointer (some ⟨Bs, 0, none⟩)] (fun x : RV => #[x.agg]) (Below n₀) (fun ys => ys = comes vals stays len) (fun _ => True) len w := fun l J Jx W hW hJ _ hY h0 => by
  have hW0 : Below n₀ w W := hW.mono hn0
  exact those1_in n l Bl Bs n₀ sb len qc _ len qa vals stays hn (Nat.le_refl _) h63 J Jx hJ hY W (Nat.le_trans hn0 hW.size) hBl hBs ((hW0.cell (p := ⟨Bl, 0, none⟩) hBl).trans hl) ((hW0.cell (p := ⟨Bs, 0, none⟩) hBs).trans hs) (fun W' h => hrow W' (hW0.trans h)) (fun W' h => hst W' (hW0.trans h)) h0
/-- A block of three cells is turned by nobody who turns what is no cells. -/
theorem cells3_own {β : Type} (B : Nat) (t : TypeId) (u v x : Value) : Own (fun (_ : β) W => W.heap[B]? = some (.cells #[u, v, x] t (0, 0))) := fun s X Y row hs hg hrow => by
  have hlt : B < X.heap.size := (Array.getElem?_eq_some_iff.1 hs).1
  refine (hg.block B hlt (fun e => ?_)).trans hs
  obtain ⟨o, ho, hc⟩ := hrow B e.symm
  rw [hs] at ho; cases ho; cases hc
theorem appendSeq_any (Bl Bs len : Nat) (vals : Nat -> RV) (stays : Nat -> Bool) (h63 : len <= 1048576) (w : World)
    (hseq : SeqStopsK Fence.wide 2 Tryz.prog 153 #[.pointer (some ⟨Bl, 0, none⟩), .pointer (some ⟨Bs, 0, none⟩)] (fun x : RV => #[x.agg]) (Below w.heap.size) (fun ys => ys = comes vals stays len) (fun _ => True) len w) :
    Calls Tryz.prog 152 #[.slice none 0 0, .func (.func 153) #[] #[.pointer (some ⟨Bl, 0, none⟩), .pointer (some ⟨Bs, 0, none⟩)]] w fun e W' => ∃ v, e = .returned v /\ W'.ownsRow w.heap.size 63 3 v (comes vals stays len).length ((comes vals stays len).flatMap RV.cells) /\ Below w.heap.size w W' := by
  obtain ⟨i0, hi, hz0, hz1, hz2⟩ := info_parts Tryz.info66b
  refine (callsIn_wide (n := 3)).1 ?_
  refine callsIn_of_wp_marks Tryz.func152 rfl trivial ?_ rfl
  simp only [Tryz.ntmps152, List.size_toArray, List.length_cons, List.length_nil, Nat.reduceAdd, Nat.reduceSub, Array.replicate_succ, Array.replicate_zero, List.push_toArray, List.append_toArray, List.nil_append, List.cons_append]
  gi_wp2
  obtain ⟨W0, eW⟩ : ∃ y, w.alloc (.cells #[.slice none 0 0] 54) = y := ⟨_, rfl⟩
  have bO : Boxed W0 w.heap.size 54 (.slice none 0 0) := by rw [<- eW]; exact Boxed.new w 54 _
  have hB0 : Below w.heap.size w W0 := by rw [<- eW]; exact (Below.refl _ w).alloc (Nat.le_refl _) _
  have hs0 : W0.heap.size = w.heap.size + 1 := by rw [<- eW]; simp
  rw [eW]
  clear eW
  refine wpIn_rangeFunc_ownH rfl (by decide) (gf := 153) (lb := #[.pointer (some ⟨Bl, 0, none⟩), .pointer (some ⟨Bs, 0, none⟩)]) rfl trivial (enters_of Tryz.func153 (by kernel_rfl) rfl)
    hseq belowK_t (belowK_b (by omega)) hB0 (fun _ => rfl)
    (fun pre W => (∃ v, Boxed W w.heap.size 54 v /\ W.ownsRow w.heap.size 63 3 v pre.length (pre.flatMap RV.cells) /\ True) /\ Below w.heap.size w W)
    (fun _ _ _ => False)
    (OwnFrom.and (Own.from (holdsRow_own w.heap.size w.heap.size 54 63 3 (fun pre : List RV => pre.length) (fun pre => pre.flatMap RV.cells) (fun _ _ => True)) _) (ownFrom_below (Nat.le_refl _) (by omega)))
    (fun _ _ _ _ _ hs _ _ => hs)
    ⟨⟨_, bO, World.ownsRow_nil _ _ _ _, trivial⟩, hB0⟩
    (fun x a' W => ∃ Bx, w.heap.size < Bx /\ W.heap[Bx]? = some (.cells #[x.cv, x.lv, .string x.out] 63 (0, 0)) /\ a' = { tmps := #[.slice none 0 0, .func (.func 153) #[] #[.pointer (some ⟨Bl, 0, none⟩), .pointer (some ⟨Bs, 0, none⟩)], .pointer (some ⟨w.heap.size, 0, none⟩), undef, .slice none 0 0, .pointer (some ⟨Bx, 0, none⟩), .func (.func 153) #[] #[.pointer (some ⟨Bl, 0, none⟩), .pointer (some ⟨Bs, 0, none⟩)], x.agg, undef, undef, undef, undef, undef], defers := [] })
    (fun x a' s X Y row hs hg hr => by
      obtain ⟨Bx, h1, h2, h3⟩ := hs
      exact ⟨Bx, h1, cells3_own (β := Unit) Bx 63 _ _ _ () X Y row h2 hg (fun r e => (hr r e).2), h3⟩)
    ?assign ?body ?done ?stop
  case assign =>
    rintro l pre x W K ⟨⟨v, hv, hrow, _⟩, hB⟩ hK
    obtain ⟨ca, cn, cc, la, ln, lc, out⟩ := x
    simp only [RV.cv, RV.lv, RV.agg] at hK ⊢
    gi_wp2
    exact hK _ _ ((KeepsOthers.alloc _ _).from _) ((Below.refl _ W).alloc hB.size _) ⟨⟨v, hv.alloc _, hrow.alloc _, trivial⟩, hB.alloc hB.size _⟩ ⟨W.heap.size, hv.lt, heapW_new _ _, rfl⟩
  case body =>
    rintro l pre x a' W hl hr ⟨⟨v, hv, hrow, _⟩, hB⟩ ⟨Bx, hBx, hx, rfl⟩ hlt
    obtain ⟨ca, cn, cc, la, ln, lc, out⟩ := x
    simp only [RV.cv, RV.lv, RV.agg] at hx ⊢
    have hc := hv.cell
    obtain ⟨x0, x1, x2⟩ := blk_c3 hx
    gi_wp2_with (gi_at_builtin; refine wpListIn_append_own _ rfl _ _ 54 rfl w.heap.size 63 i0 (.agg #[.slice none 0 0, .slice none 0 0, .string ⟨#[]⟩]) 3 64 Tryz.underlying54 hi hz0 hz1 hz2 rfl (by decide) _ _ _ rfl (hrow.alloc _) ⟨W.heap.size, 0, none⟩ 1 1 [.slice ca cn cc, .slice la ln lc, .string out] rfl rfl (World.news_of_block (cs := #[.slice ca cn cc, .slice la ln lc, .string out]) (t := 63) (fr := (0, 0)) (heapW_new _ _)) (by intro u hu; simp at hu; rcases hu with rfl | rfl | rfl <;> rfl) (by unfold maxLen; omega) (by omega) (by have := hB.size; simp; omega) ?_; intro v' w1 hown' hgrow _; obtain ⟨g', cap', rfl⟩ := ownsRow_succ hown'; obtain ⟨hv1, hv2, hr2, hk2, hb2⟩ := hv.appended (by decide) hrow hB.size (Nat.le_refl _) hown' hgrow; have hc1 := hv1.cell; have hf1 := hv1.frozen)
    exact ⟨hk2.from _, hb2, ⟨_, hv2, by simpa [RV.cells, RV.cv, RV.lv] using hr2, trivial⟩, hB.trans hb2⟩
  case done =>
    rintro D ys W hD rfl ⟨⟨v, hv, hrow, _⟩, hB⟩ hK
    have hc := hv.cell
    gi_wp2
    refine ⟨by simp, .inl ⟨_, _, rfl, run_takeDeferred hK, ?_⟩⟩
    exact ⟨_, results_tmp rfl _ _ _, v, rfl, ownsRow_putObj hrow _ hK rfl, hB.trans (belowK_b (w := w) (Nat.le_refl _) W D _ _ (by omega) hK rfl rfl)⟩
  case stop =>
    rintro D c pre W _ _ h _
    exact h.elim
end
/-- The place of a sum among those of the texts. -/
structure PlT (n : Nat) (ts : List ByteArray) (t : ByteArray) (r : Nat) : Prop where
  le : r <= ts.length
  lo : ∀ j, j < r -> lessB (sumB n (nx ts j)) t = true
  hi : r < ts.length -> lessB (sumB n (nx ts r)) t = false
/-- The first n texts of the row bear the marks from K on. -/
def MkX (K n : Nat) (ys : List Value) : Prop := ∀ i, i < n -> ys[i]? = some (.string (mt (K + i)))
theorem mkX_set {K k : Nat} {ys : List Value} (h : MkX K k ys) (hx : k < ys.length) : MkX K (k + 1) (ys.set k (.string (mt (K + k)))) := by
  intro i hi
  rw [List.getElem?_set]
  rcases Nat.lt_or_ge i k with hl | hl
  · rw [if_neg (by omega)]; exact h i hl
  · obtain rfl : i = k := by omega
    rw [if_pos rfl, if_pos hx]
theorem markStringS_mk (B g n cap K : Nat) (xs : List Value) (w : World) (hown : w.ownsRow B 9 1 (.slice (some ⟨g, 0, none⟩) n cap) n xs) (hB : B <= w.heap.size) (hn : n <= 1048576) (h1 : 1 <= K) (h2 : K <= 900000000000000) :
    Calls Tryz.prog 79 #[.slice (some ⟨g, 0, none⟩) n cap, .int .i64 K] w fun e w' => e = .returned (.int .i64 ((K + n : Nat) : Int)) /\ Below B w w' /\ KeepB g w w' /\ ∃ ys, w'.ownsRow B 9 1 (.slice (some ⟨g, 0, none⟩) n cap) n ys /\ MkX K n ys := by
  have hBg : B <= g := (hown.lt g rfl).1
  go_enter Tryz.func79, Tryz.ntmps79
  go_wp2
  go_loopw [1, 5] (fun k i wr => ∃ (m : Nat) (ys : List Value), m <= n /\ i = .int .i64 m /\ k = .int .i64 ((K + m : Nat) : Int) /\ Hid (wr.ownsRow B 9 1 (.slice (some ⟨g, 0, none⟩) n cap) n ys) /\ Hid (MkX K m ys) /\ Hid (KeepB g w wr) /\ w.heap.size <= wr.heap.size /\ Below B w wr) (fun _ i _ => n - (intOf i).toNat)
  case atStart => exact ⟨0, xs, Nat.zero_le _, rfl, rfl, hown, (fun i hi => by omega : MkX K 0 xs), (fun b _ _ => rfl : KeepB g w w), Nat.le_refl _, Below.refl _ _⟩
  case round =>
    obtain ⟨m, ys, hm, rfl, rfl, HO, HM, HK, hsz, hbr⟩ := hrel
    clear hown
    by_cases hlt : m < n
    · have hlx : m < ys.length := by rw [HO.out.1]; omega
      have HM2 : Hid (MkX K (m + 1) (ys.set m (.string (mt (K + m))))) := mkX_set HM.out hlx
      have hKb : K + m < 1000000000000000 := by omega
      have HT : Hid (∀ W : World, Calls Tryz.prog 95 #[.int .i64 ((K + m : Nat) : Int)] W fun e w' => Below W.heap.size W w' /\ e = .returned (.string (mt (K + m)))) := fun W => markText_any (K + m) W (by omega) (by omega)
      generalize mt (K + m) = t at *
      obtain ⟨c, ec⟩ : ∃ c, K + m = c := ⟨_, rfl⟩
      rw [ec] at HT hKb ⊢
      have HE : Hid (K + m = c) := ec
      clear ec
      have hmI : (m : Int) < (n : Int) := by omega
      go_wp2_with fail
      refine (HT.out _).mono ?_
      rintro e w2 ⟨hb2, rfl⟩
      have hown2 := ownsRow_below HO.out hb2
      have hbw : Below B w w2 := hbr.trans (hb2.mono (by omega))
      have hfr2 := hown2.frozenAt
      obtain ⟨o1, d1⟩ := cell_of_length1 hown2 (j := m) hlt
      have HO2 : Hid (w2.ownsRow B 9 1 (.slice (some ⟨g, 0, none⟩) n cap) n ys) := hown2
      have HK2 : Hid (KeepB g w w2) := HK.out.below hsz hb2
      have hs2 : w.heap.size <= w2.heap.size := by have := hb2.size; omega
      clear hown2 hb2 hbr HO
      go_wp2
      go_roundw
      case rel => exact ⟨m + 1, _, by omega, by go_num, congrArg (Value.int .i64) (by have := HE.out; omega), (HO2.out.stored _ _).1, HM2.out, HK2.out.set _ _, by simpa using hs2, hbw.setCell (p := ⟨g, m, none⟩) hBg _⟩
      case measure => simp [intOf]; omega
    · have em : m = n := by omega
      subst em
      go_wp2
      go_ret
      exact ⟨rfl, hbr, HK.out, ys, HO.out, HM.out⟩
theorem markStringS_row (lo hi n K : Nat) (v : Value) (xs : List Value) (w : World) (hr : RowO w lo hi 9 1 v n xs) (hB : lo <= w.heap.size) (hn : n <= 1048576) (h1 : 1 <= K) (h2 : K <= 900000000000000) :
    Calls Tryz.prog 79 #[v, .int .i64 K] w fun e w' => e = .returned (.int .i64 ((K + n : Nat) : Int)) /\ Below lo w w' /\ KeepO v.ownBlock w w' /\ ∃ ys, RowO w' lo hi 9 1 v n ys /\ MkX K n ys := by
  rcases own_casesM hr.own with ⟨rfl, rfl⟩ | ⟨g, cap, rfl⟩
  · refine (markStringS_nil K w h2).mono ?_
    rintro e w' ⟨rfl, rfl⟩
    exact ⟨rfl, Below.refl _ _, fun _ _ _ => rfl, xs, hr, fun i hi => by omega⟩
  · refine (markStringS_mk lo g n cap K xs w hr.own hB hn h1 h2).mono ?_
    rintro e w' ⟨he, hb, hk, ys, ho, hm⟩
    exact ⟨he, hb, fun b hl hne => hk b hl (fun e => hne (by subst e; rfl)), ys, ⟨ho, hr.top⟩, hm⟩
/-- The marks are read back. -/
def RdX (K n : Nat) (w : World) (g : Nat) : Prop := ∀ i, i < n -> w.cell? ⟨g, i, none⟩ = some (.string (mt (K + i)))
theorem MkX.read {w : World} {B g n cap K : Nat} {ys : List Value} (h : w.ownsRow B 9 1 (.slice (some ⟨g, 0, none⟩) n cap) n ys) (hm : MkX K n ys) : RdX K n w g := by
  intro i hi
  rw [h.cellAt _ (by omega)]; exact hm i hi
theorem RdX.below {w w' : World} {g n K : Nat} (h : RdX K n w g) (hb : Below w.heap.size w w') : RdX K n w' g := fun i hi => cell_below hb (h i hi)
theorem heldStringS_any (g n cap K : Nat) (w : World) (hr : RdX K n w g) (hn : n <= 1048576) (h1 : 1 <= K) (h2 : K <= 900000000000000) :
    Calls Tryz.prog 80 #[.slice (some ⟨g, 0, none⟩) n cap, .int .i64 K] w fun e w' => e = .returned (.int .i64 ((K + n : Nat) : Int)) /\ Below w.heap.size w w' := by
  have HR : Hid (RdX K n w g) := hr
  clear hr
  go_enter Tryz.func80, Tryz.ntmps80
  go_wp2
  go_loopw [1, 5] (fun k i wr => ∃ (m : Nat), m <= n /\ i = .int .i64 m /\ k = .int .i64 ((K + m : Nat) : Int) /\ Below w.heap.size w wr) (fun _ i _ => n - (intOf i).toNat)
  case atStart => exact ⟨0, Nat.zero_le _, rfl, rfl, Below.refl _ _⟩
  case round =>
    obtain ⟨m, hm, rfl, rfl, hbr⟩ := hrel
    by_cases hlt : m < n
    · have c1 := (HR.out.below hbr) m hlt
      have hKb : K + m < 1000000000000000 := by omega
      have HT : Hid (∀ W : World, Calls Tryz.prog 95 #[.int .i64 ((K + m : Nat) : Int)] W fun e w' => Below W.heap.size W w' /\ e = .returned (.string (mt (K + m)))) := fun W => markText_any (K + m) W (by omega) (by omega)
      generalize mt (K + m) = t at *
      obtain ⟨c, ec⟩ : ∃ c, K + m = c := ⟨_, rfl⟩
      rw [ec] at HT hKb ⊢
      have HE : Hid (K + m = c) := ec
      clear ec
      have et := str_eq (rfl : t = t)
      have hmI : (m : Int) < (n : Int) := by omega
      have hm0 : (0 : Int) <= (m : Int) := by omega
      have hbA : Below wr.heap.size wr wr.drew := (Below.refl _ _).drew
      go_wp2_with fail
      go_region_held3 (fun w' => w'.cell? ⟨g, m, none⟩ = some (.string t))
        (first | assumption | (simp [*]; done) | exact cell_below hb2 (by simp [*]))
        (first | (go_at_call 95; refine (HT.out _).mono ?_; rintro e w2 ⟨hb2, rfl⟩))
      all_goals
        have hB2 := bt hbr (bt hbA hb2)
        clear c1 hb2 hbA
        go_wp2
        go_roundw
        case rel => exact ⟨m + 1, by omega, by go_num, congrArg (Value.int .i64) (by have := HE.out; omega), hB2⟩
        case measure => simp [intOf]; omega
    · have em : m = n := by omega
      subst em
      go_wp2
      go_ret
      exact ⟨rfl, hbr⟩
theorem heldStringS_nil (K : Nat) (w : World) (h2 : K <= 900000000000000) :
    Calls Tryz.prog 80 #[.slice none 0 0, .int .i64 K] w fun e w' => e = .returned (.int .i64 (K : Int)) /\ w = w' := by
  go_enter Tryz.func80, Tryz.ntmps80
  go_wp2
  go_loopw [1, 5] (fun k i wr => i = .int .i64 0 /\ k = .int .i64 (K : Int) /\ w = wr) (fun _ i _ => 0)
  case atStart => exact ⟨rfl, rfl, rfl⟩
  case round =>
    obtain ⟨rfl, rfl, rfl⟩ := hrel
    go_wp2
    go_ret
    exact ⟨rfl, rfl⟩
theorem heldStringS_row (lo hi n K : Nat) (v : Value) (ys : List Value) (w : World) (hr : RowO w lo hi 9 1 v n ys) (hm : MkX K n ys) (hn : n <= 1048576) (h1 : 1 <= K) (h2 : K <= 900000000000000) :
    Calls Tryz.prog 80 #[v, .int .i64 K] w fun e w' => e = .returned (.int .i64 ((K + n : Nat) : Int)) /\ Below w.heap.size w w' := by
  rcases own_casesM hr.own with ⟨rfl, rfl⟩ | ⟨g, cap, rfl⟩
  · refine (heldStringS_nil K w h2).mono ?_
    rintro e w' ⟨rfl, rfl⟩
    exact ⟨rfl, Below.refl _ _⟩
  · exact heldStringS_any g n cap K w (MkX.read hr.own hm) hn h1 h2
end Go.Proofs.YtmeojnaoljgieaeGreatDoor
