import Derived.Test.YtjdjhenijihpfaaGreatDoorEdR
import Derived.Test.YtjdjhenijihpfaaGreatDoorEdQ
import Derived.Test.YtjdjhenijihpfaaGreatDoorEdN
import Derived.Test.YtjdjhenijihpfaaGreatDoorEdM
import Derived.Test.YtjdjhenijihpfaaGreatDoorPtB
import Derived.Test.YtjdjhenijihpfaaGreatDoorPsI
import Derived.Test.YtjdjhenijihpfaaGreatDoorPsS
import Derived.Test.YtjdjhenijihpfaaGreatDoorDrp
namespace Go.Proofs.YtjdjhenijihpfaaGreatDoor
open Go.RowKit Go.Deep
set_option linter.unusedVariables false

/-- All texts of a space can be measured. -/
structure Szd (ss : List S2) (ts : List T2) : Prop where
  s : ∀ x ∈ ss, x.name.size ≤ maxLen ∧ x.text.size ≤ maxLen
  t : ∀ a ∈ ts, a.name.size ≤ maxLen ∧ a.code.length ≤ maxLen ∧ ∀ x ∈ a.code, x.text.size ≤ maxLen
theorem ix_size {is : List I3} {m : Nat} (h : ∀ x ∈ is, x.text.size ≤ m) (j : Nat) : (ix is j).text.size ≤ m := by
  rcases Nat.lt_or_ge j is.length with q | q
  · have e : ix is j = is[j] := by simp [ix, List.getD_eq_getElem?_getD, q]
    rw [e]; exact h _ (List.getElem_mem _)
  · have e : ix is j = Go.Proofs.YtjdjhenijihpfaaGreatDoor.i0 := by simp [ix, List.getD_eq_getElem?_getD, q]
    rw [e]; exact Nat.zero_le _
theorem Szd.ok {w : World} {sa ta : Option Addr} {ss : List S2} {ts : List T2} (h : Szd ss ts) (hs : SpSmall ss ts) (r1 : RowS w sa ss) (r2 : RowT w ta ts) : SpOk w sa ss ta ts := by
  have h1 : ∀ i, (sx ss i).name.size ≤ maxLen ∧ (sx ss i).text.size ≤ maxLen := fun i => by
    rcases Nat.lt_or_ge i ss.length with q | q
    · exact h.s _ (sx_mem q)
    · have e : sx ss i = ⟨ByteArray.empty, ByteArray.empty⟩ := by simp [sx, List.getD_eq_getElem?_getD, q]
      rw [e]; exact ⟨Nat.zero_le _, Nat.zero_le _⟩
  have h2 : ∀ i, (tx ts i).name.size ≤ maxLen ∧ (tx ts i).code.length ≤ maxLen ∧ ∀ x ∈ (tx ts i).code, x.text.size ≤ maxLen := fun i => by
    rcases Nat.lt_or_ge i ts.length with q | q
    · rw [tx_get q]; exact h.t _ (List.getElem_mem _)
    · have e : tx ts i = ⟨ByteArray.empty, []⟩ := by simp [tx, List.getD_eq_getElem?_getD, q]
      rw [e]; exact ⟨Nat.zero_le _, Nat.zero_le _, fun x hx => by cases hx⟩
  exact ⟨r1, r2, by have := hs.ls; unfold maxLen; omega, by have := hs.lt; unfold maxLen; omega, fun i => (h1 i).1, fun i => (h1 i).2, fun i => (h2 i).1, fun i => (h2 i).2.1, fun i j => ix_size (h2 i).2.2 j⟩
theorem BdS.szd {l1 : List S2} {l2 : List TC} (h : BdS l1 l2) : Szd l1 (l2.map (·.t)) := by
  refine ⟨fun x hx => ?_, fun a ha => ?_⟩
  · have := h.s x hx; unfold maxLen; omega
  · obtain ⟨c, hc, rfl⟩ := List.mem_map.1 ha
    obtain ⟨k1, k2, k3⟩ := h.t c hc
    refine ⟨by unfold maxLen; omega, by unfold maxLen; omega, fun x hx => ?_⟩
    have := k3 x hx
    unfold maxLen; omega
theorem Szd.nil : Szd [] [] := ⟨fun x hx => (by cases hx), fun x hx => (by cases hx)⟩
theorem Szd.flt {ss : List S2} {ts : List T2} (h : Szd ss ts) (t : ByteArray) : Szd (fltS t ss) (fltT t ts) := ⟨fun x hx => h.s x (fltS_mem' hx).1, fun x hx => h.t x (fltT_mem' hx).1⟩
theorem ps_szd {ss : List S2} {ts : List T2} {t x : ByteArray} {ok : Bool} (h : Szd ss ts) (ht : t.size ≤ maxLen) (hx : x.size ≤ maxLen) : Szd (psS ss ts t x ok) (psT ss ts t ok) := by
  by_cases g : roomC ss ts t ok = 0
  · unfold psS psT
    rw [if_pos g, if_pos g]
    refine ⟨fun y hy => ?_, (h.flt t).t⟩
    rcases mem_insS hy with rfl | q
    · exact ⟨ht, hx⟩
    · exact (h.flt t).s y q
  · rw [(ps_no (x := x) g).1, (ps_no (x := x) g).2]; exact Szd.nil
theorem pt_szd {ss : List S2} {ts : List T2} {t : ByteArray} {is : List I3} {ok : Bool} (h : Szd ss ts) (ht : t.size ≤ maxLen) (hl : is.length ≤ maxLen) (hx : ∀ x ∈ is, x.text.size ≤ maxLen) : Szd (ptS ss ts t ok) (ptT ss ts t is ok) := by
  by_cases g : roomC ss ts t ok = 0
  · unfold ptS ptT
    rw [if_pos g, if_pos g]
    refine ⟨(h.flt t).s, fun y hy => ?_⟩
    rcases mem_insT hy with rfl | q
    · exact ⟨ht, hl, hx⟩
    · exact (h.flt t).t y q
  · rw [(pt_no (is := is) g).1, (pt_no (is := is) g).2]; exact Szd.nil
theorem drop_szd {ss : List S2} {ts : List T2} {t : ByteArray} (h : Szd ss ts) : Szd (dropS ss ts t) (dropT ss ts t) := by
  by_cases g : dropC ss ts t = 0
  · rw [(drop_yes g).1, (drop_yes g).2]; exact h.flt t
  · rw [(drop_no g).1, (drop_no g).2]; exact Szd.nil
/-- What Drop leaves of a valid space that has the name. -/
theorem drop_valid {ss : List S2} {ts : List T2} {t : ByteArray} (v : VSp ss ts) (hn : NameOk t) (hh : Has (tnames ts) t) : chk (dropS ss ts t) (dropT ss ts t) = 0 ∧ Easy (dropS ss ts t) (dropT ss ts t) t 4 t := by
  have g : dropC ss ts t = 0 := dropC0 (chk_iff.2 v) hn (Or.inr hh)
  rw [(drop_yes g).1, (drop_yes g).2]
  exact ⟨chk_iff.2 (v.flt t), Or.inr ⟨rfl, rfl, fun k => (flt_not (ss := ss) (ts := ts)).1 (has_mem.1 k), fun k => (flt_not (ss := ss) (ts := ts)).2 (has_mem.1 k)⟩⟩

/-- A space that can be read: sizes and rows. -/
structure Spc (w : World) (sa : Option Addr) (ss : List S2) (ta : Option Addr) (ts : List T2) : Prop where
  z : Szd ss ts
  m : SpSmall ss ts
  r1 : RowS w sa ss
  r2 : RowT w ta ts
theorem Spc.below {w w' : World} {sa ta : Option Addr} {ss : List S2} {ts : List T2} (h : Spc w sa ss ta ts) (hb : Below w.heap.size w w') : Spc w' sa ss ta ts := ⟨h.z, h.m, h.r1.below hb, h.r2.below hb⟩
theorem Spc.ok {w : World} {sa ta : Option Addr} {ss : List S2} {ts : List T2} (h : Spc w sa ss ta ts) : SpOk w sa ss ta ts := h.z.ok h.m h.r1 h.r2
/-- An ending that hands out a space and a code. -/
def Two (w : World) (ss : List S2) (ts : List T2) (c : Int) (e : Ending) (w' : World) : Prop := Below w.heap.size w w' ∧ ∃ a1 p1 a2 p2, e = .returned (.tuple #[.agg #[.slice a1 ss.length p1, .slice a2 ts.length p2], .int .i64 c]) ∧ Spc w' a1 ss a2 ts
theorem two_of {w w' : World} {lo : Nat} {ss : List S2} {ts : List T2} {c : Int} {e : Ending} (hb : Below w.heap.size w w') (h : ∃ v1 v2, e = .returned (.tuple #[.agg #[v1, v2], .int .i64 c]) ∧ OwnS w' lo w'.heap.size v1 ss ∧ OwnT w' lo w'.heap.size v2 ts) (hz : Szd ss ts) (hm : SpSmall ss ts) : Two w ss ts c e w' := by
  obtain ⟨v1, v2, rfl, o1, o2⟩ := h
  obtain ⟨a1, p1, rfl, r1⟩ := o1.sl
  obtain ⟨a2, p2, rfl, r2⟩ := o2.sl
  exact ⟨hb, a1, p1, a2, p2, rfl, hz, hm, r1, r2⟩
section
variable {w : World} {sa ta : Option Addr} {ss : List S2} {ts : List T2} {t x : ByteArray} {is : List I3}
theorem ps_im (h : Spc w sa ss ta ts) (hT : Tab w) (ht : t.size ≤ 50000) (hx : x.size ≤ 50000) (c1 c2 : Nat) : Calls Tryz.prog 6 #[.agg #[.slice sa ss.length c1, .slice ta ts.length c2], .string t, .string x] w fun e w' => Two w (psS ss ts t x (decide (x.size ≤ 2000))) (psT ss ts t (decide (x.size ≤ 2000))) (roomC ss ts t (decide (x.size ≤ 2000))) e w' :=
  (implPs_any sa ta c1 c2 ss ts t x w hT h.ok h.m (by omega) (by omega)).mono fun e w' k => two_of k.1 k.2 (ps_szd h.z (by unfold maxLen; omega) (by unfold maxLen; omega)) (ps_small _ _ _ _ _)
theorem ps_sp (h : Spc w sa ss ta ts) (ht : t.size ≤ 50000) (hx : x.size ≤ 50000) (c1 c2 : Nat) : Calls Tryz.prog 7 #[.agg #[.slice sa ss.length c1, .slice ta ts.length c2], .string t, .string x] w fun e w' => Two w (psS ss ts t x (decide (x.size ≤ 2000))) (psT ss ts t (decide (x.size ≤ 2000))) (roomC ss ts t (decide (x.size ≤ 2000))) e w' :=
  (specPs_any sa ta c1 c2 ss ts t x w h.ok h.m (by omega) (by omega)).mono fun e w' k => two_of k.1 k.2 (ps_szd h.z (by unfold maxLen; omega) (by unfold maxLen; omega)) (ps_small _ _ _ _ _)
theorem pt_im (h : Spc w sa ss ta ts) (hT : Tab w) (ht : t.size ≤ 50000) {a : Option Addr} (hr : Row3 w a is) (hl : is.length ≤ 400) (hx : ∀ x ∈ is, x.text.size ≤ 50000) (c1 c2 c3 : Nat) : Calls Tryz.prog 12 #[.agg #[.slice sa ss.length c1, .slice ta ts.length c2], .string t, .agg #[.slice a is.length c3]] w fun e w' => Two w (ptS ss ts t (progOk is)) (ptT ss ts t is (progOk is)) (roomC ss ts t (progOk is)) e w' :=
  (implPt_any sa ta c1 c2 ss ts t a c3 is w hT h.ok h.m (by omega) hr (by omega) (fun i => by have := ix_size hx i; omega)).mono fun e w' k => two_of k.1 k.2 (pt_szd h.z (by unfold maxLen; omega) (by unfold maxLen; omega) (fun y hy => by have := hx y hy; unfold maxLen; omega)) (pt_small _ _ _ _ _ (by omega))
theorem pt_sp (h : Spc w sa ss ta ts) (ht : t.size ≤ 50000) {a : Option Addr} (hr : Row3 w a is) (hl : is.length ≤ 400) (hx : ∀ x ∈ is, x.text.size ≤ 50000) (c1 c2 c3 : Nat) : Calls Tryz.prog 13 #[.agg #[.slice sa ss.length c1, .slice ta ts.length c2], .string t, .agg #[.slice a is.length c3]] w fun e w' => Two w (ptS ss ts t (progOk is)) (ptT ss ts t is (progOk is)) (roomC ss ts t (progOk is)) e w' :=
  (specPt_any sa ta c1 c2 ss ts t a c3 is w h.ok h.m (by omega) hr (by omega) (fun i => by have := ix_size hx i; omega)).mono fun e w' k => two_of k.1 k.2 (pt_szd h.z (by unfold maxLen; omega) (by unfold maxLen; omega) (fun y hy => by have := hx y hy; unfold maxLen; omega)) (pt_small _ _ _ _ _ (by omega))
theorem dr_im (h : Spc w sa ss ta ts) (hT : Tab w) (ht : t.size ≤ 50000) (c1 c2 : Nat) : Calls Tryz.prog 14 #[.agg #[.slice sa ss.length c1, .slice ta ts.length c2], .string t] w fun e w' => Two w (dropS ss ts t) (dropT ss ts t) (dropC ss ts t) e w' :=
  (implDrop_any sa ta c1 c2 ss ts t w hT h.ok h.m (by omega)).mono fun e w' k => two_of k.1 k.2 (drop_szd h.z) (drop_small _ _ _)
theorem dr_sp (h : Spc w sa ss ta ts) (ht : t.size ≤ 50000) (c1 c2 : Nat) : Calls Tryz.prog 15 #[.agg #[.slice sa ss.length c1, .slice ta ts.length c2], .string t] w fun e w' => Two w (dropS ss ts t) (dropT ss ts t) (dropC ss ts t) e w' :=
  (specDrop_any sa ta c1 c2 ss ts t w h.ok h.m (by omega)).mono fun e w' k => two_of k.1 k.2 (drop_szd h.z) (drop_small _ _ _)
theorem ws_two {sb tb : Option Addr} (h : Spc w sa ss ta ts) (h' : Spc w sb ss tb ts) (c1 c2 c3 c4 : Nat) : Calls Tryz.prog 8 #[.agg #[.slice sa ss.length c1, .slice ta ts.length c2], .agg #[.slice sb ss.length c3, .slice tb ts.length c4]] w fun e w' => e = .returned (.bool true) ∧ Below w.heap.size w w' :=
  wSpace_same sa ta sb tb c1 c2 c3 c4 ss ts w h.r1 h.r2 h'.r1 h'.r2 h.m.ls h.m.lt h.m.lc
end
/-- What the draw of a space hands the law. -/
theorem DrS.spc {w w' : World} {e : Ending} (h : DrS w e w') : Below w.heap.size w w' ∧ ∃ sa c1 ta c2 ss ts nm tx, e = .returned (.tuple #[.agg #[.slice sa ss.length c1, .slice ta ts.length c2], .string nm, .string tx]) ∧ Spc w' sa ss ta ts ∧ nm.size ≤ 50000 ∧ tx.size ≤ 50000 := by
  obtain ⟨hb, v1, v2, l1, l2, nm, tx, rfl, hd, hbd, h1, h2⟩ := h
  obtain ⟨sa, c1, ta, c2, rfl, rfl, ho, hm⟩ := hd.ok hbd
  exact ⟨hb, sa, c1, ta, c2, l1, _, nm, tx, rfl, ⟨hbd.szd, hm, ho.rs, ho.rt⟩, h1, h2⟩
theorem DrT.spc {w w' : World} {e : Ending} (h : DrT w e w') : Below w.heap.size w w' ∧ ∃ (b1 b2 : Option Addr) (k1 n1 k2 n2 g c : Nat) (nm : ByteArray) (is : List I3), e = .returned (.tuple #[.agg #[.slice b1 k1 n1, .slice b2 k2 n2], .string nm, .agg #[.slice (some ⟨g, 0, none⟩) is.length c]]) ∧ nm.size ≤ 50000 ∧ Row3 w' (some ⟨g, 0, none⟩) is ∧ is.length ≤ 400 ∧ ∀ x ∈ is, x.text.size ≤ 50000 := by
  obtain ⟨hb, v1, v2, nm, g, n, c, is, k1, k2, b1, n1, b2, n2, rfl, rfl, rfl, h1, rfl, ho, h3, h4⟩ := h
  obtain ⟨a, cap, e, r3⟩ := row3_ownD rfl ho
  cases e
  exact ⟨hb, b1, b2, k1, n1, k2, n2, g, _, nm, is, rfl, h1, r3, h3, h4⟩
end Go.Proofs.YtjdjhenijihpfaaGreatDoor
