import Derived.Test.YtmanoabocelpeaaGreatDoorTImI
import Derived.Defers
import Derived.Recover
import Derived.Test.YtmanoabocelpeaaGreatDoorTImD
import Derived.Test.YtmanoabocelpeaaGreatDoorTChkS
namespace Go.Proofs.YtmanoabocelpeaaGreatDoor
open Go.RowKit
set_option linter.unusedVariables false
set_option maxHeartbeats 8000000
set_option maxRecDepth 100000
section
open Go.Deep
theorem catch_panicking (O : Nat) (c : Int) (t : ByteArray) (ca : Option Addr) (cn cc : Nat) (older : List PanicEntry) (w : World) (hO : w.heap[O]? = some (.cells #[.bool false, .int .i64 0, .string ⟨#[]⟩, .slice none 0 0, .string ⟨#[]⟩, .slice none 0 0] 66 (0, 0))) :
  CallsD Tryz.prog 65 #[.pointer (some ⟨O, 0, none⟩)] (.panicking ({ v := .iface 124 (.agg #[.int .i64 c, .string t, .slice ca cn cc]), recovered := false } :: older)) w fun e u' w' =>
   e = .returned (.tuple #[]) /\ u' = .panicking ({ v := .iface 124 (.agg #[.int .i64 c, .string t, .slice ca cn cc]), recovered := true } :: older) /\ w' = ((((((w.setCell ⟨O, 0, none⟩ (.bool false)).setCell ⟨O, 1, none⟩ (.int .i64 c)).setCell ⟨O, 2, none⟩ (.string t)).setCell ⟨O, 3, none⟩ (.slice ca cn cc)).setCell ⟨O, 4, none⟩ (.string ⟨#[]⟩)).setCell ⟨O, 5, none⟩ (.slice none 0 0)).alloc (.cells #[.int .i64 c, .string t, .slice ca cn cc] 124) := by
 refine callsD_of_wpS Tryz.func65 rfl fun c₀ cs hu => ?_
 apply wpS_seq
 apply wpS_region
 simp [wpOpsS, go_sem, recoverD, hu, Tryz.ntmps65, Exit.thenS]
 obtain ⟨⟨z0, z1, z2, z3, z4, z5⟩, zf⟩ := bk6 hO
 have hOl : O < w.heap.size := blk_lt hO
 have hta : ∀ w : World, (Instr.typeAssert (.iface 124 (.agg #[.int .i64 c, .string t, .slice ca cn cc])) 20 124 true).run Tryz.prog w = .ok (.tuple #[.agg #[.int .i64 c, .string t, .slice ca cn cc], .bool true]) w := fun w => by kernel_rfl
 have hfr : ∀ (p x : Value), #[p] ++ (((Array.replicate 15 undef).setIfInBounds 3 x).setIfInBounds 0 x) = #[p, x, undef, undef, x, undef, undef, undef, undef, undef, undef, undef, undef, undef, undef, undef] := fun p x => rfl
 refine wpS_of_wp ?_
 rw [hfr]
 go_wp2_with fail
 simp [bodyPostS, results, Tryz.results65]
theorem catch_idle (O : Nat) (w : World) :
  CallsD Tryz.prog 65 #[.pointer (some ⟨O, 0, none⟩)] .returning w fun e u' w' => e = .returned (.tuple #[]) /\ u' = .returning /\ w' = w.alloc (.cells #[.int .i64 0, .string ⟨#[]⟩, .slice none 0 0] 124) := by
 refine callsD_of_wpS Tryz.func65 rfl fun c₀ cs hu => ?_
 apply wpS_seq
 apply wpS_region
 simp [wpOpsS, go_sem, recoverD, hu, Tryz.ntmps65, Exit.thenS]
 have hta : ∀ w : World, (Instr.typeAssert .nilIface 20 124 true).run Tryz.prog w = .ok (.tuple #[.agg #[.int .i64 0, .string ⟨#[]⟩, .slice none 0 0], .bool false]) w := fun w => by kernel_rfl
 have hne : ∀ w : World, (binOp BinOp.neq 20 .nilIface .nilIface).run Tryz.prog w = .ok (.bool false) w := fun _ => by kernel_rfl
 have hfr : ∀ (p x : Value), #[p] ++ (((Array.replicate 15 undef).setIfInBounds 3 x).setIfInBounds 0 x) = #[p, x, undef, undef, x, undef, undef, undef, undef, undef, undef, undef, undef, undef, undef, undef] := fun p x => rfl
 refine wpS_of_wp ?_
 rw [hfr]
 go_wp2_with fail
 cases c₀
 simp_all [bodyPostS, results, Tryz.results65]
theorem EndV.kept {B : Nat} {w w' : World} {a : Ans} {v : Value} (h : EndV B w a v) (hk : ∀ (b : Nat) (cur : Array Value), w.heap[b]? = some (Obj.cells cur 9 (0, 0)) -> w'.heap[b]? = w.heap[b]?) : EndV B w' a v := by
 cases a with
 | ok d => exact absurd h id
 | circle ch =>
  obtain ⟨ca, cn, cc, e, ho⟩ := h
  exact ⟨ca, cn, cc, e, own_same ho fun b' q => by obtain ⟨_, cur, hh⟩ := own_kind ho q; exact hk b' cur hh⟩
 | deep nm => exact h
def FirstP (B h mb : Nat) (sv tv fv : Value) (ss : List S2) (ts : List T2) (nm : ByteArray) (w : World) (e : Ending) (w' : World) : Prop :=
 Below B w w' /\ ∃ ms' a, Does ss ts [] [] (.make nm) ms' a /\ ((∃ d lv, a = .ok d /\ e = .returned (markV d lv) /\ LooksO w' B lv d.ls) \/ (∃ c t ca cn cc, e = .returned (.agg #[.bool false, .int .i64 c, .string t, .slice ca cn cc, .string ⟨#[]⟩, .slice none 0 0]) /\ EndV B w' a (.agg #[.int .i64 c, .string t, .slice ca cn cc])))
theorem EndV.parts {B : Nat} {w : World} {a : Ans} {v : Value} (h : EndV B w a v) : ∃ c t ca cn cc, v = .agg #[.int .i64 c, .string t, .slice ca cn cc] := by
 cases a with
 | ok d => exact absurd h id
 | circle ch => obtain ⟨ca, cn, cc, e, _⟩ := h; exact ⟨_, _, _, _, _, e⟩
 | deep nm => exact ⟨_, _, _, _, _, h⟩
theorem first_any (W0 : World) (h mb : Nat) (sa ta : Option Addr) (c1 c2 : Nat) (ss : List S2) (ts : List T2) (nm : ByteArray) (w : World) (hE : EnvS W0 sa ta ss ts) (hT : Tab W0) (hP : P10 W0) (hnm : NameOk nm)
  (s : Mkr W0.heap.size h mb (.slice sa ss.length c1) (.slice ta ts.length c2) (.func (.func 64) #[.pointer (some ⟨h, 0, none⟩)] #[]) w [] [] (.slice none 0 0) (.slice none 0 0) (fun _ => .slice none 0 0)) (hW : Below W0.heap.size W0 w) :
  Calls Tryz.prog 33 #[.pointer (some ⟨h, 0, none⟩), .string nm] w fun e w' => FirstP W0.heap.size h mb (.slice sa ss.length c1) (.slice ta ts.length c2) (.func (.func 64) #[.pointer (some ⟨h, 0, none⟩)] #[]) ss ts nm w e w' := by
 have hB := hW.size
 have hhw : h < w.heap.size := blk_lt s.blk
 have hmf : ∀ (fn : Fn) (first cap : Array Value) (w : World), (Instr.makeFunc fn first cap).run Tryz.prog w = .ok (.func fn first cap) w := fun _ _ _ _ => rfl
 obtain ⟨W, eW⟩ : ∃ W, w.alloc (.cells #[.bool false, .int .i64 0, .string ⟨#[]⟩, .slice none 0 0, .string ⟨#[]⟩, .slice none 0 0] 66) = W := ⟨_, rfl⟩
 have hbW : Below w.heap.size w W := by rw [<- eW]; exact alloc_below _ _
 have HOB : Hid (W.heap[w.heap.size]? = some (.cells #[.bool false, .int .i64 0, .string ⟨#[]⟩, .slice none 0 0, .string ⟨#[]⟩, .slice none 0 0] 66 (0, 0))) := by
  show _ = _
  rw [<- eW]; exact heap_new _ _
 have HSW : Hid (Mkr W0.heap.size h mb (.slice sa ss.length c1) (.slice ta ts.length c2) (.func (.func 64) #[.pointer (some ⟨h, 0, none⟩)] #[]) W [] [] (.slice none 0 0) (.slice none 0 0) (fun _ => .slice none 0 0)) := s.below hbW
 have hphi : phi ts [] <= 0 := by simp [phi, tcount, nms]
 have HU : Hid (Calls Tryz.prog 66 #[.pointer (some ⟨h, 0, none⟩), .string nm] W fun e w' => UnderP W0.heap.size h mb (.slice sa ss.length c1) (.slice ta ts.length c2) (.func (.func 64) #[.pointer (some ⟨h, 0, none⟩)] #[]) ss ts [] [] (.slice none 0 0) (.slice none 0 0) (fun _ => .slice none 0 0) nm W e w') := under_all W0 h mb sa ta c1 c2 ss ts hE hT hP 60 [] rfl (by simp) W [] nm _ _ _ HSW.out (Inv.nil ss ts) hnm hphi (hW.trans (hbW.mono hB))
 have HB : Hid (Below W0.heap.size w W) := hbW.mono hB
 have HLK : Hid (∀ ms' d, Does ss ts [] [] (.make nm) ms' (.ok d) -> lk ms' nm = some (some d)) := fun ms' d hd => (Does.inv hE.v hd (Inv.nil ss ts) hnm trivial d rfl).2.2
 clear s hW hE hT hP hnm hbW hphi
 go_enter_defers Tryz.func33, Tryz.ntmps33
 go_wp2_with fail
 refine HU.out.mono ?_
 rintro e w4 ⟨hk4, ms', an, hdo, ⟨⟨dc, dt, dls⟩, av', kv', vs', rfl, rfl, hs4, ha4, hkk4, hf4⟩ | ⟨v, rfl, hv⟩⟩
 ·have hO4 : w4.heap[w.heap.size]? = some (.cells #[.bool false, .int .i64 0, .string ⟨#[]⟩, .slice none 0 0, .string ⟨#[]⟩, .slice none 0 0] 66 (0, 0)) := by
   obtain ⟨n, _, hm⟩ := HSW.out.map
   rw [hk4.keep _ (blk_lt HOB.out) (by omega) (fun e => hm.notCells (e ▸ HOB.out)) (by simp [Value.ownBlock]) (by simp [Value.ownBlock])]
   exact HOB.out
  have hlo := hs4.lks nm _ (HLK.out _ _ hdo)
  obtain ⟨la, ln, lc, hlv⟩ := looks_is hlo
  rw [hlv] at hlo
  obtain ⟨fo, efo⟩ : ∃ fo, formB dc dt = fo := ⟨_, rfl⟩
  have EF : Hid (formB dc dt = fo) := efo
  unfold markV
  simp only [efo, hlv]
  have HO4 : Hid _ := hO4
  have HLO : Hid (LooksO w4 W0.heap.size (.slice la ln lc) dls) := hlo
  have HDO : Hid (Does ss ts [] [] (.make nm) ms' (.ok ⟨dc, dt, dls⟩) /\ Below W0.heap.size w w4) := ⟨hdo, HB.out.trans hk4.below⟩
  obtain ⟨⟨z0, z1, z2, z3, z4, z5⟩, zf⟩ := bk6 hO4
  clear hk4 hdo hs4 ha4 hkk4 hf4 hlo hO4 hlv efo eW
  go_wp2_with fail
  refine leaves_cons (f := 65) (args := #[.pointer (some ⟨w.heap.size, 0, none⟩)]) (by simp) (by simp [go_sem]) ?_
  refine (catch_idle w.heap.size _).mono ?_
  rintro e u' w'' ⟨rfl, rfl, rfl⟩
  have e7 := blk_keep (alloc_below _ (.cells #[.int .i64 0, .string ⟨#[]⟩, .slice none 0 0] 124)) (set6_at HO4.out (.bool true) (.int .i64 dc) (.string dt) (.slice none 0 0) (.string fo) (.slice la ln lc))
  obtain ⟨⟨y0, y1, y2, y3, y4, y5⟩, _⟩ := bk6 e7
  have hlo2 : LooksO _ W0.heap.size (.slice la ln lc) dls := (HLO.out.keptB (fun b q => set6_ne (w := w4) (b := w.heap.size) (fun e => by obtain ⟨xs, k1, _⟩ := HLO.out; subst e; exact own_ne_cells k1 (by decide) HO4.out q) (.bool true) (.int .i64 dc) (.string dt) (.slice none 0 0) (.string fo) (.slice la ln lc))).below (alloc_below _ (.cells #[.int .i64 0, .string ⟨#[]⟩, .slice none 0 0] 124))
  have hbl : Below W0.heap.size w _ := below_set6 HDO.out.2 (b := w.heap.size) hB (.bool true) (.int .i64 dc) (.string dt) (.slice none 0 0) (.string fo) (.slice la ln lc)
  refine ⟨markV ⟨dc, dt, dls⟩ (.slice la ln lc), by simp [results, Tryz.results33, go_sem, markV, EF.out, y0, y1, y2, y3, y4, y5], hbl.trans ((alloc_below _ _).mono (Nat.le_trans hB hbl.size)), ms', _, HDO.out.1, Or.inl ⟨_, _, rfl, rfl, hlo2⟩⟩
 ·obtain ⟨c, t, ca, cn, cc, rfl⟩ := hv.parts
  unfold panV
  dsimp only
  have hO4 : w4.heap[w.heap.size]? = some (.cells #[.bool false, .int .i64 0, .string ⟨#[]⟩, .slice none 0 0, .string ⟨#[]⟩, .slice none 0 0] 66 (0, 0)) := by
   obtain ⟨n, _, hm⟩ := HSW.out.map
   rw [hk4.keep _ (blk_lt HOB.out) (by omega) (fun e => hm.notCells (e ▸ HOB.out)) (by simp [Value.ownBlock]) (by simp [Value.ownBlock])]
   exact HOB.out
  have HO4 : Hid _ := hO4
  have HDV : Hid (Does ss ts [] [] (.make nm) ms' an /\ EndV W0.heap.size w4 an (.agg #[.int .i64 c, .string t, .slice ca cn cc]) /\ Below W0.heap.size w w4) := ⟨hdo, hv, HB.out.trans hk4.below⟩
  clear hk4 hdo hv hO4 eW
  go_wp2_with fail
  refine leaves_cons (f := 65) (args := #[.pointer (some ⟨w.heap.size, 0, none⟩)]) (by simp) (by simp [go_sem]) ?_
  refine (catch_panicking w.heap.size c t ca cn cc [] _ HO4.out).mono ?_
  rintro e u' w'' ⟨rfl, rfl, rfl⟩
  have e7 := blk_keep (alloc_below _ (.cells #[.int .i64 c, .string t, .slice ca cn cc] 124)) (set6_at HO4.out (.bool false) (.int .i64 c) (.string t) (.slice ca cn cc) (.string ⟨#[]⟩) (.slice none 0 0))
  obtain ⟨⟨y0, y1, y2, y3, y4, y5⟩, _⟩ := bk6 e7
  have hbl : Below W0.heap.size w _ := below_set6 HDV.out.2.2 (b := w.heap.size) hB (.bool false) (.int .i64 c) (.string t) (.slice ca cn cc) (.string ⟨#[]⟩) (.slice none 0 0)
  have hen1 : EndV W0.heap.size _ an (.agg #[.int .i64 c, .string t, .slice ca cn cc]) := EndV.kept HDV.out.2.1 (fun b cur q => set6_ne (w := w4) (b := w.heap.size) (fun e => by subst e; have q2 := HO4.out; rw [q] at q2; injection q2 with q2; injection q2 with _ q2; exact absurd q2 (by decide)) (.bool false) (.int .i64 c) (.string t) (.slice ca cn cc) (.string ⟨#[]⟩) (.slice none 0 0))
  have hen := EndV.below hen1 (alloc_below _ (.cells #[.int .i64 c, .string t, .slice ca cn cc] 124))
  refine ⟨.agg #[.bool false, .int .i64 c, .string t, .slice ca cn cc, .string ⟨#[]⟩, .slice none 0 0], by simp [results, Tryz.results33, go_sem, y0, y1, y2, y3, y4, y5], hbl.trans ((alloc_below _ _).mono (Nat.le_trans hB hbl.size)), ms', an, HDV.out.1, Or.inr ⟨c, t, ca, cn, cc, rfl, hen⟩⟩
end
section
open Go.Deep
structure Done (B h : Nat) (sv tv : Value) (w : World) (ms : Ms) (mv kv : Value) (vs : Nat -> Value) (d : Md) : Prop where
 blk : w.heap[h]? = some (.cells #[sv, tv, mv, kv, .int .i64 d.c, .string d.t, .slice none 0 0, .bool false] 57 (0, 0))
 row : w.ownsRow B 60 6 mv ms.length (msC ms vs)
 lks : ∀ i d, i < ms.length -> (mx ms i).2 = some d -> LooksO w B (vs i) d.ls
theorem l3Clean_any (sa ta : Option Addr) (c1 c2 : Nat) (ss : List S2) (ts : List T2) (nm : ByteArray) (w : World) (hE : EnvS w sa ta ss ts) (hnm : NameOk nm) :
  Calls Tryz.prog 14 #[.agg #[.slice sa ss.length c1, .slice ta ts.length c2], .string nm] w fun e w' => Below w.heap.size w w' /\ ∃ h ms' a, e = .returned (.pointer (some ⟨h, 0, none⟩)) /\ w.heap.size <= h /\ Does ss ts [] [] (.make nm) ms' a /\ ((∃ d mv kv vs, a = .ok d /\ Done w.heap.size h (.slice sa ss.length c1) (.slice ta ts.length c2) w' ms' mv kv vs d) \/ (∃ v, DeadAt h (.slice sa ss.length c1) (.slice ta ts.length c2) w' a v)) := by
 obtain ⟨W, eW⟩ : ∃ W, (w.alloc (.cells #[.slice sa ss.length c1, .slice ta ts.length c2] 26)).alloc (.cells #[.slice sa ss.length c1, .slice ta ts.length c2, .slice none 0 0, .slice none 0 0, .int .i64 0, .string ⟨#[]⟩, .slice none 0 0, .bool false] 57) = W := ⟨_, rfl⟩
 have hb0 : Below w.heap.size w W := by rw [<- eW]; exact ((Below.refl _ _).alloc (Nat.le_refl _) _).alloc (by simp) _
 have hblk : W.heap[w.heap.size + 1]? = some (.cells #[.slice sa ss.length c1, .slice ta ts.length c2, .slice none 0 0, .slice none 0 0, .int .i64 0, .string ⟨#[]⟩, .slice none 0 0, .bool false] 57 (0, 0)) := by
  rw [<- eW]
  have h := heap_new (w.alloc (.cells #[.slice sa ss.length c1, .slice ta ts.length c2] 26)) (.cells #[.slice sa ss.length c1, .slice ta ts.length c2, .slice none 0 0, .slice none 0 0, .int .i64 0, .string ⟨#[]⟩, .slice none 0 0, .bool false] 57)
  rw [show (w.alloc (.cells #[.slice sa ss.length c1, .slice ta ts.length c2] 26)).heap.size = w.heap.size + 1 from by simp] at h
  exact h
 have hs : Shop w.heap.size (w.heap.size + 1) (.slice sa ss.length c1) (.slice ta ts.length c2) W [] [] (.slice none 0 0) (.slice none 0 0) (fun _ => .slice none 0 0) := ⟨by omega, hblk, ⟨rfl, Or.inl ⟨rfl, rfl⟩⟩, ⟨rfl, Or.inl ⟨rfl, rfl⟩⟩, fun i d hi => by simp at hi⟩
 have hphi : phi ts [] <= 0 := by simp [phi, tcount, nms]
 have HMK : Hid (Calls Tryz.prog 29 #[.pointer (some ⟨w.heap.size + 1, 0, none⟩), .string nm] W _) := make_all w (w.heap.size + 1) sa ta c1 c2 ss ts hE 60 [] rfl (by simp) W [] nm _ _ _ hs (Inv.nil ss ts) hnm hphi hb0
 have HB0 : Hid (Below w.heap.size w W) := hb0
 clear hb0 hblk hs hphi hE hnm
 go_enter Tryz.func14, Tryz.ntmps14
 go_wp2_with fail
 refine HMK.out.mono ?_
 rintro e w2 ⟨hk, ms', an, hdo, ⟨d, mv, kv, vs', rfl, rfl, hs2, hfr⟩ | ⟨v, rfl, hdead⟩⟩
 ·obtain ⟨⟨x0, x1, x2, x3⟩, ⟨x4, x5, x6, x7⟩, xf⟩ := bk8 hs2.blk
  have hh2 : w.heap.size + 1 < w2.heap.size := blk_lt hs2.blk
  have HS2 : Hid (Shop w.heap.size (w.heap.size + 1) (.slice sa ss.length c1) (.slice ta ts.length c2) w2 ms' [] mv kv vs') := hs2
  have HDO : Hid (Does ss ts [] [] (.make nm) ms' (.ok d)) := hdo
  have HB2 : Hid (Below w.heap.size w w2) := HB0.out.trans hk.below
  obtain ⟨dc, dt, dls⟩ := d
  clear hs2 hdo hk hfr eW
  go_wp2_with fail
  have hbA : ∀ V : World, ∀ o : Obj, Below V.heap.size V (V.alloc o) := fun V o => (Below.refl _ _).alloc (Nat.le_refl _) _
  have a1 := Joins.block_setCell HS2.out.blk (.int .i64 dc) (i := 4)
  have a2 := Joins.block_setCell a1 (.string dt) (i := 5)
  have a3 := Joins.block_setCell a2 (.slice none 0 0) (i := 6)
  have hrow := own_set (own_set (own_set HS2.out.row HS2.out.blk (by decide) 4 (.int .i64 dc)) a1 (by decide) 5 (.string dt)) a2 (by decide) 6 (.slice none 0 0)
  have hbl : Below w.heap.size w (((w2.setCell ⟨w.heap.size + 1, 4, none⟩ (.int .i64 dc)).setCell ⟨w.heap.size + 1, 5, none⟩ (.string dt)).setCell ⟨w.heap.size + 1, 6, none⟩ (.slice none 0 0)) := ((HB2.out.setCell (p := ⟨w.heap.size + 1, 4, none⟩) (by simp) _).setCell (p := ⟨w.heap.size + 1, 5, none⟩) (by simp) _).setCell (p := ⟨w.heap.size + 1, 6, none⟩) (by simp) _
  exact bodyPost_ret (v := .pointer (some ⟨w.heap.size + 1, 0, none⟩)) (by simp [results, Tryz.results14, go_sem]) rfl ⟨hbl.trans ((hbA _ _).mono (by have := hbl.size; omega)), _, ms', _, rfl, by omega, HDO.out, Or.inl ⟨⟨dc, dt, dls⟩, mv, kv, vs', rfl, blk_keep (hbA _ _) (a3.trans rfl), ownsRow_below hrow (hbA _ _), fun i d hi hd => ((((HS2.out.lks i d hi hd).set HS2.out.blk (by decide) 4 (.int .i64 dc)).set a1 (by decide) 5 (.string dt)).set a2 (by decide) 6 (.slice none 0 0)).below (hbA _ _)⟩⟩
 ·have HDD : Hid (DeadAt (w.heap.size + 1) (.slice sa ss.length c1) (.slice ta ts.length c2) w2 an v) := hdead
  have HDO : Hid (Does ss ts [] [] (.make nm) ms' an) := hdo
  have HB2 : Hid (Below w.heap.size w w2) := HB0.out.trans hk.below
  obtain ⟨mv3, kv3, c, tt, ca, cn, cc, hblk, rfl⟩ := hdead.out
  obtain ⟨⟨x0, x1, x2, x3⟩, ⟨x4, x5, x6, x7⟩, xf⟩ := bk8 hblk
  have hh2 : w.heap.size + 1 < w2.heap.size := blk_lt hblk
  clear hdead hdo hk eW hblk
  go_wp2_with fail
  have hbA : ∀ V : World, ∀ o : Obj, Below V.heap.size V (V.alloc o) := fun V o => (Below.refl _ _).alloc (Nat.le_refl _) _
  exact bodyPost_ret (v := .pointer (some ⟨w.heap.size + 1, 0, none⟩)) (by simp [results, Tryz.results14, go_sem]) rfl ⟨HB2.out.trans ((hbA _ _).mono (by have := HB2.out.size; omega)), _, ms', an, rfl, by omega, HDO.out, Or.inr ⟨_, HDD.out.below (hbA _ _)⟩⟩
end
section
open Go.Deep
theorem l3Copy_nil (c : Int) (t : ByteArray) (w : World) :
  Calls Tryz.prog 15 #[.agg #[.int .i64 c, .string t, .slice none 0 0]] w fun e w' => Below w.heap.size w w' /\ ∃ g, e = .returned (.agg #[.int .i64 c, .string t, .slice (some ⟨g, 0, none⟩) 0 0]) := by
 go_enter Tryz.func15, Tryz.ntmps15
 go_wp2_with fail
 go_region
 go_wp2_with fail
 have hb : Below w.heap.size w (((w.alloc (.cells #[.int .i64 c, .string t, .slice none 0 0] 32)).alloc (.cells #[.int .i64 c, .string t, .slice (some ⟨w.heap.size + 1 + 1, 0, none⟩) 0 0] 32)).alloc (.cells #[] 9)).drew := ((((Below.refl _ _).alloc (Nat.le_refl _) _).alloc (by simp) _).alloc (by simp; omega) _).drew
 exact bodyPost_ret (v := .agg #[.int .i64 c, .string t, .slice (some ⟨w.heap.size + 1 + 1, 0, none⟩) 0 0]) (by simp [results, Tryz.results15, go_sem]) rfl ⟨hb, _, rfl⟩
theorem l3Copy_row (c : Int) (t : ByteArray) (ch : List ByteArray) (base g cp : Nat) (w : World) (hn : 0 < ch.length) (h60 : ch.length <= 60) (ho : w.ownsRow base 9 1 (.slice (some ⟨g, 0, none⟩) ch.length cp) ch.length (strV ch)) :
  Calls Tryz.prog 15 #[.agg #[.int .i64 c, .string t, .slice (some ⟨g, 0, none⟩) ch.length cp]] w fun e w' => Below w.heap.size w w' /\ ∃ g' cp', e = .returned (.agg #[.int .i64 c, .string t, .slice (some ⟨g', 0, none⟩) ch.length cp']) /\ w'.ownsRow w.heap.size 9 1 (.slice (some ⟨g', 0, none⟩) ch.length cp') ch.length (strV ch) := by
 obtain ⟨i9, hi9, hz9, hs9, hb9⟩ := info_parts Tryz.info9b
 obtain ⟨X, eX⟩ : ∃ X, ((w.alloc (.cells #[.int .i64 c, .string t, .slice (some ⟨g, 0, none⟩) ch.length cp] 32)).alloc (.cells #[.int .i64 0, .string ⟨#[]⟩, .slice none 0 0] 32)) = X := ⟨_, rfl⟩
 have hbX : Below w.heap.size w X := by rw [<- eX]; exact ((Below.refl _ _).alloc (Nat.le_refl _) _).alloc (by simp) _
 have hXs : X.heap.size = w.heap.size + 1 + 1 := by rw [<- eX]; simp
 have HR : Hid (∀ o : Obj, (X.alloc o).heap[w.heap.size + 1]? = some (.cells #[.int .i64 0, .string ⟨#[]⟩, .slice none 0 0] 32 (0, 0))) := fun o => by
  rw [Lib.alloc_old _ _ _ (by omega), <- eX]
  have h := heap_new (w.alloc (.cells #[.int .i64 c, .string t, .slice (some ⟨g, 0, none⟩) ch.length cp] 32)) (.cells #[.int .i64 0, .string ⟨#[]⟩, .slice none 0 0] 32)
  rw [show (w.alloc (.cells #[.int .i64 c, .string t, .slice (some ⟨g, 0, none⟩) ch.length cp] 32)).heap.size = w.heap.size + 1 from by simp] at h
  exact h
 have HP : Hid (∀ o : Obj, (X.alloc o).heap[w.heap.size]? = some (.cells #[.int .i64 c, .string t, .slice (some ⟨g, 0, none⟩) ch.length cp] 32 (0, 0))) := fun o => by
  rw [Lib.alloc_old _ _ _ (by omega), <- eX, Lib.alloc_old _ _ _ (by simp)]
  exact heap_new _ _
 have HO : Hid ((X.alloc (.cells #[] 9)).ownsRow w.heap.size 9 1 (.slice (some ⟨w.heap.size + 1 + 1, 0, none⟩) 0 0) 0 []) := by
  have h := World.ownsRow_lit (base := w.heap.size) (e := 9) (size := 1) X #[] 0 (by omega) (by unfold maxLen; omega) rfl
  rw [hXs] at h
  exact h
 have HNW : Hid (∀ j u, (strV ch)[j]? = some u -> (X.alloc (.cells #[] 9)).cell? ((⟨g, 0, none⟩ : Addr).add j) = some u) := fun j u hu => by
  have o2 := (ownsRow_below ho hbX).alloc (.cells #[] 9)
  exact o2.cells (g := g) (by simp [Value.ownBlock]) j u hu
 have HBX : Hid (Below w.heap.size w (X.alloc (.cells #[] 9))) := hbX.alloc (by omega) _
 have HXS : Hid ((X.alloc (.cells #[] 9)).heap.size = w.heap.size + 1 + 1 + 1) := by show _ = _; simp; omega
 have hlen : (strV ch).length = ch.length * 1 := by simp [strV]
 have HLEN : Hid ((strV ch).length = ch.length * 1) := hlen
 clear ho hbX hXs hlen
 go_enter Tryz.func15, Tryz.ntmps15
 subst eX
 go_wp2_with fail
 go_region_law (first | (refine step_append_lies (w := _) rfl (.tmp 7) (.tmp 9) 30 rfl w.heap.size 9 i9 (.string ⟨#[]⟩) 1 16 Tryz.underlying30 hi9 hz9 hs9 hb9 rfl (by decide) (.slice (some ⟨w.heap.size + 1 + 1, 0, none⟩) 0 0) 0 [] rfl HO.out ⟨g, 0, none⟩ ch.length cp (strV ch) rfl HLEN.out HNW.out (by intro u hu; obtain ⟨z, _, rfl⟩ := List.mem_map.mp hu; rfl) hn (by unfold maxLen; omega) (by omega) (by simp; omega) _ rfl ?_; intro g' cap' w5 hown5 hgrow5 hat5 hlt5; have hgr : World.grownBy _ w5 _ := (⟨hgrow5.os, hgrow5.tape, hgrow5.output, hgrow5.size, hgrow5.block⟩ : World.grownBy (((w.alloc (.cells #[.int .i64 c, .string t, .slice (some ⟨g, 0, none⟩) ch.length cp] 32)).alloc (.cells #[.int .i64 0, .string ⟨#[]⟩, .slice none 0 0] 32)).alloc (.cells #[] 9)) w5 _); have HR5 : Hid (w5.heap[w.heap.size + 1]? = some (.cells #[.int .i64 0, .string ⟨#[]⟩, .slice none 0 0] 32 (0, 0))) := far_grown HO.out hgr (by decide) (HR.out _); have HB5 : Hid (Below w.heap.size w w5) := HBX.out.grown hgr (by simp; omega) (fun k hk => (HO.out.lt k hk).1); have HO5 : Hid (w5.ownsRow w.heap.size 9 1 (.slice (some ⟨g', 0, none⟩) (0 + ch.length) cap') (0 + ch.length) ([] ++ strV ch)) := hown5; obtain ⟨z0, z1, z2, zf⟩ := bk3 HR5.out; obtain ⟨p0, p1, p2, pf⟩ := bk3 (far_grown HO.out hgr (by decide) (HP.out _)); clear hgr hown5 hgrow5 hat5 hlt5))
 all_goals
  go_wp2_with fail
  rw [Nat.zero_add, List.nil_append] at HO5
  have hb := below_set3 HB5.out (b := w.heap.size + 1) (by omega) (.int .i64 c) (.string t) (.slice (some ⟨g', 0, none⟩) ch.length cap')
  have e3 := set3_at HR5.out (.int .i64 c) (.string t) (.slice (some ⟨g', 0, none⟩) ch.length cap')
  have e1 := Joins.block_setCell HR5.out (.int .i64 c) (i := 0)
  have e2 := Joins.block_setCell e1 (.string t) (i := 1)
  have ho := own_set (own_set (own_set HO5.out HR5.out (by decide) 0 (.int .i64 c)) e1 (by decide) 1 (.string t)) e2 (by decide) 2 (.slice (some ⟨g', 0, none⟩) ch.length cap')
  obtain ⟨v0, v1, v2, _⟩ := bk3 e3
  exact bodyPost_ret (v := .agg #[.int .i64 c, .string t, .slice (some ⟨g', 0, none⟩) ch.length cap']) (by simp [results, Tryz.results15, go_sem, v0, v1, v2]) rfl ⟨hb, g', cap', rfl, ho⟩
end
section
open Go.Deep
theorem env_of {w : World} {sa ta : Option Addr} {ss : List S2} {ts : List T2} (h : SpOk w sa ss ta ts) (hc : chk ss ts = 0) : EnvS w sa ta ss ts := by
 unfold chk at hc
 split at hc
 ·omega
 ·rename_i h1
  split at hc
  ·omega
  ·rename_i h2
   split at hc
   ·omega
   ·rename_i h3
    split at hc
    ·omega
    ·rename_i h4
     split at hc
     ·omega
     ·rename_i h5
      split at hc
      ·omega
      ·rename_i h6
       split at hc
       ·omega
       ·rename_i h7
        have h2 := Classical.not_not.mp h2
        have h3 := Classical.not_not.mp h3
        have h4 := Classical.not_not.mp h4
        have h6 := Classical.not_not.mp h6
        have h7 := Classical.not_not.mp h7
        refine ⟨h.rs, h.rt, ⟨h3, h4, ?_, ?_, ?_, ?_⟩, by omega, by omega, ?_⟩
        ·rintro nm ⟨i, hi, e⟩ hn
         exact h5 ⟨i, hi, by rw [e]; exact hn⟩
        ·exact h6
        ·exact h7
        ·intro i hi
         have hq := h2.2 i (by rw [tnames_length]; exact hi)
         rw [nx_tnames] at hq
         unfold nameB at hq
         simpa using hq
        ·intro i j
         have := h.xt i j
         unfold maxLen at this
         omega
theorem Does.circle_len {ss : List S2} {ts : List T2} {ms : Ms} {st : List ByteArray} {j : Job} {ms' : Ms} {a : Ans} (h : Does ss ts ms st j ms' a) : st.length <= 60 -> ∀ ch, a = .circle ch -> 0 < ch.length /\ ch.length <= 60 := by
 induction h with
 | known => intro _ ch e; cases e
 | circle h1 h2 h3 h4 => intro hs ch e; cases e; rw [List.length_drop]; omega
 | source => intro _ ch e; cases e
 | missing => intro _ ch e; cases e
 | deep => intro _ ch e; cases e
 | made => intro _ ch e; cases e
 | fell h1 h2 h3 h4 h5 _ _ ih => intro hs ch e; exact ih (by simp; omega) ch e
 | over => intro _ ch e; cases e
 | has _ _ ih => intro hs ch e; exact ih hs ch e
 | asked _ _ _ _ ih => intro hs ch e; exact ih hs ch e
 | askfell _ _ _ ih => intro hs ch e; exact ih hs ch e
def CleanP (ss : List S2) (ts : List T2) (nm : ByteArray) (c : Int) (t : ByteArray) (ch : List ByteArray) : Prop :=
 (¬ (chk ss ts = 0 /\ nameB nm = true) /\ c = 9 /\ t = ⟨#[]⟩ /\ ch = []) \/ (chk ss ts = 0 /\ nameB nm = true /\ ∃ ms a, Does ss ts [] [] (.make nm) ms a /\ (match a with | .ok d => c = d.c /\ t = d.t /\ ch = [] | .circle l => c = 6 /\ t = ⟨#[]⟩ /\ ch = l | .deep x => c = 7 /\ t = x /\ ch = []))
theorem SpOk.below {w w' : World} {sa ta : Option Addr} {ss : List S2} {ts : List T2} (h : SpOk w sa ss ta ts) (hb : Below w.heap.size w w') : SpOk w' sa ss ta ts := ⟨h.rs.below hb, h.rt.below hb, h.ls, h.lt, h.ns, h.xs, h.nt, h.lc, h.xt⟩
theorem strs_nil (w : World) (a : Option Addr) : Strs w a [] := fun i hi => by simp at hi
theorem strs_row {w : World} {base g cp : Nat} {ch : List ByteArray} (h : w.ownsRow base 9 1 (.slice (some ⟨g, 0, none⟩) ch.length cp) ch.length (strV ch)) : Strs w (some ⟨g, 0, none⟩) ch := fun i hi => ⟨g, 0, rfl, by rw [Nat.zero_add, h.cellAt i (by omega), strV_get ch i hi]; rfl⟩
end
end Go.Proofs.YtmanoabocelpeaaGreatDoor
