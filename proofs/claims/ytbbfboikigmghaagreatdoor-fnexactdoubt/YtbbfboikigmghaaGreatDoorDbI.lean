import Derived.Test.YtbbfboikigmghaaGreatDoorImI
import Derived.Defers
import Derived.Recover
import Derived.Test.YtbbfboikigmghaaGreatDoorImD
import Derived.Test.YtbbfboikigmghaaGreatDoorDbT
namespace Go.Proofs.YtbbfboikigmghaaGreatDoor
open Go.RowKit
set_option linter.unusedVariables false
set_option maxHeartbeats 32000000
set_option maxRecDepth 100000
section
open Go.Deep
theorem catch_panicking (O : Nat) (c : Int) (t : ByteArray) (ca : Option Addr) (cn cc : Nat) (older : List PanicEntry) (w : World) (hO : w.heap[O]? = some (.cells #[.bool false, .int .i64 0, .string ⟨#[]⟩, .slice none 0 0, .string ⟨#[]⟩, .slice none 0 0] 122 (0, 0))) :
    CallsD Tryz.prog 78 #[.pointer (some ⟨O, 0, none⟩)] (.panicking ({ v := .iface 149 (.agg #[.int .i64 c, .string t, .slice ca cn cc]), recovered := false } :: older)) w fun e u' w' =>
      e = .returned (.tuple #[]) /\ u' = .panicking ({ v := .iface 149 (.agg #[.int .i64 c, .string t, .slice ca cn cc]), recovered := true } :: older) /\ w' = ((((((w.setCell ⟨O, 0, none⟩ (.bool false)).setCell ⟨O, 1, none⟩ (.int .i64 c)).setCell ⟨O, 2, none⟩ (.string t)).setCell ⟨O, 3, none⟩ (.slice ca cn cc)).setCell ⟨O, 4, none⟩ (.string ⟨#[]⟩)).setCell ⟨O, 5, none⟩ (.slice none 0 0)).alloc (.cells #[.int .i64 c, .string t, .slice ca cn cc] 149) := by
  refine callsD_of_wpS Tryz.func78 rfl fun c₀ cs hu => ?_
  apply wpS_seq
  apply wpS_region
  simp [wpOpsS, go_sem, recoverD, hu, Tryz.ntmps78, Exit.thenS]
  obtain ⟨⟨z0, z1, z2, z3, z4, z5⟩, zf⟩ := bk6 hO
  have hOl : O < w.heap.size := blk_lt hO
  have hta : ∀ w : World, (Instr.typeAssert (.iface 149 (.agg #[.int .i64 c, .string t, .slice ca cn cc])) 20 149 true).run Tryz.prog w = .ok (.tuple #[.agg #[.int .i64 c, .string t, .slice ca cn cc], .bool true]) w := fun w => by kernel_rfl
  have hfr : ∀ (p x : Value), #[p] ++ (((Array.replicate 15 undef).setIfInBounds 3 x).setIfInBounds 0 x) = #[p, x, undef, undef, x, undef, undef, undef, undef, undef, undef, undef, undef, undef, undef, undef] := fun p x => rfl
  refine wpS_of_wp ?_
  rw [hfr]
  go_wp2_with fail
  simp [bodyPostS, results, Tryz.results78]
theorem catch_idle (O : Nat) (w : World) :
    CallsD Tryz.prog 78 #[.pointer (some ⟨O, 0, none⟩)] .returning w fun e u' w' => e = .returned (.tuple #[]) /\ u' = .returning /\ w' = w.alloc (.cells #[.int .i64 0, .string ⟨#[]⟩, .slice none 0 0] 149) := by
  refine callsD_of_wpS Tryz.func78 rfl fun c₀ cs hu => ?_
  apply wpS_seq
  apply wpS_region
  simp [wpOpsS, go_sem, recoverD, hu, Tryz.ntmps78, Exit.thenS]
  have hta : ∀ w : World, (Instr.typeAssert .nilIface 20 149 true).run Tryz.prog w = .ok (.tuple #[.agg #[.int .i64 0, .string ⟨#[]⟩, .slice none 0 0], .bool false]) w := fun w => by kernel_rfl
  have hne : ∀ w : World, (binOp BinOp.neq 20 .nilIface .nilIface).run Tryz.prog w = .ok (.bool false) w := fun _ => by kernel_rfl
  have hfr : ∀ (p x : Value), #[p] ++ (((Array.replicate 15 undef).setIfInBounds 3 x).setIfInBounds 0 x) = #[p, x, undef, undef, x, undef, undef, undef, undef, undef, undef, undef, undef, undef, undef, undef] := fun p x => rfl
  refine wpS_of_wp ?_
  rw [hfr]
  go_wp2_with fail
  cases c₀
  simp_all [bodyPostS, results, Tryz.results78]
def FirstP (B h mb : Nat) (ss : List S2) (ts : List T2) (nm : ByteArray) (w : World) (e : Ending) (w' : World) : Prop :=
  Below B w w' /\ ∃ ms' a, Does ss ts [] [] (.make nm) ms' a /\ MkE B h mb w' ms' /\ ∃ v0 v1 v2 v3 v4 v5, e = .returned (.agg #[v0, v1, v2, v3, v4, v5])
theorem EndV.parts {B h mb : Nat} {w : World} {ms : Ms} {a : Ans} {v : Value} (k : EndV B h mb w ms a v) : ∃ c t ca cn cc, v = .agg #[.int .i64 c, .string t, .slice ca cn cc] := by
  cases a with
  | ok d => exact absurd k.1 id
  | circle ch => obtain ⟨ca, cn, cc, e, _⟩ := k.1; exact ⟨_, _, _, _, _, e⟩
  | deep nm => exact ⟨_, _, _, _, _, k.1⟩
theorem first_any (W0 : World) (h mb : Nat) (sa ta : Option Addr) (c1 c2 : Nat) (ss : List S2) (ts : List T2) (nm : ByteArray) (w : World) (hE : EnvS W0 sa ta ss ts) (hT : Tab W0) (hP : P10 W0) (hnm : NameOk nm)
    (s : Mkr W0.heap.size h mb (.slice sa ss.length c1) (.slice ta ts.length c2) (.func (.func 77) #[.pointer (some ⟨h, 0, none⟩)] #[]) w [] [] (.slice none 0 0) (.slice none 0 0) (fun _ => .slice none 0 0)) (hW : Below W0.heap.size W0 w) :
    Calls Tryz.prog 59 #[.pointer (some ⟨h, 0, none⟩), .string nm] w fun e w' => FirstP W0.heap.size h mb ss ts nm w e w' := by
  have hB := hW.size
  have hhw : h < w.heap.size := blk_lt s.blk
  have hmw : mb < w.heap.size := by obtain ⟨n, _, hm⟩ := s.map; exact hm.lt
  have hmf : ∀ (fn : Fn) (first cap : Array Value) (w : World), (Instr.makeFunc fn first cap).run Tryz.prog w = .ok (.func fn first cap) w := fun _ _ _ _ => rfl
  obtain ⟨W, eW⟩ : ∃ W, w.alloc (.cells #[.bool false, .int .i64 0, .string ⟨#[]⟩, .slice none 0 0, .string ⟨#[]⟩, .slice none 0 0] 122) = W := ⟨_, rfl⟩
  have hbW : Below w.heap.size w W := by rw [<- eW]; exact alloc_below _ _
  have HOB : Hid (W.heap[w.heap.size]? = some (.cells #[.bool false, .int .i64 0, .string ⟨#[]⟩, .slice none 0 0, .string ⟨#[]⟩, .slice none 0 0] 122 (0, 0))) := by
    show _ = _
    rw [<- eW]; exact heap_new _ _
  have HSW : Hid (Mkr W0.heap.size h mb (.slice sa ss.length c1) (.slice ta ts.length c2) (.func (.func 77) #[.pointer (some ⟨h, 0, none⟩)] #[]) W [] [] (.slice none 0 0) (.slice none 0 0) (fun _ => .slice none 0 0)) := s.below hbW
  have hphi : phi ts [] <= 0 := by simp [phi, tcount, nms]
  have HU : Hid (Calls Tryz.prog 79 #[.pointer (some ⟨h, 0, none⟩), .string nm] W fun e w' => UnderP W0.heap.size h mb (.slice sa ss.length c1) (.slice ta ts.length c2) (.func (.func 77) #[.pointer (some ⟨h, 0, none⟩)] #[]) ss ts [] [] (.slice none 0 0) (.slice none 0 0) (fun _ => .slice none 0 0) nm W e w') := under_all W0 h mb sa ta c1 c2 ss ts hE hT hP 60 [] rfl (by simp) W [] nm _ _ _ HSW.out (Inv.nil ss ts) hnm hphi (hW.trans (hbW.mono hB))
  have HB : Hid (Below W0.heap.size w W) := hbW.mono hB
  have HLK : Hid (∀ ms' d, Does ss ts [] [] (.make nm) ms' (.ok d) -> lk ms' nm = some (some d)) := fun ms' d hd => (Does.inv hE.v hd (Inv.nil ss ts) hnm trivial d rfl).2.2
  clear s hW hE hT hP hnm hbW hphi
  go_enter_defers Tryz.func59, Tryz.ntmps59
  go_wp2_with fail
  refine HU.out.mono ?_
  rintro e w4 ⟨hk4, ms', an, hdo, ⟨⟨dc, dt, dls⟩, av', kv', vs', rfl, rfl, hs4, ha4, hkk4, hf4⟩ | ⟨v, rfl, hv⟩⟩
  · have hO4 : w4.heap[w.heap.size]? = some (.cells #[.bool false, .int .i64 0, .string ⟨#[]⟩, .slice none 0 0, .string ⟨#[]⟩, .slice none 0 0] 122 (0, 0)) := by
      obtain ⟨n, _, hm⟩ := HSW.out.map
      rw [hk4.keep _ (blk_lt HOB.out) (by omega) (fun e => hm.notCells (e ▸ HOB.out)) (by simp [Value.ownBlock]) (by simp [Value.ownBlock])]
      exact HOB.out
    have hlo := hs4.lks nm _ (HLK.out _ _ hdo)
    obtain ⟨la, ln, lc, hlv⟩ := looks_is hlo
    rw [hlv] at hlo
    obtain ⟨fo, efo⟩ : ∃ fo, formB dc dt = fo := ⟨_, rfl⟩
    have EF : Hid (formB dc dt = fo) := efo
    unfold markV
    simp only [efo, hlv]
    have HO4 : Hid _ := hO4
    have HLO : Hid (LooksO w4 W0.heap.size (.slice la ln lc) dls) := hlo
    have HME : Hid (MkE W0.heap.size h mb w4 ms') := hs4.left rfl (fun _ => rfl)
    have HDO : Hid (Does ss ts [] [] (.make nm) ms' (.ok ⟨dc, dt, dls⟩) /\ Below W0.heap.size w w4) := ⟨hdo, HB.out.trans hk4.below⟩
    obtain ⟨⟨z0, z1, z2, z3, z4, z5⟩, zf⟩ := bk6 hO4
    clear hk4 hdo hs4 ha4 hkk4 hf4 hlo hO4 hlv efo eW
    go_wp2_with fail
    refine leaves_cons (f := 78) (args := #[.pointer (some ⟨w.heap.size, 0, none⟩)]) (by simp) (by simp [go_sem]) ?_
    refine (catch_idle w.heap.size _).mono ?_
    rintro e u' w'' ⟨rfl, rfl, rfl⟩
    have e7 := blk_keep (alloc_below _ (.cells #[.int .i64 0, .string ⟨#[]⟩, .slice none 0 0] 149)) (set6_at HO4.out (.bool true) (.int .i64 dc) (.string dt) (.slice none 0 0) (.string fo) (.slice la ln lc))
    obtain ⟨⟨y0, y1, y2, y3, y4, y5⟩, _⟩ := bk6 e7
    have hme := (HME.out.kept (set6_ne (w := w4) (b := w.heap.size) (by omega) (.bool true) (.int .i64 dc) (.string dt) (.slice none 0 0) (.string fo) (.slice la ln lc)) (set6_ne (w := w4) (b := w.heap.size) (by omega) (.bool true) (.int .i64 dc) (.string dt) (.slice none 0 0) (.string fo) (.slice la ln lc)) (fun b cur q => set6_ne (w := w4) (b := w.heap.size) (fun e => by subst e; have q2 := HO4.out; rw [q] at q2; injection q2 with q2; injection q2 with _ q2; exact absurd q2 (by decide)) (.bool true) (.int .i64 dc) (.string dt) (.slice none 0 0) (.string fo) (.slice la ln lc))).below (alloc_below _ (.cells #[.int .i64 0, .string ⟨#[]⟩, .slice none 0 0] 149))
    have hbl : Below W0.heap.size w _ := below_set6 HDO.out.2 (b := w.heap.size) hB (.bool true) (.int .i64 dc) (.string dt) (.slice none 0 0) (.string fo) (.slice la ln lc)
    refine ⟨markV ⟨dc, dt, dls⟩ (.slice la ln lc), by simp [results, Tryz.results59, go_sem, markV, EF.out, y0, y1, y2, y3, y4, y5], hbl.trans ((alloc_below _ _).mono (Nat.le_trans hB hbl.size)), ms', _, HDO.out.1, hme, _, _, _, _, _, _, rfl⟩
  · obtain ⟨c, t, ca, cn, cc, rfl⟩ := hv.parts
    unfold panV
    dsimp only
    have hO4 : w4.heap[w.heap.size]? = some (.cells #[.bool false, .int .i64 0, .string ⟨#[]⟩, .slice none 0 0, .string ⟨#[]⟩, .slice none 0 0] 122 (0, 0)) := by
      obtain ⟨n, _, hm⟩ := HSW.out.map
      rw [hk4.keep _ (blk_lt HOB.out) (by omega) (fun e => hm.notCells (e ▸ HOB.out)) (by simp [Value.ownBlock]) (by simp [Value.ownBlock])]
      exact HOB.out
    have HO4 : Hid _ := hO4
    have HDV : Hid (Does ss ts [] [] (.make nm) ms' an /\ EndV W0.heap.size h mb w4 ms' an (.agg #[.int .i64 c, .string t, .slice ca cn cc]) /\ Below W0.heap.size w w4) := ⟨hdo, hv, HB.out.trans hk4.below⟩
    clear hk4 hdo hv hO4 eW
    go_wp2_with fail
    refine leaves_cons (f := 78) (args := #[.pointer (some ⟨w.heap.size, 0, none⟩)]) (by simp) (by simp [go_sem]) ?_
    refine (catch_panicking w.heap.size c t ca cn cc [] _ HO4.out).mono ?_
    rintro e u' w'' ⟨rfl, rfl, rfl⟩
    have e7 := blk_keep (alloc_below _ (.cells #[.int .i64 c, .string t, .slice ca cn cc] 149)) (set6_at HO4.out (.bool false) (.int .i64 c) (.string t) (.slice ca cn cc) (.string ⟨#[]⟩) (.slice none 0 0))
    obtain ⟨⟨y0, y1, y2, y3, y4, y5⟩, _⟩ := bk6 e7
    have hbl : Below W0.heap.size w _ := below_set6 HDV.out.2.2 (b := w.heap.size) hB (.bool false) (.int .i64 c) (.string t) (.slice ca cn cc) (.string ⟨#[]⟩) (.slice none 0 0)
    have hme := (HDV.out.2.1.2.kept (set6_ne (w := w4) (b := w.heap.size) (by omega) (.bool false) (.int .i64 c) (.string t) (.slice ca cn cc) (.string ⟨#[]⟩) (.slice none 0 0)) (set6_ne (w := w4) (b := w.heap.size) (by omega) (.bool false) (.int .i64 c) (.string t) (.slice ca cn cc) (.string ⟨#[]⟩) (.slice none 0 0)) (fun b cur q => set6_ne (w := w4) (b := w.heap.size) (fun e => by subst e; have q2 := HO4.out; rw [q] at q2; injection q2 with q2; injection q2 with _ q2; exact absurd q2 (by decide)) (.bool false) (.int .i64 c) (.string t) (.slice ca cn cc) (.string ⟨#[]⟩) (.slice none 0 0))).below (alloc_below _ (.cells #[.int .i64 c, .string t, .slice ca cn cc] 149))
    refine ⟨.agg #[.bool false, .int .i64 c, .string t, .slice ca cn cc, .string ⟨#[]⟩, .slice none 0 0], by simp [results, Tryz.results59, go_sem, y0, y1, y2, y3, y4, y5], hbl.trans ((alloc_below _ _).mono (Nat.le_trans hB hbl.size)), ms', an, HDV.out.1, hme, _, _, _, _, _, _, rfl⟩
end
section
open Go.Deep
structure Done (B h : Nat) (sv tv : Value) (w : World) (ms : Ms) (mv kv : Value) (vs : Nat -> Value) (d : Md) : Prop where
  blk : w.heap[h]? = some (.cells #[sv, tv, mv, kv, .int .i64 d.c, .string d.t, .slice none 0 0, .bool false] 98 (0, 0))
  row : w.ownsRow B 101 6 mv ms.length (msC ms vs)
  lks : ∀ i d, i < ms.length -> (mx ms i).2 = some d -> LooksO w B (vs i) d.ls
theorem l3Clean_any (sa ta : Option Addr) (c1 c2 : Nat) (ss : List S2) (ts : List T2) (nm : ByteArray) (w : World) (hE : EnvS w sa ta ss ts) (hnm : NameOk nm) :
    Calls Tryz.prog 43 #[.agg #[.slice sa ss.length c1, .slice ta ts.length c2], .string nm] w fun e w' => Below w.heap.size w w' /\ ∃ h ms' a, e = .returned (.pointer (some ⟨h, 0, none⟩)) /\ w.heap.size <= h /\ Does ss ts [] [] (.make nm) ms' a /\ ((∃ d mv kv vs, a = .ok d /\ Done w.heap.size h (.slice sa ss.length c1) (.slice ta ts.length c2) w' ms' mv kv vs d) \/ (∃ v, DeadAt h (.slice sa ss.length c1) (.slice ta ts.length c2) w' ms' a v)) := by
  obtain ⟨W, eW⟩ : ∃ W, (w.alloc (.cells #[.slice sa ss.length c1, .slice ta ts.length c2] 41)).alloc (.cells #[.slice sa ss.length c1, .slice ta ts.length c2, .slice none 0 0, .slice none 0 0, .int .i64 0, .string ⟨#[]⟩, .slice none 0 0, .bool false] 98) = W := ⟨_, rfl⟩
  have hb0 : Below w.heap.size w W := by rw [<- eW]; exact ((Below.refl _ _).alloc (Nat.le_refl _) _).alloc (by simp) _
  have hblk : W.heap[w.heap.size + 1]? = some (.cells #[.slice sa ss.length c1, .slice ta ts.length c2, .slice none 0 0, .slice none 0 0, .int .i64 0, .string ⟨#[]⟩, .slice none 0 0, .bool false] 98 (0, 0)) := by
    rw [<- eW]
    have h := heap_new (w.alloc (.cells #[.slice sa ss.length c1, .slice ta ts.length c2] 41)) (.cells #[.slice sa ss.length c1, .slice ta ts.length c2, .slice none 0 0, .slice none 0 0, .int .i64 0, .string ⟨#[]⟩, .slice none 0 0, .bool false] 98)
    rw [show (w.alloc (.cells #[.slice sa ss.length c1, .slice ta ts.length c2] 41)).heap.size = w.heap.size + 1 from by simp] at h
    exact h
  have hs : Shop w.heap.size (w.heap.size + 1) (.slice sa ss.length c1) (.slice ta ts.length c2) W [] [] (.slice none 0 0) (.slice none 0 0) (fun _ => .slice none 0 0) := ⟨by omega, hblk, ⟨rfl, Or.inl ⟨rfl, rfl⟩⟩, ⟨rfl, Or.inl ⟨rfl, rfl⟩⟩, fun i d hi => by simp at hi⟩
  have hphi : phi ts [] <= 0 := by simp [phi, tcount, nms]
  have HMK : Hid (Calls Tryz.prog 67 #[.pointer (some ⟨w.heap.size + 1, 0, none⟩), .string nm] W _) := make_all w (w.heap.size + 1) sa ta c1 c2 ss ts hE 60 [] rfl (by simp) W [] nm _ _ _ hs (Inv.nil ss ts) hnm hphi hb0
  have HB0 : Hid (Below w.heap.size w W) := hb0
  clear hb0 hblk hs hphi hE hnm
  go_enter Tryz.func43, Tryz.ntmps43
  go_wp2_with fail
  refine HMK.out.mono ?_
  rintro e w2 ⟨hk, ms', an, hdo, ⟨d, mv, kv, vs', rfl, rfl, hs2, hfr⟩ | ⟨v, rfl, hdead⟩⟩
  · obtain ⟨⟨x0, x1, x2, x3⟩, ⟨x4, x5, x6, x7⟩, xf⟩ := bk8 hs2.blk
    have hh2 : w.heap.size + 1 < w2.heap.size := blk_lt hs2.blk
    have HS2 : Hid (Shop w.heap.size (w.heap.size + 1) (.slice sa ss.length c1) (.slice ta ts.length c2) w2 ms' [] mv kv vs') := hs2
    have HDO : Hid (Does ss ts [] [] (.make nm) ms' (.ok d)) := hdo
    have HB2 : Hid (Below w.heap.size w w2) := HB0.out.trans hk.below
    obtain ⟨dc, dt, dls⟩ := d
    clear hs2 hdo hk hfr eW
    go_wp2_with fail
    have hbA : ∀ V : World, ∀ o : Obj, Below V.heap.size V (V.alloc o) := fun V o => (Below.refl _ _).alloc (Nat.le_refl _) _
    have a1 := Joins.block_setCell HS2.out.blk (.int .i64 dc) (i := 4)
    have a2 := Joins.block_setCell a1 (.string dt) (i := 5)
    have a3 := Joins.block_setCell a2 (.slice none 0 0) (i := 6)
    have hrow := own_set (own_set (own_set HS2.out.row HS2.out.blk (by decide) 4 (.int .i64 dc)) a1 (by decide) 5 (.string dt)) a2 (by decide) 6 (.slice none 0 0)
    have hbl : Below w.heap.size w (((w2.setCell ⟨w.heap.size + 1, 4, none⟩ (.int .i64 dc)).setCell ⟨w.heap.size + 1, 5, none⟩ (.string dt)).setCell ⟨w.heap.size + 1, 6, none⟩ (.slice none 0 0)) := ((HB2.out.setCell (p := ⟨w.heap.size + 1, 4, none⟩) (by simp) _).setCell (p := ⟨w.heap.size + 1, 5, none⟩) (by simp) _).setCell (p := ⟨w.heap.size + 1, 6, none⟩) (by simp) _
    exact bodyPost_ret (v := .pointer (some ⟨w.heap.size + 1, 0, none⟩)) (by simp [results, Tryz.results43, go_sem]) rfl ⟨hbl.trans ((hbA _ _).mono (by have := hbl.size; omega)), _, ms', _, rfl, by omega, HDO.out, Or.inl ⟨⟨dc, dt, dls⟩, mv, kv, vs', rfl, blk_keep (hbA _ _) (a3.trans rfl), ownsRow_below hrow (hbA _ _), fun i d hi hd => ((((HS2.out.lks i d hi hd).set HS2.out.blk (by decide) 4 (.int .i64 dc)).set a1 (by decide) 5 (.string dt)).set a2 (by decide) 6 (.slice none 0 0)).below (hbA _ _)⟩⟩
  · have HDD : Hid (DeadAt (w.heap.size + 1) (.slice sa ss.length c1) (.slice ta ts.length c2) w2 ms' an v) := hdead
    have HDO : Hid (Does ss ts [] [] (.make nm) ms' an) := hdo
    have HB2 : Hid (Below w.heap.size w w2) := HB0.out.trans hk.below
    obtain ⟨mv3, kv3, c, tt, ca, cn, cc, hblk, rfl⟩ := hdead.out
    obtain ⟨⟨x0, x1, x2, x3⟩, ⟨x4, x5, x6, x7⟩, xf⟩ := bk8 hblk
    have hh2 : w.heap.size + 1 < w2.heap.size := blk_lt hblk
    clear hdead hdo hk eW hblk
    go_wp2_with fail
    have hbA : ∀ V : World, ∀ o : Obj, Below V.heap.size V (V.alloc o) := fun V o => (Below.refl _ _).alloc (Nat.le_refl _) _
    exact bodyPost_ret (v := .pointer (some ⟨w.heap.size + 1, 0, none⟩)) (by simp [results, Tryz.results43, go_sem]) rfl ⟨HB2.out.trans ((hbA _ _).mono (by have := HB2.out.size; omega)), _, ms', an, rfl, by omega, HDO.out, Or.inr ⟨_, HDD.out.below (hbA _ _)⟩⟩
end
section
open Go.Deep

end
section
open Go.Deep
theorem names_push {ms : Ms} {nm : ByteArray} {o : Option Md} (h : ∀ x ∈ nms ms, NameOk x) (hn : NameOk nm) : ∀ x ∈ nms (ms ++ [(nm, o)]), NameOk x := fun x hx => by
  unfold nms at hx h
  rw [List.map_append, List.mem_append] at hx
  rcases hx with q | q
  · exact h x q
  · simp at q; subst q; exact hn
theorem Does.names {ss : List S2} {ts : List T2} (hv : SpV ss ts) {ms : Ms} {st : List ByteArray} {j : Job} {ms' : Ms} {a : Ans} (h : Does ss ts ms st j ms' a) : Inv ss ts ms st -> JobOk j -> (match j with | .run is ys ls => ys.length <= 200 | _ => True) -> (∀ x ∈ nms ms, NameOk x) -> ∀ x ∈ nms ms', NameOk x := by
  induction h with
  | known h1 => intro _ _ _ hn; exact hn
  | circle => intro _ _ _ hn; exact hn
  | source h1 h2 h3 => intro _ hj _ hn; exact names_push hn hj
  | missing h1 h2 => intro _ hj _ hn; exact names_push hn hj
  | deep h1 h2 h3 h4 => intro _ hj _ hn; exact names_push hn hj
  | made h1 h2 h3 h4 h5 h6 ih => intro hi hj hl hn; rw [nms_set]; exact ih (hi.push h1 (h4 ▸ has_tgt h3)) ⟨hv.pr _ h3, fun i hi => by simp at hi, rfl⟩ (by simp) (names_push hn hj)
  | fell h1 h2 h3 h4 h5 h6 h7 ih => intro hi hj _ hn; exact ih (hi.push h1 (h4 ▸ has_tgt h3)) ⟨hv.pr _ h3, fun i hi => by simp at hi, rfl⟩ (by simp) (names_push hn hj)
  | over h1 => intro _ _ _ hn; exact hn
  | has h1 h2 ih => intro hi hj hl hn; obtain ⟨k1, k2⟩ := hj.wait h1; exact ih hi (hj.has _ _) (by simp; omega) hn
  | asked h1 h2 h3 ih1 ih2 =>
    intro hi hj hl hn
    obtain ⟨k1, k2⟩ := hj.wait h1
    obtain ⟨i1, _, i3⟩ := Does.inv hv h2 hi k2 trivial _ rfl
    exact ih2 i1 (hj.asked (i1.done _ _ i3) _) (by simp; omega) (ih1 hi k2 trivial hn)
  | askfell h1 h2 h3 ih => intro hi hj hl hn; obtain ⟨k1, k2⟩ := hj.wait h1; exact ih hi k2 trivial hn
/-- A name's mark, without its flag. -/
theorem MapP.look1 {w : World} {b n : Nat} {f : ByteArray -> Option Value} (h : MapP w b n f) {k : ByteArray} (hk : k.size <= maxLen) : (Instr.lookup 124 (.map (some b)) (.string k) false).run Tryz.prog w = .ok ((f k).getD zeroMk) w := by
  obtain ⟨D, h1, h2⟩ := h
  obtain ⟨v, ps, h3, h4⟩ := h1.lookup (Maps.string_keyed Tryz.underlying9) Tryz.underlying124 (zero59 w) (zd := .held zeroMk) (zp := []) rfl (key_of k hk)
  have h5 : (DataW.held v : DataW Value) = D.atKey (kS k) (.held zeroMk) := by
    simp only [Option.some.injEq, Prod.mk.injEq] at h4
    exact h4.1
  have h6 : v = (f k).getD zeroMk := by
    cases hf : f k with
    | none =>
      have h7 := (h2 k).1
      rw [hf] at h7
      rw [Maps.atKey_of_not_has h7] at h5
      exact DataW.held.inj h5
    | some u =>
      rw [(h2 k).2 u hf] at h5
      exact DataW.held.inj h5
  rw [h3, h6]
theorem field122 (a b c d e f : Value) (w : World) : (Instr.field 122 (.agg #[a, b, c, d, e, f]) 2).run Tryz.prog w = .ok e w := by kernel_rfl
def FormsP (B : Nat) (ss : List S2) (tp : List T2) (nm : ByteArray) (e : Ending) (w' : World) : Prop :=
  ∃ (v : Value) (ms : Ms) (a : Ans) (st : List ByteArray), e = .returned v /\ Does ss tp [] [] (.make nm) ms a /\ Inv ss tp ms st /\ ms.length <= 40001 /\ w'.ownsRow B 9 1 v (forms ms).length (strV (forms ms)) /\ ((forms ms).length = 0 -> v = .slice none 0 0)
theorem formsOfClean_any (sa ua : Option Addr) (c1 c2 : Nat) (ss : List S2) (tp : List T2) (nm : ByteArray) (w : World) (hE : EnvS w sa ua ss tp) (hT : Tab w) (hP : P10 w) (hnm : NameOk nm) :
    Calls Tryz.prog 31 #[.agg #[.slice sa ss.length c1, .slice ua tp.length c2], .string nm] w fun e w' => Below w.heap.size w w' /\ FormsP w.heap.size ss tp nm e w' := by
  obtain ⟨W, eW⟩ : ∃ W, w.alloc (.cells #[.slice sa ss.length c1, .slice ua tp.length c2] 41) = W := ⟨_, rfl⟩
  have hbW : Below w.heap.size w W := by rw [<- eW]; exact (Below.refl _ _).alloc (Nat.le_refl _) _
  have hWb : W.heap[w.heap.size]? = some (.cells #[.slice sa ss.length c1, .slice ua tp.length c2] 41 (0, 0)) := by rw [<- eW]; exact heap_new _ _
  have j0 : W.cell? ⟨w.heap.size, 0, none⟩ = some (.slice sa ss.length c1) := by rw [Lib.cell_of_heap hWb]; rfl
  have j1 : W.cell? ⟨w.heap.size, 1, none⟩ = some (.slice ua tp.length c2) := by rw [Lib.cell_of_heap hWb]; rfl
  have HB : Hid (Below w.heap.size w W) := hbW
  have HE : Hid (EnvS W sa ua ss tp /\ Tab W /\ P10 W /\ NameOk nm) := ⟨⟨hE.rs.below hbW, hE.rt.below hbW, hE.v, hE.l1, hE.l2, hE.xc⟩, hT.below hbW, hP.below hbW, hnm⟩
  obtain ⟨i9, hi9, hz9, hs9, hb9⟩ := info_parts Tryz.info9b
  have hWs : w.heap.size <= W.heap.size := hbW.size
  have hfd := field122
  clear hE hT hP hnm hbW hWb
  go_enter Tryz.func31, Tryz.ntmps31
  go_wp2_with fail
  refine (cleanMaker_any sa ua ss.length tp.length c1 c2 W).mono ?_
  rintro e w1 ⟨h, mb, rfl, hb1, hmk⟩
  have HF : Hid (Calls Tryz.prog 59 #[.pointer (some ⟨h, 0, none⟩), .string nm] w1 _) := first_any W h mb sa ua c1 c2 ss tp nm w1 HE.out.1 HE.out.2.1 HE.out.2.2.1 HE.out.2.2.2 hmk hb1
  have HB1 : Hid (Below W.heap.size W w1) := hb1
  clear hmk hb1 j0 j1
  go_wp2_with fail
  refine HF.out.mono ?_
  rintro e w2 ⟨hb2, ms, an, hdo, ⟨sv, tv, av, kv, fv, n, f, vs, k1, k2, k3, k4⟩, u0, u1, u2, u3, u4, u5, rfl⟩
  obtain ⟨st', hinv, hml⟩ := Does.small HE.out.1.v HE.out.1.l2 HE.out.2.2.2 hdo
  have HINV : Hid (Inv ss tp ms st' /\ Does ss tp [] [] (.make nm) ms an) := ⟨hinv, hdo⟩
  have hln : (nms ms).length = ms.length := by simp [nms]
  rw [hln] at k2
  obtain ⟨qa, qc, rfl⟩ : ∃ a cap, av = .slice a ms.length cap := by
    rcases k2.2 with ⟨e, h0⟩ | ⟨g, cap, cur, e, _⟩
    · exact ⟨none, 0, by rw [e, h0]⟩
    · exact ⟨_, _, e⟩
  have HB2 : Hid (Below w.heap.size w w2) := bt HB.out (HB1.out.trans (hb2.mono (Nat.le_refl _)))
  have HBL : Hid (w2.heap[h]? = some (.cells #[sv, tv, .map (some mb), .slice qa ms.length qc, kv, fv] 127 (0, 0))) := k1
  have HQ : Hid (w2.ownsRow W.heap.size 9 1 (.slice qa ms.length qc) ms.length (strV (nms ms))) := k2
  have HMP : Hid (MapP w2 mb n f) := k3
  have HNN : Hid (∀ x ∈ nms ms, NameOk x) := Does.names HE.out.1.v hdo (Inv.nil ss tp) HE.out.2.2.2 trivial (fun x hx => by simp [nms] at hx)
  have HMF : Hid (∀ x, (f x).getD zeroMk = (markOf ms vs x).getD zeroMk) := k4
  have k1c : w2.cell? ⟨h, 3, none⟩ = some (.slice qa ms.length qc) := by rw [Lib.cell_of_heap k1]; rfl
  clear hb2 hdo hinv k1 k2 k3 k4 hln HF HB1
  go_wp2_with fail
  go_loopw [6, 20] (fun l i wr => ∃ (k m : Nat) (oa : Option Addr) (cp : Nat), k <= ms.length /\ m <= k /\ l = .slice oa m cp /\ i = .int .i64 k /\ Hid (m = (forms (ms.take k)).length /\ wr.ownsRow w2.heap.size 9 1 (.slice oa m cp) m (strV (forms (ms.take k))) /\ (m = 0 -> Value.slice oa m cp = .slice none 0 0)) /\ Hid (Below w2.heap.size w2 wr)) (fun _ i _ => ms.length - (intOf i).toNat)
  case atStart =>
    refine ⟨0, 0, none, 0, Nat.zero_le _, Nat.le_refl _, rfl, rfl, ?_, (Below.refl _ _ : Below w2.heap.size w2 w2)⟩
    show _ /\ World.ownsRow _ _ _ _ _ _ _ /\ _
    refine ⟨by simp [forms], ?_, fun _ => rfl⟩
    simp only [List.take_zero, forms, List.flatMap_nil, strV, List.map_nil]
    exact ⟨rfl, Or.inl ⟨rfl, rfl⟩⟩
  case round =>
    obtain ⟨k, m, oa, cp, hk, hmk, rfl, rfl, HL, HBR⟩ := hrel
    by_cases hlt2 : k < ms.length
    · have hkI : (k : Int) < (ms.length : Int) := by omega
      obtain ⟨gq, rfl⟩ : ∃ gq, qa = some ⟨gq, 0, none⟩ := by
        rcases HQ.out.2 with ⟨e, h0⟩ | ⟨g, cap, cur, e, _⟩
        · omega
        · simp only [Value.slice.injEq] at e; exact ⟨g, e.1⟩
      have hx := (ownsRow_below HQ.out HBR.out).cellAt k (by omega)
      rw [strV_nx (nms ms) k (by simpa [nms] using hlt2), nx_nms hlt2] at hx
      have y2 : wr.cell? ⟨h, 2, none⟩ = some (.map (some mb)) := by rw [Lib.cell_of_heap (blk_keep HBR.out HBL.out)]; rfl
      have hxn : (mx ms k).1.size <= maxLen := by have := (HNN.out _ (List.mem_map.mpr ⟨_, mx_mem hlt2, rfl⟩)).2.1; unfold maxLen; omega
      have hlook := (HMP.out.same (HBR.out.block mb HMP.out.lt)).look1 hxn
      rw [HMF.out, show markOf ms vs (mx ms k).1 = (match (mx ms k).2 with | none => some zeroMk | some d => some (markV d (vs (mx ms k).1))) from by unfold markOf; rw [lk_mx HINV.out.1.nd hlt2]; cases (mx ms k).2 <;> rfl] at hlook
      have hft := forms_snoc ms k hlt2
      generalize (mx ms k).1 = x at *
      obtain ⟨o, eo⟩ : ∃ o, (mx ms k).2 = o := ⟨_, rfl⟩
      rw [eo] at hlook
      have hdone : ∀ d, o = some d -> MdOk ss tp (mx ms k).1 d := fun d e => HINV.out.1.done (mx ms k).1 d (by rw [lk_mx HINV.out.1.nd hlt2, eo, e])
      cases o with
      | none =>
        simp only [Option.getD_some] at hlook
        unfold zeroMk at hlook
        have hfo : fo1 (mx ms k) = [] := by unfold fo1; rw [eo]
        rw [hfo, List.append_nil] at hft
        have HF : Hid (forms (ms.take (k + 1)) = forms (ms.take k)) := hft
        clear hft hfo hdone eo
        go_wp2_with fail
        go_roundw
        case rel => exact ⟨k + 1, m, oa, cp, by omega, by omega, rfl, by go_num, by rw [HF.out]; exact HL, HBR⟩
        case measure => simp [intOf]; omega
      | some d =>
        have hd := hdone d rfl
        obtain ⟨dc, dt, dls⟩ := d
        simp only [Option.getD_some] at hlook
        unfold markV at hlook
        simp only at hlook
        obtain ⟨la, ea⟩ : ∃ la, vs x = la := ⟨_, rfl⟩
        rw [ea] at hlook
        have hfo : fo1 (mx ms k) = [formB dc dt] := by unfold fo1; rw [eo]
        rw [hfo] at hft
        obtain ⟨fm, ef⟩ : ∃ fm, formB dc dt = fm := ⟨_, rfl⟩
        have hne : fm ≠ ⟨#[]⟩ := by rw [<- ef]; exact formB_ne _ _
        have dne : fm.toList.isEmpty = false := by
          cases hh : fm.toList with
          | nil => rw [ByteArray.toList_eq] at hh; exact absurd (WideShapes.bytes_inj (hh.trans rfl)) hne
          | cons y r => rfl
        rw [ef] at hft hlook
        have HF : Hid (forms (ms.take (k + 1)) = forms (ms.take k) ++ [fm]) := hft
        clear hft hfo hdone eo hd ea ef hne
        have hs2 : w2.heap.size <= wr.heap.size := HBR.out.size
        go_wp2_with (first | (at_builtin; refine wpList_append_own _ rfl (.tmp 33) (.tmp 35) 22 rfl w2.heap.size 9 i9 (.string ⟨#[]⟩) 1 16 Tryz.underlying22 hi9 hz9 hs9 hb9 rfl (by decide) (.slice oa m cp) m (strV (forms (ms.take k))) ?_ (HL.out.2.1.alloc _) ⟨wr.heap.size, 0, none⟩ 1 1 [.string fm] rfl rfl (World.news_of_block (cs := #[.string fm]) (t := 9) (fr := (0, 0)) (heap_new _ _)) (by intro u hu; simp at hu; subst hu; rfl) (by unfold maxLen; omega) (by omega) (by simp; omega) ?_; (focus (simp [Act.eval]; done)); intro v8 w8 hown8 hgrow8 hnil8; obtain ⟨g8, cp8, rfl⟩ : ∃ g cp, v8 = .slice (some ⟨g, 0, none⟩) (m + 1) cp := (by rcases hown8.2 with ⟨e, h0⟩ | ⟨g, cap, cur, e, _⟩; (omega); (exact ⟨g, cap, e⟩)); have HO8 : Hid (w8.ownsRow w2.heap.size 9 1 (.slice (some ⟨g8, 0, none⟩) (m + 1) cp8) (m + 1) (strV (forms (ms.take k)) ++ [.string fm])) := hown8; have HG8 : Hid ((wr.alloc (.cells #[.string fm] 9)).grownBy w8 (Value.slice oa m cp).ownBlock) := hgrow8; clear hown8 hgrow8 hnil8))
        go_roundw
        case rel =>
          refine ⟨k + 1, m + 1, some ⟨g8, 0, none⟩, cp8, by omega, by omega, rfl, by go_num, ?_, below_grown (HBR.out.alloc (by omega) _) (HL.out.2.1.alloc _) HG8.out (by simp; omega)⟩
          show _ /\ World.ownsRow _ _ _ _ _ _ _ /\ _
          rw [HF.out]
          refine ⟨by have := HL.out.1; simp; omega, ?_, fun e => by omega⟩
          have := HO8.out
          simpa [strV] using this
        case measure => simp [intOf]; omega
    · obtain rfl : k = ms.length := by omega
      have hkI : ¬ (ms.length : Int) < (ms.length : Int) := by omega
      have HLF : Hid (m = (forms ms).length /\ wr.ownsRow w2.heap.size 9 1 (.slice oa m cp) m (strV (forms ms)) /\ (m = 0 -> Value.slice oa m cp = .slice none 0 0)) := by
        have := HL.out
        rw [List.take_length] at this
        exact this
      go_wp2_with fail
      refine bodyPost_ret (v := .slice oa m cp) (by simp [results, Tryz.results31, go_sem]) rfl ⟨bt HB2.out HBR.out, _, ms, an, st', rfl, HINV.out.2, HINV.out.1, hml, ?_⟩
      rw [<- HLF.out.1]
      exact ⟨own_base HLF.out.2.1 HB2.out.size, HLF.out.2.2⟩
end
end Go.Proofs.YtbbfboikigmghaaGreatDoor
