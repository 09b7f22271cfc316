import Derived.Test.YtmanoabocelpeaaGreatDoorTImD
namespace Go.Proofs.YtmanoabocelpeaaGreatDoor
open Go.RowKit
set_option linter.unusedVariables false
set_option maxHeartbeats 8000000
set_option maxRecDepth 100000
section
open Go.Deep
theorem cell_same {w w' : World} {m j : Nat} (h : w'.heap[m]? = w.heap[m]?) : w'.cell? ⟨m, j, none⟩ = w.cell? ⟨m, j, none⟩ := by simp only [World.cell?, h]
theorem MOk.kept {B : Nat} {w w' : World} {m : Nat} {ss : List ByteArray} {cd : Value} {pl st lk : Int} (hM : MOk B w m ss cd pl st lk) (hm : w'.heap[m]? = w.heap[m]?) (hk : ∀ v b, w.cell? ⟨m, 0, none⟩ = some v -> v.ownBlock = some b -> w'.heap[b]? = w.heap[b]?) : MOk B w' m ss cd pl st lk := by
 obtain ⟨hB, v, h1, h2⟩ := hM
 have c0 : w.cell? ⟨m, 0, none⟩ = some v := by
  unfold Mach at h1
  rw [Lib.cell_of_heap h1]; rfl
 exact ⟨hB, v, by unfold Mach at *; rw [hm]; exact h1, own_same h2 (fun b q => hk v b c0 q)⟩
theorem Gn.kept {is : List I3} {ys : List R3} {B m T : Nat} {cd : Value} {ov : Bool} {c : Int} {t : ByteArray} {ask : Bool} {nm : ByteArray} {st : Int} {w w' : World} (h : Gn is ys B m T cd ov c t ask nm st w) (hT : w'.heap[T]? = w.heap[T]?) (hm : w'.heap[m]? = w.heap[m]?) (hs : w.heap.size <= w'.heap.size) (hk : ∀ v b, w.cell? ⟨m, 0, none⟩ = some v -> v.ownBlock = some b -> w'.heap[b]? = w.heap[b]?) : Gn is ys B m T cd ov c t ask nm st w' :=
 ⟨by rw [hT]; exact h.1, h.2.1, h.2.2.1, Nat.lt_of_lt_of_le h.2.2.2.1 hs, h.2.2.2.2.mono (fun _ _ _ _ k => k.kept hm hk)⟩
theorem Gn.mach {is : List I3} {ys : List R3} {B m T : Nat} {cd : Value} {c : Int} {t : ByteArray} {ask : Bool} {nm : ByteArray} {st : Int} {w : World} (h : Gn is ys B m T cd false c t ask nm st w) : B <= m /\ ∃ v cs, w.heap[m]? = some (.cells cs 73 (0, 0)) /\ w.cell? ⟨m, 0, none⟩ = some v /\ ∀ b, v.ownBlock = some b -> B <= b /\ b < w.heap.size /\ ∃ cur, w.heap[b]? = some (.cells cur 9 (0, 0)) := by
 rcases h.2.2.2.2 with ⟨q, _⟩ | ⟨_, _, _, s1, s', _, _, _, _, _, hB, v, h1, h2⟩
 ·cases q
 ·unfold Mach at h1
  refine ⟨hB, v, _, h1, by rw [Lib.cell_of_heap h1]; rfl, fun b hb => ?_⟩
  obtain ⟨k1, cur, k2⟩ := own_kind h2 hb
  exact ⟨k1, (h2.lt b hb).2, cur, k2⟩
structure RI (W0 : World) (h mb : Nat) (sv tv fv cd : Value) (ss : List S2) (ts : List T2) (is : List I3) (w : World) (ms : Ms) (st : List ByteArray) (av kv : Value) (vs : ByteArray -> Value) (Bm m T X R : Nat)
  (ys : List R3) (ls : List G3) (m1 : Ms) (av1 kv1 : Value) (vs1 : ByteArray -> Value) (lv : Value) (ov : Bool) (c : Int) (t : ByteArray) (ask : Bool) (nm : ByteArray) (stp : Int) (wr : World) : Prop where
 ma : Mkr W0.heap.size h mb sv tv fv wr m1 st av1 kv1 vs1
 inv : Inv ss ts m1 st
 phi : phi ts m1 <= -199 + (ys.length : Int)
 ro : RunOk is ys ls
 dd : ∀ ms' a, Does ss ts m1 st (.run is ys ls) ms' a -> Does ss ts ms st (.run is [] []) ms' a
 gn : Gn is ys Bm m T cd ov c t ask nm stp wr
 tb : wr.heap[X]? = some (.cells #[.bool ov, .int .i64 c, .string t, .bool ask, .string nm, .int .i64 stp] 44 (0, 0))
 rb : wr.heap[R]? = some (.cells #[.int .i64 0, .string ⟨#[]⟩, .slice none 0 0] 32 (0, 0))
 lo : wr.ownsRow w.heap.size 47 3 lv ls.length (gCx ls)
 ap : ∀ x d b, lk m1 x = some (some d) -> lv.ownBlock = some b -> (vs1 x).ownBlock ≠ some b
 kp : KP W0.heap.size h mb av kv w wr
 ra : Row2 w av av1
 rk : Row2 w kv kv1
 fr : FrN w ms vs m1 vs1
 no : ov = false -> ∀ b, (av1.ownBlock = some b \/ kv1.ownBlock = some b) -> NotOwn wr m b
structure RC (W0 : World) (h mb : Nat) (w : World) (Bm m T X R : Nat) : Prop where
 h1 : W0.heap.size <= w.heap.size
 h2 : h < w.heap.size
 h3 : mb < w.heap.size
 h4 : w.heap.size <= Bm
 h5 : X ≠ T
 h6 : w.heap.size <= X
 h7 : w.heap.size <= R
 h8 : X ≠ m
section
variable {W0 : World} {h mb : Nat} {sv tv fv cd : Value} {ss : List S2} {ts : List T2} {is : List I3} {w : World} {ms : Ms} {st : List ByteArray} {av kv : Value} {vs : ByteArray -> Value} {Bm m T X R : Nat}
 {ys : List R3} {ls : List G3} {m1 : Ms} {av1 kv1 : Value} {vs1 : ByteArray -> Value} {lv : Value} {ov : Bool} {c : Int} {t : ByteArray} {ask : Bool} {nm : ByteArray} {stp : Int} {wr : World}
theorem RI.below {w' : World} (r : RI W0 h mb sv tv fv cd ss ts is w ms st av kv vs Bm m T X R ys ls m1 av1 kv1 vs1 lv ov c t ask nm stp wr) (hb : Below wr.heap.size wr w') (hB : W0.heap.size <= wr.heap.size) : RI W0 h mb sv tv fv cd ss ts is w ms st av kv vs Bm m T X R ys ls m1 av1 kv1 vs1 lv ov c t ask nm stp w' :=
 ⟨r.ma.below hb, r.inv, r.phi, r.ro, r.dd, r.gn.below hb, blk_keep hb r.tb, blk_keep hb r.rb, ownsRow_below r.lo hb, r.ap, r.kp.after hb hB, r.ra, r.rk, r.fr, fun e b q => (r.no e b q).congr (hb.block m r.gn.2.2.2.1)⟩
theorem RI.looked {w' : World} {m2 : Ms} {av2 kv2 : Value} {vs2 : ByteArray -> Value} (r : RI W0 h mb sv tv fv cd ss ts is w ms st av kv vs Bm m T X R ys ls m1 av1 kv1 vs1 lv false c t ask nm stp wr) (C : RC W0 h mb w Bm m T X R) (hk : KP W0.heap.size h mb av1 kv1 wr w') (s : Mkr W0.heap.size h mb sv tv fv w' m2 st av2 kv2 vs2) (ha : Row2 wr av1 av2) (hkk : Row2 wr kv1 kv2) (hf : FrN wr m1 vs1 m2 vs2) :
  Gn is ys Bm m T cd false c t ask nm stp w' /\ w'.heap[X]? = some (.cells #[.bool false, .int .i64 c, .string t, .bool ask, .string nm, .int .i64 stp] 44 (0, 0)) /\ w'.heap[R]? = some (.cells #[.int .i64 0, .string ⟨#[]⟩, .slice none 0 0] 32 (0, 0)) /\ w'.ownsRow w.heap.size 47 3 lv ls.length (gCx ls) /\ (∀ x d b, lk m2 x = some (some d) -> lv.ownBlock = some b -> (vs2 x).ownBlock ≠ some b) /\ KP W0.heap.size h mb av kv w w' /\ Row2 w av av2 /\ Row2 w kv kv2 /\ FrN w ms vs m2 vs2 /\ (∀ b, (av2.ownBlock = some b \/ kv2.ownBlock = some b) -> NotOwn w' m b) := by
 have hsz := hk.below.size
 have hsw := r.kp.below.size
 obtain ⟨n, _, hm⟩ := r.ma.map
 have keep : ∀ (b : Nat) (cs : Array Value) (T' : Nat), T' ≠ 9 -> T' ≠ 123 -> wr.heap[b]? = some (Obj.cells cs T' (0, 0)) -> w'.heap[b]? = wr.heap[b]? := fun b cs T' k1 k2 hb => hk.keep b (blk_lt hb) (fun e => by subst e; have q := r.ma.blk; rw [hb] at q; injection q with q; injection q with _ q; exact k2 q) (fun e => hm.notCells (e ▸ hb)) (own_ne_cells r.ma.ask k1 hb) (own_ne_cells r.ma.stk k1 hb)
 obtain ⟨hBm, v, mcs, hmb, hc0, hrow⟩ := r.gn.mach
 have hmk : w'.heap[m]? = wr.heap[m]? := keep m _ 73 (by decide) (by decide) hmb
 have hno := r.no rfl
 have hrk : ∀ b, v.ownBlock = some b -> w'.heap[b]? = wr.heap[b]? := fun b q => by
  obtain ⟨q1, q2, cur, q3⟩ := hrow b q
  have := C.h2
  have := C.h4
  refine hk.keep b q2 (by omega) (fun e => hm.notCells (e ▸ q3)) (fun e => ?_) (fun e => ?_)
  ·exact hno b (Or.inl e) v hc0 q.symm
  ·exact hno b (Or.inr e) v hc0 q.symm
 have hc0' : w'.cell? ⟨m, 0, none⟩ = some v := by rw [cell_same hmk]; exact hc0
 refine ⟨r.gn.kept (keep T _ 44 (by decide) (by decide) r.gn.1) hmk hsz (fun v' b e q => ?_), by rw [keep X _ 44 (by decide) (by decide) r.tb]; exact r.tb, by rw [keep R _ 32 (by decide) (by decide) r.rb]; exact r.rb, own_same r.lo (fun b q => ?_), fun x d b e q e2 => ?_, r.kp.trans r.ra r.rk hk, r.ra.trans hsw ha, r.rk.trans hsw hkk, r.fr.trans hsw hf, fun b q v' e e2 => ?_⟩
 ·rw [hc0] at e; cases e; exact hrk b q
 ·obtain ⟨_, cur, hh⟩ := own_kind r.lo q
  exact keep b _ 47 (by decide) (by decide) hh
 ·rcases hf x d b e e2 with ⟨d', q1, q2⟩ | q1
  ·exact r.ap x d' b q1 q q2
  ·have := (r.lo.lt b q).2; omega
 ·rw [hc0'] at e; cases e
  have q3 := hrow b e2.symm
  rcases q with q | q
  ·rcases ha b q with q1 | q1
   ·exact hno b (Or.inl q1) v hc0 e2
   ·omega
  ·rcases hkk b q with q1 | q1
   ·exact hno b (Or.inr q1) v hc0 e2
   ·omega
theorem RI.appd {w2 : World} {o : Obj} {g cp : Nat} {x : G3} (C : RC W0 h mb w Bm m T X R) (s : Mkr W0.heap.size h mb sv tv fv wr m1 st av1 kv1 vs1) (gn : Gn is ys Bm m T cd ov c t ask nm stp wr) (lo : wr.ownsRow w.heap.size 47 3 lv ls.length (gCx ls)) (ap : ∀ x d b, lk m1 x = some (some d) -> lv.ownBlock = some b -> (vs1 x).ownBlock ≠ some b) (kp : KP W0.heap.size h mb av kv w wr) (hg : (wr.alloc o).grownBy w2 lv.ownBlock) (hl : lv.ownBlock = some g \/ g = wr.heap.size + 1) :
  Mkr W0.heap.size h mb sv tv fv w2 m1 st av1 kv1 vs1 /\ Gn is ys Bm m T cd ov c t ask nm stp w2 /\ (∀ x d b, lk m1 x = some (some d) -> (Value.slice (some ⟨g, 0, none⟩) (ls.length + 1) cp).ownBlock = some b -> (vs1 x).ownBlock ≠ some b) /\ KP W0.heap.size h mb av kv w w2 /\ (∀ (b : Nat) (cs : Array Value) (T' : Nat), T' ≠ 47 -> wr.heap[b]? = some (Obj.cells cs T' (0, 0)) -> w2.heap[b]? = wr.heap[b]?) := by
 have hgb : ∀ b, b < wr.heap.size -> lv.ownBlock ≠ some b -> w2.heap[b]? = wr.heap[b]? := fun b h1 h2 => by rw [hg.block b (by simp; omega) (fun e => h2 e.symm), Lib.alloc_old _ _ _ h1]
 have hsw := kp.below.size
 have hsz : wr.heap.size <= w2.heap.size := by have := hg.size; simp at this; omega
 have keep : ∀ (b : Nat) (cs : Array Value) (T' : Nat), T' ≠ 47 -> wr.heap[b]? = some (Obj.cells cs T' (0, 0)) -> w2.heap[b]? = wr.heap[b]? := fun b cs T' k1 hb => hgb b (blk_lt hb) (own_ne_cells lo k1 hb)
 obtain ⟨n, _, hm⟩ := s.map
 refine ⟨s.kept ?_, ?_, ?_, ⟨?_, ?_⟩, keep⟩
 ·rintro b (rfl | rfl | q | q | ⟨x', d, e, q⟩)
  ·exact keep _ _ 123 (by decide) s.blk
  ·exact hgb _ hm.lt (own_ne_map lo hm)
  ·obtain ⟨_, cur, hh⟩ := own_kind s.ask q
   exact keep b _ 9 (by decide) hh
  ·obtain ⟨_, cur, hh⟩ := own_kind s.stk q
   exact keep b _ 9 (by decide) hh
  ·obtain ⟨xs, k1, _⟩ := s.lks x' d e
   exact hgb b (k1.lt b q).2 (fun e2 => ap x' d b e e2 q)
 ·refine ⟨by rw [keep T _ 44 (by decide) gn.1]; exact gn.1, gn.2.1, gn.2.2.1, Nat.lt_of_lt_of_le gn.2.2.2.1 hsz, gn.2.2.2.2.mono fun ss' pl' st' lk' hk => hk.kept ?_ ?_⟩
  ·obtain ⟨_, v, k1, _⟩ := hk
   unfold Mach at k1
   exact keep m _ 73 (by decide) k1
  ·intro v' b e q
   obtain ⟨_, v, k1, k2⟩ := hk
   unfold Mach at k1
   rw [Lib.cell_of_heap k1] at e
   have e' : v' = v := by simpa using e.symm
   subst e'
   obtain ⟨_, cur, hh⟩ := own_kind k2 q
   exact keep b _ 9 (by decide) hh
 ·intro x' d b e q q2
  simp [Value.ownBlock] at q
  subst q
  rcases hl with q | q
  ·exact ap x' d _ e q q2
  ·obtain ⟨xs, k1, _⟩ := s.lks x' d e
   have := (k1.lt _ q2).2; omega
 ·have h1 := C.h1
  refine kp.below.trans (((Below.refl _ wr).alloc (by omega) o).grown hg (by simp; omega) (fun b q => ?_))
  have := (lo.lt b q).1; omega
 ·intro b h1 h2 h3 h4 h5
  rw [hgb b (by omega) (fun e => by have := (lo.lt b e).1; omega)]
  exact kp.keep b h1 h2 h3 h4 h5
theorem RI.went {w6 : World} {n : Nat} {xs : List Value} {v0 v1 v2 v3 v4 v5 : Value} (C : RC W0 h mb w Bm m T X R) (s : Mkr W0.heap.size h mb sv tv fv wr m1 st av1 kv1 vs1) (hBm : Bm <= m) (hBT : Bm <= T) (lo : wr.ownsRow w.heap.size 47 3 lv n xs) (tb : wr.heap[X]? = some (.cells #[v0, v1, v2, v3, v4, v5] 44 (0, 0))) (rb : wr.heap[R]? = some (.cells #[.int .i64 0, .string ⟨#[]⟩, .slice none 0 0] 32 (0, 0))) (kp : KP W0.heap.size h mb av kv w wr) (no : ∀ b, (av1.ownBlock = some b \/ kv1.ownBlock = some b) -> NotOwn wr m b)
  (hTt : ∃ cs, wr.heap[T]? = some (.cells cs 44 (0, 0))) (hmt : ∃ cs, wr.heap[m]? = some (.cells cs 73 (0, 0))) (hb : Below Bm wr w6) (hk : ∀ (b : Nat) (cs : Array Value) (X' : Nat), X' ≠ 9 -> b ≠ m -> b ≠ T -> wr.heap[b]? = some (Obj.cells cs X' (0, 0)) -> w6.heap[b]? = some (.cells cs X' (0, 0))) (ho : ∀ (b : Nat) (cs : Array Value) (X' : Nat), b ≠ m -> b ≠ T -> NotOwn wr m b -> wr.heap[b]? = some (Obj.cells cs X' (0, 0)) -> w6.heap[b]? = some (.cells cs X' (0, 0)) /\ NotOwn w6 m b) :
  Mkr W0.heap.size h mb sv tv fv w6 m1 st av1 kv1 vs1 /\ w6.ownsRow w.heap.size 47 3 lv n xs /\ w6.heap[X]? = some (.cells #[v0, v1, v2, v3, v4, v5] 44 (0, 0)) /\ w6.heap[R]? = some (.cells #[.int .i64 0, .string ⟨#[]⟩, .slice none 0 0] 32 (0, 0)) /\ KP W0.heap.size h mb av kv w w6 /\ (∀ b, (av1.ownBlock = some b \/ kv1.ownBlock = some b) -> NotOwn w6 m b) := by
 obtain ⟨tcs, hTt⟩ := hTt
 obtain ⟨mcs, hmt⟩ := hmt
 have c1 := C.h1; have c2 := C.h2; have c3 := C.h3; have c4 := C.h4
 obtain ⟨nn, _, hm⟩ := s.map
 have ty : ∀ (b : Nat) (cs cs' : Array Value) (A A' : Nat), A ≠ A' -> wr.heap[b]? = some (Obj.cells cs A (0, 0)) -> wr.heap[b]? ≠ some (Obj.cells cs' A' (0, 0)) := fun b cs cs' A A' hne q1 q2 => by
  rw [q1] at q2; injection q2 with q2; injection q2 with _ q2; exact hne q2
 have k72 : ∀ (b : Nat) (cur : Array Value), wr.heap[b]? = some (Obj.cells cur 47 (0, 0)) -> w6.heap[b]? = wr.heap[b]? := fun b cur hh => by
  rw [hk b cur 47 (by decide) (fun e => ty b _ _ 47 73 (by decide) hh (e ▸ hmt)) (fun e => ty b _ _ 47 44 (by decide) hh (e ▸ hTt)) hh, hh]
 have k9 : ∀ b, (av1.ownBlock = some b \/ kv1.ownBlock = some b) -> w6.heap[b]? = wr.heap[b]? /\ NotOwn w6 m b := fun b q => by
  obtain ⟨cur, hh⟩ : ∃ cur, wr.heap[b]? = some (Obj.cells cur 9 (0, 0)) := by
   rcases q with q | q
   ·obtain ⟨_, cur, hh⟩ := own_kind s.ask q; exact ⟨cur, hh⟩
   ·obtain ⟨_, cur, hh⟩ := own_kind s.stk q; exact ⟨cur, hh⟩
  obtain ⟨q1, q2⟩ := ho b cur 9 (fun e => ty b _ _ 9 73 (by decide) hh (e ▸ hmt)) (fun e => ty b _ _ 9 44 (by decide) hh (e ▸ hTt)) (no b q) hh
  exact ⟨by rw [q1, hh], q2⟩
 refine ⟨s.kept ?_, own_same lo (fun b q => ?_), hk X _ 44 (by decide) C.h8 C.h5 tb, hk R _ 32 (by decide) (fun e => ty R _ _ 32 73 (by decide) rb (e ▸ hmt)) (fun e => ty R _ _ 32 44 (by decide) rb (e ▸ hTt)) rb, ⟨kp.below.trans (hb.mono (by omega)), fun b q1 q2 q3 q4 q5 => ?_⟩, fun b q => (k9 b q).2⟩
 ·rintro b (rfl | rfl | q | q | ⟨x', d, e, q⟩)
  ·exact hb.block _ (by omega)
  ·exact hb.block _ (by omega)
  ·exact (k9 b (Or.inl q)).1
  ·exact (k9 b (Or.inr q)).1
  ·obtain ⟨ys', k1, _⟩ := s.lks x' d e
   obtain ⟨_, cur, hh⟩ := own_kind k1 q
   exact k72 b cur hh
 ·obtain ⟨_, cur, hh⟩ := own_kind lo q
  exact k72 b cur hh
 ·rw [hb.block b (by omega)]
  exact kp.keep b q1 q2 q3 q4 q5
theorem RI.turned {ls' : List G3} {u0 u1 u2 u3 u4 u5 : Value} (C : RC W0 h mb w Bm m T X R) (s : Mkr W0.heap.size h mb sv tv fv wr m1 st av1 kv1 vs1) (hi : Inv ss ts m1 st) (hp : Go.Proofs.YtmanoabocelpeaaGreatDoor.phi ts m1 <= -199 + (ys.length : Int)) (hr : RunOk is ys ls) (hd : ∀ ms' a, Does ss ts m1 st (.run is ys ls) ms' a -> Does ss ts ms st (.run is [] []) ms' a) (gn : Gn is ys Bm m T cd ov c t ask nm stp wr) (tb : wr.heap[X]? = some (.cells #[u0, u1, u2, u3, u4, u5] 44 (0, 0))) (rb : wr.heap[R]? = some (.cells #[.int .i64 0, .string ⟨#[]⟩, .slice none 0 0] 32 (0, 0)))
  (lo : wr.ownsRow w.heap.size 47 3 lv ls.length (gCx ls)) (ap : ∀ x d b, lk m1 x = some (some d) -> lv.ownBlock = some b -> (vs1 x).ownBlock ≠ some b) (kp : KP W0.heap.size h mb av kv w wr) (ra : Row2 w av av1) (rk : Row2 w kv kv1) (fr : FrN w ms vs m1 vs1) (no : ∀ b, (av1.ownBlock = some b \/ kv1.ownBlock = some b) -> NotOwn wr m b) :
  RI W0 h mb sv tv fv cd ss ts is w ms st av kv vs Bm m T X R ys ls m1 av1 kv1 vs1 lv ov c t ask nm stp ((((((wr.setCell ⟨X, 0, none⟩ (.bool ov)).setCell ⟨X, 1, none⟩ (.int .i64 c)).setCell ⟨X, 2, none⟩ (.string t)).setCell ⟨X, 3, none⟩ (.bool ask)).setCell ⟨X, 4, none⟩ (.string nm)).setCell ⟨X, 5, none⟩ (.int .i64 stp)) := by
 have c2 := C.h2; have c6 := C.h6; have c1 := C.h1
 have ne : ∀ b', b' ≠ X -> ((((((wr.setCell ⟨X, 0, none⟩ (.bool ov)).setCell ⟨X, 1, none⟩ (.int .i64 c)).setCell ⟨X, 2, none⟩ (.string t)).setCell ⟨X, 3, none⟩ (.bool ask)).setCell ⟨X, 4, none⟩ (.string nm)).setCell ⟨X, 5, none⟩ (.int .i64 stp)).heap[b']? = wr.heap[b']? := fun b' q => set6_ne q _ _ _ _ _ _
 refine ⟨s.kept (fun b' q => ne b' (s.far tb (by decide) (by decide) (by omega) b' q)), hi, hp, hr, hd, ?_, set6_at tb _ _ _ _ _ _, ?_, own_same lo (fun b q => ne b (fun e => own_ne_cells lo (by decide) tb (e ▸ q))), ap, kp.set6 (by omega) c6 _ _ _ _ _ _, ra, rk, fr, fun _ b q => (no b q).congr (ne m (fun e => C.h8 e.symm))⟩
 ·refine ⟨by rw [ne T (fun e => C.h5 e.symm)]; exact gn.1, gn.2.1, gn.2.2.1, Nat.lt_of_lt_of_le gn.2.2.2.1 (below_set6 (Below.refl 0 wr) (Nat.zero_le _) _ _ _ _ _ _).size, gn.2.2.2.2.mono fun ss' pl' st' lk' hk => hk.kept (ne m (fun e => C.h8 e.symm)) ?_⟩
  intro v' b e q
  obtain ⟨_, v, k1, k2⟩ := hk
  unfold Mach at k1
  rw [Lib.cell_of_heap k1] at e
  have e' : v' = v := by simpa using e.symm
  subst e'
  exact ne b (fun e => own_ne_cells k2 (by decide) tb (e ▸ q))
 ·rw [ne R (fun e => by subst e; rw [tb] at rb; injection rb with rb; injection rb with _ rb; exact absurd rb (by decide))]; exact rb
end
end
end Go.Proofs.YtmanoabocelpeaaGreatDoor
