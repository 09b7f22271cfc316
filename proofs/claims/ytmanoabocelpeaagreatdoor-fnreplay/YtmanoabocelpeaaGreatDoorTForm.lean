import Derived.Test.YtmanoabocelpeaaGreatDoorTVoG
import Derived.Maps.OwnSet
import Derived.Maps.Views
import Derived.Test.YtmanoabocelpeaaGreatDoorTNSmall
import Derived.Deep.RegionWith
import Derived.Deep.RegionHeld3
namespace Go.Proofs.YtmanoabocelpeaaGreatDoor
open Go.RowKit
set_option linter.unusedVariables false
set_option maxHeartbeats 8000000
set_option maxRecDepth 100000
def kS (k : ByteArray) : Lit := .string k.data.toList
theorem kS_inj {a b : ByteArray} (h : kS a = kS b) : a = b := by
 unfold kS at h
 injection h with h
 apply ByteArray.ext
 exact Array.ext' h
theorem kS_key (k : ByteArray) : WideAt.IsKeyLit (kS k) := by unfold kS; trivial
def MapP (w : World) (b n : Nat) (f : ByteArray -> Option Value) : Prop :=
 ∃ D : DataW Value, w.ownsMap Tryz.prog 9 (fun v => some (.held v, [])) b n D /\ ∀ k : ByteArray, Maps.has D (kS k) = (f k).isSome /\ ∀ v, f k = some v -> ∀ z, D.atKey (kS k) z = .held v
theorem MapP.made (w : World) : MapP (w.alloc (.map #[] 0)) w.heap.size 0 (fun _ => none) := ⟨_, World.ownsMap_made w _ _ _, fun k => ⟨rfl, fun v h => by cases h⟩⟩
theorem MapP.same {w w' : World} {b n : Nat} {f : ByteArray -> Option Value} (h : MapP w b n f) (he : w'.heap[b]? = w.heap[b]?) : MapP w' b n f := by
 obtain ⟨D, ⟨es, cl, h1, h2⟩, h3⟩ := h
 exact ⟨D, ⟨es, cl, he.trans h1, h2⟩, h3⟩
theorem MapP.lt {w : World} {b n : Nat} {f : ByteArray -> Option Value} (h : MapP w b n f) : b < w.heap.size := by obtain ⟨D, h1, _⟩ := h; exact h1.lt
theorem MapP.notCells {w : World} {b n : Nat} {f : ByteArray -> Option Value} (h : MapP w b n f) {cs : Array Value} {T : TypeId} {fr : Nat × Nat} (hc : w.heap[b]? = some (.cells cs T fr)) : False := by
 obtain ⟨D, ⟨es, cl, h1, _⟩, _⟩ := h
 rw [hc] at h1; cases h1
def zeroMk : Value := .agg #[.bool false, .int .i64 0, .string ⟨#[]⟩, .slice none 0 0, .string ⟨#[]⟩, .slice none 0 0]
theorem zero59 (w : World) : (zeroValue 66).run Tryz.prog w = .ok zeroMk w := by kernel_rfl
theorem key_of (k : ByteArray) (h : k.size <= maxLen) : keyOf Tryz.prog 9 (.string k) = some (kS k) := Go.WideMaps.keyOf_string_mk Tryz.underlying9 h
theorem MapP.look {w : World} {b n : Nat} {f : ByteArray -> Option Value} (h : MapP w b n f) {k : ByteArray} (hk : k.size <= maxLen) : (Instr.lookup 121 (.map (some b)) (.string k) true).run Tryz.prog w = .ok (.tuple #[(f k).getD zeroMk, .bool (f k).isSome]) w := by
 obtain ⟨D, h1, h2⟩ := h
 obtain ⟨v, ps, h3, h4⟩ := h1.look_ok (Maps.string_keyed Tryz.underlying9) Tryz.underlying121 (zero59 w) (zd := .held zeroMk) (zp := []) rfl (key_of k hk)
 have h5 : (DataW.held v : DataW Value) = D.atKey (kS k) (.held zeroMk) := by
  simp only [Option.some.injEq, Prod.mk.injEq] at h4
  exact h4.1
 have h6 : v = (f k).getD zeroMk := by
  cases hf : f k with
  | none =>
   have h7 := (h2 k).1
   rw [hf] at h7
   rw [Maps.atKey_of_not_has h7] at h5
   exact DataW.held.inj h5
  | some u =>
   rw [(h2 k).2 u hf] at h5
   exact DataW.held.inj h5
 rw [h3, (h2 k).1, h6]
open Classical in
theorem MapP.store {w : World} {b n : Nat} {f : ByteArray -> Option Value} (h : MapP w b n f) {k : ByteArray} (hk : k.size <= maxLen) (hn : n < maxLen) (v : Value) : ∃ w', (Instr.mapUpdate 121 (.map (some b)) (.string k) v).run Tryz.prog w = .ok () w' /\ MapP w' b (n + 1) (fun x => if x = k then some v else f x) /\ w.grownBy w' (some b) := by
 obtain ⟨D, h1, h2⟩ := h
 obtain ⟨w', h3, h4, h5⟩ := h1.update (Maps.string_keyed Tryz.underlying9) Tryz.underlying121 hn (key_of k hk) (val := v) (d := .held v) (ps := []) rfl
 refine ⟨w', h3, ⟨_, h4, fun x => ?_⟩, h5⟩
 by_cases hx : x = k
 ·subst hx
  simp only [if_true]
  exact ⟨Maps.has_put_same h1.isMap (kS_key _) _, fun v' e z => by cases e; exact Maps.atKey_put_same h1.isMap (kS_key _) _ _⟩
 ·simp only [if_neg hx]
  have hne : kS x ≠ kS k := fun e => hx (kS_inj e)
  exact ⟨by rw [Maps.has_put_other hne]; exact (h2 x).1, fun v' e z => by rw [Maps.atKey_put_other hne]; exact (h2 x).2 v' e z⟩
theorem MapP.congr {w : World} {b n : Nat} {f g : ByteArray -> Option Value} (h : MapP w b n f) (e : ∀ k, f k = g k) : MapP w b n g := by
 obtain rfl : f = g := funext e
 exact h
def markV (d : Md) (v : Value) : Value := .agg #[.bool true, .int .i64 d.c, .string d.t, .slice none 0 0, .string (formB d.c d.t), v]
noncomputable def markOf (ms : Ms) (vs : ByteArray -> Value) (nm : ByteArray) : Option Value :=
 match lk ms nm with
 | none => none
 | some none => some zeroMk
 | some (some d) => some (markV d (vs nm))
structure KP (B h mb : Nat) (av kv : Value) (w w' : World) : Prop where
 below : Below B w w'
 keep : ∀ b, b < w.heap.size -> b ≠ h -> b ≠ mb -> av.ownBlock ≠ some b -> kv.ownBlock ≠ some b -> w'.heap[b]? = w.heap[b]?
def Row2 (w : World) (v v' : Value) : Prop := ∀ b, v'.ownBlock = some b -> v.ownBlock = some b \/ w.heap.size <= b
theorem Row2.refl (w : World) (v : Value) : Row2 w v v := fun b h => Or.inl h
theorem Row2.trans {w w1 : World} {v v1 v2 : Value} (h : Row2 w v v1) (hs : w.heap.size <= w1.heap.size) (k : Row2 w1 v1 v2) : Row2 w v v2 := fun b hb => by
 rcases k b hb with q | q
 ·exact h b q
 ·exact Or.inr (by omega)
theorem KP.old {B h mb : Nat} {av kv : Value} {w w' : World} (hb : Below w.heap.size w w') (hB : B <= w.heap.size) : KP B h mb av kv w w' := ⟨hb.mono hB, fun b h1 _ _ _ _ => hb.block b h1⟩
theorem KP.trans {B h mb : Nat} {av kv av1 kv1 : Value} {w w1 w2 : World} (k : KP B h mb av kv w w1) (ha : Row2 w av av1) (hk : Row2 w kv kv1) (l : KP B h mb av1 kv1 w1 w2) : KP B h mb av kv w w2 := ⟨k.below.trans l.below, fun b h1 h2 h3 h4 h5 => by
 have hs := k.below.size
 rw [l.keep b (by omega) h2 h3 (fun e => by rcases ha b e with q | q; exact h4 q; omega) (fun e => by rcases hk b e with q | q; exact h5 q; omega)]
 exact k.keep b h1 h2 h3 h4 h5⟩
theorem KP.after {B h mb : Nat} {av kv : Value} {w w1 w2 : World} (k : KP B h mb av kv w w1) (hb : Below w1.heap.size w1 w2) (hB : B <= w1.heap.size) : KP B h mb av kv w w2 := k.trans (Row2.refl _ _) (Row2.refl _ _) (KP.old hb hB)
theorem KP.setN {B h mb b' j : Nat} {av kv v : Value} {w w' : World} (k : KP B h mb av kv w w') (hB : B <= b') (hn : w.heap.size <= b') : KP B h mb av kv w (w'.setCell ⟨b', j, none⟩ v) := ⟨k.below.setCell (p := ⟨b', j, none⟩) hB _, fun b h1 h2 h3 h4 h5 => by rw [Below.heap_setCell w' ⟨b', j, none⟩ _ b (by simp; omega)]; exact k.keep b h1 h2 h3 h4 h5⟩
theorem KP.setH {B h mb j : Nat} {av kv v : Value} {w w' : World} (k : KP B h mb av kv w w') (hB : B <= h) : KP B h mb av kv w (w'.setCell ⟨h, j, none⟩ v) := ⟨k.below.setCell (p := ⟨h, j, none⟩) hB _, fun b h1 h2 h3 h4 h5 => by rw [Below.heap_setCell w' ⟨h, j, none⟩ _ b (by simpa using h2)]; exact k.keep b h1 h2 h3 h4 h5⟩
theorem KP.mapped {B h mb : Nat} {av kv : Value} {w w1 w2 : World} (k : KP B h mb av kv w w1) (hB : B <= mb) (hg : w1.grownBy w2 (some mb)) (hBw : B <= w1.heap.size) : KP B h mb av kv w w2 := ⟨k.below.grown hg hBw (fun b e => by injection e with e; omega), fun b h1 h2 h3 h4 h5 => by
 have hs := k.below.size
 rw [hg.block b (by omega) (fun e => h3 (by injection e))]
 exact k.keep b h1 h2 h3 h4 h5⟩
structure MkX (B h mb k : Nat) (sv tv fv : Value) (w : World) (ms : Ms) (st al : List ByteArray) (av kv : Value) (vs : ByteArray -> Value) : Prop where
 hB : B <= h
 mB : B <= mb
 blk : w.heap[h]? = some (.cells #[sv, tv, .map (some mb), av, kv, fv] 123 (0, 0))
 map : ∃ n, n + st.length + k <= 2 * al.length /\ MapP w mb n (markOf ms vs)
 ask : w.ownsRow B 9 1 av al.length (strV al)
 stk : w.ownsRow B 9 1 kv st.length (strV st)
 dis : ∀ b, av.ownBlock = some b -> kv.ownBlock ≠ some b
 lks : ∀ nm d, lk ms nm = some (some d) -> LooksO w B (vs nm) d.ls
theorem MkX.below {B h mb k : Nat} {sv tv fv : Value} {w w' : World} {ms : Ms} {st al : List ByteArray} {av kv : Value} {vs : ByteArray -> Value} (s : MkX B h mb k sv tv fv w ms st al av kv vs) (hb : Below w.heap.size w w') : MkX B h mb k sv tv fv w' ms st al av kv vs := by
 obtain ⟨n, hn, hm⟩ := s.map
 exact ⟨s.hB, s.mB, by rw [hb.block h (blk_lt s.blk)]; exact s.blk, ⟨n, hn, hm.same (hb.block mb hm.lt)⟩, ownsRow_below s.ask hb, ownsRow_below s.stk hb, s.dis, fun nm d e => (s.lks nm d e).below hb⟩
theorem MkX.cells {B h mb k : Nat} {sv tv fv : Value} {w : World} {ms : Ms} {st al : List ByteArray} {av kv : Value} {vs : ByteArray -> Value} (s : MkX B h mb k sv tv fv w ms st al av kv vs) : w.cell? ⟨h, 0, none⟩ = some sv /\ w.cell? ⟨h, 1, none⟩ = some tv /\ w.cell? ⟨h, 2, none⟩ = some (.map (some mb)) /\ w.cell? ⟨h, 3, none⟩ = some av /\ w.cell? ⟨h, 4, none⟩ = some kv /\ w.cell? ⟨h, 5, none⟩ = some fv /\ ∀ j, w.frozen? ⟨h, j, none⟩ = false := by
 refine ⟨?_, ?_, ?_, ?_, ?_, ?_, fun j => Lib.frozen_of_heap s.blk j⟩ <;> rw [Lib.cell_of_heap s.blk] <;> rfl
theorem MkX.hne {B h mb k : Nat} {sv tv fv : Value} {w : World} {ms : Ms} {st al : List ByteArray} {av kv : Value} {vs : ByteArray -> Value} (s : MkX B h mb k sv tv fv w ms st al av kv vs) : h ≠ mb := fun e => by
 obtain ⟨n, _, hm⟩ := s.map
 subst e
 exact hm.notCells s.blk
theorem own_kind {w : World} {B e sz n b : Nat} {v : Value} {xs : List Value} (ho : w.ownsRow B e sz v n xs) (hb : v.ownBlock = some b) : B <= b /\ ∃ cur, w.heap[b]? = some (.cells cur e (0, 0)) := by
 rcases ho.2 with ⟨rfl, _⟩ | ⟨g, cap, cur, rfl, hg, hh, _⟩
 ·simp [Value.ownBlock] at hb
 ·simp [Value.ownBlock] at hb
  subst hb
  exact ⟨hg, cur, hh⟩
theorem own_ne_cells {w : World} {B e sz n b : Nat} {v : Value} {xs : List Value} (ho : w.ownsRow B e sz v n xs) {cs : Array Value} {T : TypeId} (hT : T ≠ e) (hb : w.heap[b]? = some (.cells cs T (0, 0))) : v.ownBlock ≠ some b := fun q => by
 obtain ⟨_, cur, hh⟩ := own_kind ho q
 rw [hb] at hh
 injection hh with hh
 injection hh with _ h5
 exact hT h5
theorem own_ne_map {w : World} {B e sz n b m : Nat} {v : Value} {xs : List Value} {f : ByteArray -> Option Value} (ho : w.ownsRow B e sz v n xs) (hm : MapP w b m f) : v.ownBlock ≠ some b := fun q => by
 obtain ⟨_, cur, hh⟩ := own_kind ho q
 exact hm.notCells hh
theorem own_same {w w' : World} {B e sz n : Nat} {v : Value} {xs : List Value} (ho : w.ownsRow B e sz v n xs) (hk : ∀ b, v.ownBlock = some b -> w'.heap[b]? = w.heap[b]?) : w'.ownsRow B e sz v n xs := by
 refine ⟨ho.1, ?_⟩
 rcases ho.2 with k | ⟨g, cap, cur, rfl, hg, hh, r⟩
 ·exact Or.inl k
 ·exact Or.inr ⟨g, cap, cur, rfl, hg, by rw [hk g (by simp [Value.ownBlock])]; exact hh, r⟩
theorem LooksO.keptB {w w' : World} {B : Nat} {v : Value} {ls : List G3} (h : LooksO w B v ls) (hk : ∀ b, v.ownBlock = some b -> w'.heap[b]? = w.heap[b]?) : LooksO w' B v ls := by
 obtain ⟨xs, h1, h2⟩ := h
 exact ⟨xs, own_same h1 hk, h2⟩
theorem MkX.kept {B h mb k : Nat} {sv tv fv : Value} {w w' : World} {ms : Ms} {st al : List ByteArray} {av kv : Value} {vs : ByteArray -> Value} (s : MkX B h mb k sv tv fv w ms st al av kv vs) (hk : ∀ b, (b = h \/ b = mb \/ av.ownBlock = some b \/ kv.ownBlock = some b \/ ∃ nm d, lk ms nm = some (some d) /\ (vs nm).ownBlock = some b) -> w'.heap[b]? = w.heap[b]?) : MkX B h mb k sv tv fv w' ms st al av kv vs := by
 obtain ⟨n, hn, hm⟩ := s.map
 exact ⟨s.hB, s.mB, by rw [hk h (Or.inl rfl)]; exact s.blk, ⟨n, hn, hm.same (hk mb (Or.inr (Or.inl rfl)))⟩, own_same s.ask (fun b q => hk b (by simp [q])), own_same s.stk (fun b q => hk b (by simp [q])), s.dis, fun nm d e => (s.lks nm d e).keptB (fun b q => hk b (Or.inr (Or.inr (Or.inr (Or.inr ⟨nm, d, e, q⟩)))))⟩
theorem MkX.far {B h mb k : Nat} {sv tv fv : Value} {w : World} {ms : Ms} {st al : List ByteArray} {av kv : Value} {vs : ByteArray -> Value} (s : MkX B h mb k sv tv fv w ms st al av kv vs) {b : Nat} {T : TypeId} {cs : Array Value} (hb : w.heap[b]? = some (.cells cs T (0, 0))) (h1 : T ≠ 47) (h2 : T ≠ 9) (h3 : b ≠ h) : ∀ b', (b' = h \/ b' = mb \/ av.ownBlock = some b' \/ kv.ownBlock = some b' \/ ∃ nm d, lk ms nm = some (some d) /\ (vs nm).ownBlock = some b') -> b' ≠ b := by
 obtain ⟨n, hn, hm⟩ := s.map
 rintro b' (rfl | rfl | q | q | ⟨nm, d, e, q⟩) rfl
 ·exact h3 rfl
 ·exact hm.notCells hb
 ·exact own_ne_cells s.ask h2 hb q
 ·exact own_ne_cells s.stk h2 hb q
 ·obtain ⟨xs, k1, _⟩ := s.lks nm d e
  exact own_ne_cells k1 h1 hb q
theorem MkX.set {B h mb k : Nat} {sv tv fv : Value} {w : World} {ms : Ms} {st al : List ByteArray} {av kv : Value} {vs : ByteArray -> Value} (s : MkX B h mb k sv tv fv w ms st al av kv vs) {b : Nat} {T : TypeId} {cs : Array Value} (hb : w.heap[b]? = some (.cells cs T (0, 0))) (h1 : T ≠ 47) (h2 : T ≠ 9) (h3 : b ≠ h) (j : Nat) (u : Value) : MkX B h mb k sv tv fv (w.setCell ⟨b, j, none⟩ u) ms st al av kv vs := s.kept fun b' q => Below.heap_setCell w ⟨b, j, none⟩ _ b' (s.far hb h1 h2 h3 b' q)
abbrev Mkr (B h mb : Nat) (sv tv fv : Value) (w : World) (ms : Ms) (st : List ByteArray) (av kv : Value) (vs : ByteArray -> Value) : Prop := MkX B h mb 0 sv tv fv w ms st (nms ms) av kv vs
def EndV (B : Nat) (w : World) (a : Ans) (v : Value) : Prop :=
 match a with
 | .ok _ => False
 | .circle ch => ∃ ca cn cc, v = .agg #[.int .i64 6, .string ⟨#[]⟩, .slice ca cn cc] /\ w.ownsRow B 9 1 (.slice ca cn cc) ch.length (strV ch)
 | .deep nm => v = .agg #[.int .i64 7, .string nm, .slice none 0 0]
theorem EndV.stop {B : Nat} {w : World} {a : Ans} {v : Value} (h : EndV B w a v) : a.stop := by
 cases a
 ·exact h
 ·trivial
 ·trivial
theorem EndV.below {B : Nat} {w w' : World} {a : Ans} {v : Value} (h : EndV B w a v) (hb : Below w.heap.size w w') : EndV B w' a v := by
 cases a with
 | ok d => exact h
 | circle ch => obtain ⟨ca, cn, cc, e, ho⟩ := h; exact ⟨ca, cn, cc, e, ownsRow_below ho hb⟩
 | deep nm => exact h
def FrN (w : World) (ms : Ms) (vs : ByteArray -> Value) (ms' : Ms) (vs' : ByteArray -> Value) : Prop := ∀ nm d b, lk ms' nm = some (some d) -> (vs' nm).ownBlock = some b -> (∃ d', lk ms nm = some (some d') /\ (vs nm).ownBlock = some b) \/ w.heap.size <= b
theorem FrN.refl (w : World) (ms : Ms) (vs : ByteArray -> Value) : FrN w ms vs ms vs := fun nm d b h1 h2 => Or.inl ⟨d, h1, h2⟩
theorem FrN.trans {w w1 : World} {ms m1 m2 : Ms} {vs v1 v2 : ByteArray -> Value} (h : FrN w ms vs m1 v1) (hs : w.heap.size <= w1.heap.size) (k : FrN w1 m1 v1 m2 v2) : FrN w ms vs m2 v2 := fun nm d b h1 h2 => by
 rcases k nm d b h1 h2 with ⟨d', q1, q2⟩ | q
 ·exact h nm d' b q1 q2
 ·exact Or.inr (by omega)
def panV (v : Value) : Ending := .panicked [{ v := .iface 124 v, recovered := false }]
def UnderP (B h mb : Nat) (sv tv fv : Value) (ss : List S2) (ts : List T2) (ms : Ms) (st : List ByteArray) (av kv : Value) (vs : ByteArray -> Value) (nm : ByteArray) (w : World) (e : Ending) (w' : World) : Prop :=
 KP B h mb av kv w w' /\ ∃ ms' a, Does ss ts ms st (.make nm) ms' a /\ ((∃ d av' kv' vs', a = .ok d /\ e = .returned (markV d (vs' nm)) /\ Mkr B h mb sv tv fv w' ms' st av' kv' vs' /\ Row2 w av av' /\ Row2 w kv kv' /\ FrN w ms vs ms' vs') \/ (∃ v, e = panV v /\ EndV B w' a v))
def RunI (B h mb : Nat) (sv tv fv : Value) (ss : List S2) (ts : List T2) (ms : Ms) (st : List ByteArray) (av kv : Value) (vs : ByteArray -> Value) (is : List I3) (w : World) (e : Ending) (w' : World) : Prop :=
 KP B h mb av kv w w' /\ ∃ ms' a, Does ss ts ms st (.run is [] []) ms' a /\ ((∃ d lv av' kv' vs', a = .ok d /\ e = .returned (.tuple #[lv, .agg #[.int .i64 d.c, .string d.t, .slice none 0 0]]) /\ (LooksO w' B lv d.ls /\ ∀ b, lv.ownBlock = some b -> w.heap.size <= b) /\ Mkr B h mb sv tv fv w' ms' st av' kv' vs' /\ Row2 w av av' /\ Row2 w kv kv' /\ FrN w ms vs ms' vs') \/ (∃ v, e = panV v /\ EndV B w' a v))
def digB (n : Nat) : ByteArray := ⟨#[UInt8.ofNat (48 + n)]⟩
theorem digB_size (n : Nat) : (digB n).size = 1 := rfl
theorem itoa_in (n : Nat) (hn : n <= 5) (w : World) : Calls Tryz.prog 69 #[.int .i64 n] w fun e w' => e = .returned (.string (digB n)) /\ w = w' := by
 rcases (show n = 0 \/ n = 1 \/ n = 2 \/ n = 3 \/ n = 4 \/ n = 5 by omega) with rfl | rfl | rfl | rfl | rfl | rfl
 all_goals
  go_enter Tryz.func69, Tryz.ntmps69
  go_wp2
  go_ret
  exact ⟨rfl, rfl⟩
theorem l2Dec_in (n : Nat) (hn : n <= 5) (w : World) : Calls Tryz.prog 43 #[.int .i64 n] w fun e w' => e = .returned (.string (digB n)) /\ Below w.heap.size w w' := by
 have hu := dig_byte n (by omega)
 unfold digB
 generalize UInt8.ofNat (48 + n) = u at *
 have hcv := conv_one (w.alloc (.cells #[.int .u8 (48 + n)] 5)) w.heap.size (48 + n) u hu (by simp [go_sem])
 clear hu
 go_enter Tryz.func43, Tryz.ntmps43
 go_wp2
 go_ret
 exact ⟨rfl, (Below.refl _ _).alloc (Nat.le_refl _) _⟩
theorem below_trans {w a b : World} (h : Below w.heap.size w a) (k : Below a.heap.size a b) : Below w.heap.size w b := h.trans (k.mono h.size)
theorem specForm_yes (m : Nat) (t : ByteArray) (a : Option Addr) (cap : Nat) (w : World) (hm : m <= 5) (ht : t.size <= 2000) :
  Calls Tryz.prog 84 #[.agg #[.int .i64 m, .string t, .slice a 0 cap]] w fun e w' => e = .returned (.string (digB m ++ (⟨#[58]⟩ : ByteArray) ++ t)) /\ Below w.heap.size w w' := by
 have hd : (digB m).size <= 1 := Nat.le_of_eq (digB_size m)
 have HC : Hid (∀ W : World, Calls Tryz.prog 43 #[.int .i64 m] W fun e w' => e = .returned (.string (digB m)) /\ Below W.heap.size W w') := fun W => l2Dec_in m hm W
 generalize digB m = d at *
 have HD : Hid (∀ W : World, W.cell? ⟨w.heap.size, 1, none⟩ = some (.string t) -> Calls Tryz.prog 43 #[.int .i64 m] W fun e w' => e = .returned (.string d) /\ Below W.heap.size W w' /\ w'.cell? ⟨w.heap.size, 1, none⟩ = some (.string t)) := fun W hW => (HC.out W).mono fun e w' ⟨he, hb⟩ => ⟨he, hb, cell_below hb hW⟩
 have hx0 : (w.alloc (.cells #[.int .i64 m, .string t, .slice a 0 cap] 32)).cell? ⟨w.heap.size, 0, none⟩ = some (.int .i64 m) := by simp [go_sem]
 have hx1 : (w.alloc (.cells #[.int .i64 m, .string t, .slice a 0 cap] 32)).cell? ⟨w.heap.size, 1, none⟩ = some (.string t) := by simp [go_sem]
 go_enter Tryz.func84, Tryz.ntmps84
 go_wp2
 go_region_with (first | (go_at_call 43; refine (HD.out _ ?_).mono ?_; (focus (simp [go_sem]; done)); rintro e w1 ⟨rfl, hb1, hcc⟩))
 all_goals
  go_wp2
  go_ret
  exact ⟨rfl, (((Below.refl _ _).alloc (Nat.le_refl _) _).drew.trans (hb1.mono (by simp)))⟩
theorem implForm_yes (m : Nat) (t : ByteArray) (a : Option Addr) (cap : Nat) (w : World) (hm : m <= 5) (ht : t.size <= 2000) :
  Calls Tryz.prog 89 #[.agg #[.int .i64 m, .string t, .slice a 0 cap]] w fun e w' => e = .returned (.string (digB m ++ (⟨#[58]⟩ : ByteArray) ++ t)) /\ Below w.heap.size w w' := by
 have hd : (digB m).size <= 1 := Nat.le_of_eq (digB_size m)
 have HC : Hid (∀ W : World, Calls Tryz.prog 69 #[.int .i64 m] W fun e w' => e = .returned (.string (digB m)) /\ W = w') := fun W => itoa_in m hm W
 generalize digB m = d at *
 have hx0 : (w.alloc (.cells #[.int .i64 m, .string t, .slice a 0 cap] 32)).cell? ⟨w.heap.size, 0, none⟩ = some (.int .i64 m) := by simp [go_sem]
 have hx1 : (w.alloc (.cells #[.int .i64 m, .string t, .slice a 0 cap] 32)).cell? ⟨w.heap.size, 1, none⟩ = some (.string t) := by simp [go_sem]
 go_enter Tryz.func89, Tryz.ntmps89
 go_wp2
 go_region_with (first | (go_at_call 69; refine (HC.out _).mono ?_; rintro e w1 ⟨rfl, rfl⟩))
 all_goals
  go_wp2
  go_ret
  exact ⟨rfl, ((Below.refl _ _).alloc (Nat.le_refl _) _).drew⟩
end Go.Proofs.YtmanoabocelpeaaGreatDoor
