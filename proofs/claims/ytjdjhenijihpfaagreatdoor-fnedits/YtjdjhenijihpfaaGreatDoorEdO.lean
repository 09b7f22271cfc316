import Derived.Test.YtjdjhenijihpfaaGreatDoorEdN
import Derived.Test.YtjdjhenijihpfaaGreatDoorEdD
import Derived.Test.YtjdjhenijihpfaaGreatDoorChkT
import Derived.Maps.OwnSet
import Derived.Maps.Views
import Derived.Carry
import Derived.Deep.DeepCutAuto
import Derived.Deep.RegionHeld3
import Derived.Deep.RegionLaw
import Derived.Deep.AppendLies
import Derived.Defers
import Derived.Recover
namespace Go.Proofs.YtjdjhenijihpfaaGreatDoor
open Go.RowKit Go.Deep
set_option linter.unusedVariables false

def kS (k : ByteArray) : Lit := .string k.data.toList
theorem kS_inj {a b : ByteArray} (h : kS a = kS b) : a = b := by
  unfold kS at h
  injection h with h
  apply ByteArray.ext
  exact Array.ext' h
theorem kS_key (k : ByteArray) : WideAt.IsKeyLit (kS k) := by unfold kS; trivial
/-- A map from names to values: f says which. -/
def MapP (w : World) (b n : Nat) (f : ByteArray → Option Value) : Prop :=
  ∃ D : DataW Value, w.ownsMap Tryz.prog 9 (fun v => some (.held v, [])) b n D ∧ ∀ k : ByteArray, Maps.has D (kS k) = (f k).isSome ∧ ∀ v, f k = some v → ∀ z, D.atKey (kS k) z = .held v
theorem MapP.made (w : World) : MapP (w.alloc (.map #[] 0)) w.heap.size 0 (fun _ => none) := ⟨_, World.ownsMap_made w _ _ _, fun k => ⟨rfl, fun v h => by cases h⟩⟩
theorem MapP.same {w w' : World} {b n : Nat} {f : ByteArray → Option Value} (h : MapP w b n f) (he : w'.heap[b]? = w.heap[b]?) : MapP w' b n f := by
  obtain ⟨D, ⟨es, cl, h1, h2⟩, h3⟩ := h
  exact ⟨D, ⟨es, cl, he.trans h1, h2⟩, h3⟩
theorem MapP.lt {w : World} {b n : Nat} {f : ByteArray → Option Value} (h : MapP w b n f) : b < w.heap.size := by obtain ⟨D, h1, _⟩ := h; exact h1.lt
theorem MapP.notCells {w : World} {b n : Nat} {f : ByteArray → Option Value} (h : MapP w b n f) {cs : Array Value} {T : TypeId} {fr : Nat × Nat} (hc : w.heap[b]? = some (.cells cs T fr)) : False := by
  obtain ⟨D, ⟨es, cl, h1, _⟩, _⟩ := h
  rw [hc] at h1; cases h1
def zeroMk : Value := .agg #[.bool false, .int .i64 0, .string ⟨#[]⟩, .slice none 0 0, .string ⟨#[]⟩, .slice none 0 0]
theorem zero73 (w : World) : (zeroValue 73).run Tryz.prog w = .ok zeroMk w := by kernel_rfl
theorem key_of (k : ByteArray) (h : k.size ≤ maxLen) : keyOf Tryz.prog 9 (.string k) = some (kS k) := Go.WideMaps.keyOf_string_mk Tryz.underlying9 h
theorem MapP.look {w : World} {b n : Nat} {f : ByteArray → Option Value} (h : MapP w b n f) {k : ByteArray} (hk : k.size ≤ maxLen) : (Instr.lookup 112 (.map (some b)) (.string k) true).run Tryz.prog w = .ok (.tuple #[(f k).getD zeroMk, .bool (f k).isSome]) w := by
  obtain ⟨D, h1, h2⟩ := h
  obtain ⟨v, ps, h3, h4⟩ := h1.look_ok (Maps.string_keyed Tryz.underlying9) Tryz.underlying112 (zero73 w) (zd := .held zeroMk) (zp := []) rfl (key_of k hk)
  have h5 : (DataW.held v : DataW Value) = D.atKey (kS k) (.held zeroMk) := by
    simp only [Option.some.injEq, Prod.mk.injEq] at h4
    exact h4.1
  have h6 : v = (f k).getD zeroMk := by
    cases hf : f k with
    | none =>
      have h7 := (h2 k).1
      rw [hf] at h7
      rw [Maps.atKey_of_not_has h7] at h5
      exact DataW.held.inj h5
    | some u =>
      rw [(h2 k).2 u hf] at h5
      exact DataW.held.inj h5
  rw [h3, (h2 k).1, h6]
open Classical in
theorem MapP.store {w : World} {b n : Nat} {f : ByteArray → Option Value} (h : MapP w b n f) {k : ByteArray} (hk : k.size ≤ maxLen) (hn : n < maxLen) (v : Value) : ∃ w', (Instr.mapUpdate 112 (.map (some b)) (.string k) v).run Tryz.prog w = .ok () w' ∧ MapP w' b (n + 1) (fun x => if x = k then some v else f x) ∧ w.grownBy w' (some b) := by
  obtain ⟨D, h1, h2⟩ := h
  obtain ⟨w', h3, h4, h5⟩ := h1.update (Maps.string_keyed Tryz.underlying9) Tryz.underlying112 hn (key_of k hk) (val := v) (d := .held v) (ps := []) rfl
  refine ⟨w', h3, ⟨_, h4, fun x => ?_⟩, h5⟩
  by_cases hx : x = k
  · subst hx
    simp only [if_true]
    exact ⟨Maps.has_put_same h1.isMap (kS_key _) _, fun v' e z => by cases e; exact Maps.atKey_put_same h1.isMap (kS_key _) _ _⟩
  · simp only [if_neg hx]
    have hne : kS x ≠ kS k := fun e => hx (kS_inj e)
    exact ⟨by rw [Maps.has_put_other hne]; exact (h2 x).1, fun v' e z => by rw [Maps.atKey_put_other hne]; exact (h2 x).2 v' e z⟩
theorem MapP.congr {w : World} {b n : Nat} {f g : ByteArray → Option Value} (h : MapP w b n f) (e : ∀ k, f k = g k) : MapP w b n g := by
  obtain rfl : f = g := funext e
  exact h


theorem set6_at {w : World} {b : Nat} {u0 u1 u2 u3 u4 u5 : Value} {T : TypeId} (h : w.heap[b]? = some (.cells #[u0, u1, u2, u3, u4, u5] T (0, 0))) (v0 v1 v2 v3 v4 v5 : Value) : ((((((w.setCell ⟨b, 0, none⟩ v0).setCell ⟨b, 1, none⟩ v1).setCell ⟨b, 2, none⟩ v2).setCell ⟨b, 3, none⟩ v3).setCell ⟨b, 4, none⟩ v4).setCell ⟨b, 5, none⟩ v5).heap[b]? = some (.cells #[v0, v1, v2, v3, v4, v5] T (0, 0)) := by
  rw [Joins.block_setCell (Joins.block_setCell (Joins.block_setCell (Joins.block_setCell (Joins.block_setCell (Joins.block_setCell h v0) v1) v2) v3) v4) v5]
  rfl
theorem bk6 {w : World} {b : Nat} {v0 v1 v2 v3 v4 v5 : Value} {T : TypeId} (h : w.heap[b]? = some (.cells #[v0, v1, v2, v3, v4, v5] T (0, 0))) : (w.cell? ⟨b, 0, none⟩ = some v0 ∧ w.cell? ⟨b, 1, none⟩ = some v1 ∧ w.cell? ⟨b, 2, none⟩ = some v2 ∧ w.cell? ⟨b, 3, none⟩ = some v3 ∧ w.cell? ⟨b, 4, none⟩ = some v4 ∧ w.cell? ⟨b, 5, none⟩ = some v5) ∧ ∀ j, w.frozen? ⟨b, j, none⟩ = false := by
  refine ⟨⟨?_, ?_, ?_, ?_, ?_, ?_⟩, fun j => Lib.frozen_of_heap h j⟩ <;> rw [Lib.cell_of_heap h] <;> rfl

theorem below_set6 {B : Nat} {w w' : World} (hb : Below B w w') {b : Nat} (h : B ≤ b) (v0 v1 v2 v3 v4 v5 : Value) : Below B w ((((((w'.setCell ⟨b, 0, none⟩ v0).setCell ⟨b, 1, none⟩ v1).setCell ⟨b, 2, none⟩ v2).setCell ⟨b, 3, none⟩ v3).setCell ⟨b, 4, none⟩ v4).setCell ⟨b, 5, none⟩ v5) :=
  (((((hb.setCell (p := ⟨b, 0, none⟩) h _).setCell (p := ⟨b, 1, none⟩) h _).setCell (p := ⟨b, 2, none⟩) h _).setCell (p := ⟨b, 3, none⟩) h _).setCell (p := ⟨b, 4, none⟩) h _).setCell (p := ⟨b, 5, none⟩) h _
theorem set6_ne {w : World} {b b' : Nat} (h : b' ≠ b) (v0 v1 v2 v3 v4 v5 : Value) : ((((((w.setCell ⟨b, 0, none⟩ v0).setCell ⟨b, 1, none⟩ v1).setCell ⟨b, 2, none⟩ v2).setCell ⟨b, 3, none⟩ v3).setCell ⟨b, 4, none⟩ v4).setCell ⟨b, 5, none⟩ v5).heap[b']? = w.heap[b']? := by
  rw [Below.heap_setCell _ ⟨b, 5, none⟩ _ b' h, Below.heap_setCell _ ⟨b, 4, none⟩ _ b' h, Below.heap_setCell _ ⟨b, 3, none⟩ _ b' h, Below.heap_setCell _ ⟨b, 2, none⟩ _ b' h, Below.heap_setCell _ ⟨b, 1, none⟩ _ b' h, Below.heap_setCell _ ⟨b, 0, none⟩ _ b' h]
/-- A maker, laid. -/
def mkW (sv tv : Value) (w : World) : World := ((w.alloc (.cells #[sv, tv] 26)).alloc (.map #[] 0)).alloc (.cells #[sv, tv, .map (some (w.heap.size + 1)), .slice none 0 0, .slice none 0 0, .nilFunc] 114)
set_option maxHeartbeats 2000000 in
theorem newMaker_any (sa ta : Option Addr) (n1 n2 c1 c2 : Nat) (w : World) :
    Calls Tryz.prog 83 #[.agg #[.slice sa n1 c1, .slice ta n2 c2]] w fun e w' => e = .returned (.pointer (some ⟨w.heap.size + 1 + 1, 0, none⟩)) ∧ w' = mkW (.slice sa n1 c1) (.slice ta n2 c2) w := by
  have hmm : ∀ w : World, (Instr.makeMap 112 none).run Tryz.prog w = .ok (.map (some w.heap.size)) (w.alloc (.map #[] 0)) := fun w => by kernel_rfl
  go_enter Tryz.func83, Tryz.ntmps83
  go_wp2
  go_ret
  exact ⟨rfl, rfl⟩
theorem mkW_blk (sv tv : Value) (w : World) : (mkW sv tv w).heap[w.heap.size + 1 + 1]? = some (.cells #[sv, tv, .map (some (w.heap.size + 1)), .slice none 0 0, .slice none 0 0, .nilFunc] 114 (0, 0)) := by
  unfold mkW
  have h := heapW_new ((w.alloc (.cells #[sv, tv] 26)).alloc (.map #[] 0)) (.cells #[sv, tv, .map (some (w.heap.size + 1)), .slice none 0 0, .slice none 0 0, .nilFunc] 114)
  rw [show ((w.alloc (.cells #[sv, tv] 26)).alloc (.map #[] 0)).heap.size = w.heap.size + 1 + 1 from by simp] at h
  exact h
theorem mkW_map (sv tv : Value) (w : World) : MapP (mkW sv tv w) (w.heap.size + 1) 0 (fun _ => none) := by
  have h := MapP.made (w.alloc (.cells #[sv, tv] 26))
  rw [show (w.alloc (.cells #[sv, tv] 26)).heap.size = w.heap.size + 1 from by simp] at h
  unfold mkW
  exact h.same (Lib.alloc_old _ _ _ (by simp))
theorem mkW_below (sv tv : Value) (w : World) : Below w.heap.size w (mkW sv tv w) := by
  unfold mkW
  exact (((Below.refl _ _).alloc (Nat.le_refl _) _).alloc (by simp) _).alloc (by simp; omega) _


/-- A new maker. -/
structure Mk0 (w : World) (h mb : Nat) (sv tv : Value) : Prop where
  blk : w.heap[h]? = some (.cells #[sv, tv, .map (some mb), .slice none 0 0, .slice none 0 0, .func (.func 84) #[.pointer (some ⟨h, 0, none⟩)] #[]] 114 (0, 0))
  map : MapP w mb 0 (fun _ => none)
theorem Mk0.below {w w' : World} {h mb : Nat} {sv tv : Value} (s : Mk0 w h mb sv tv) (hb : Below w.heap.size w w') : Mk0 w' h mb sv tv := ⟨blk_below s.blk hb, s.map.same (hb.block _ s.map.lt)⟩
set_option maxHeartbeats 2000000 in
theorem cleanMaker_any (sa ta : Option Addr) (n1 n2 c1 c2 : Nat) (w : World) :
    Calls Tryz.prog 67 #[.agg #[.slice sa n1 c1, .slice ta n2 c2]] w fun e w' => ∃ h mb, e = .returned (.pointer (some ⟨h, 0, none⟩)) ∧ Below w.heap.size w w' ∧ Mk0 w' h mb (.slice sa n1 c1) (.slice ta n2 c2) ∧ w.heap.size ≤ h ∧ w.heap.size ≤ mb := by
  have hmf : ∀ (fn : Fn) (first cap : Array Value) (w : World), (Instr.makeFunc fn first cap).run Tryz.prog w = .ok (.func fn first cap) w := fun _ _ _ _ => rfl
  have hst : ∀ (a : Addr) (fn : Fn) (x y : Array Value) (m : Mode) (w : World), (store a (.func fn x y) m).run Tryz.prog w = stored Tryz.prog w a (.func fn x y) m := fun a fn x y m w => run_store Tryz.prog w a _ m rfl
  obtain ⟨W, eW⟩ : ∃ W, w.alloc (.cells #[.slice sa n1 c1, .slice ta n2 c2] 26) = W := ⟨_, rfl⟩
  have hbW : Below w.heap.size w W := by rw [← eW]; exact (Below.refl _ _).alloc (Nat.le_refl _) _
  have hWs : w.heap.size ≤ W.heap.size := hbW.size
  have q0 : W.cell? ⟨w.heap.size, 0, none⟩ = some (.slice sa n1 c1) := by rw [← eW]; simp [go_sem]
  have q1 : W.cell? ⟨w.heap.size, 1, none⟩ = some (.slice ta n2 c2) := by rw [← eW]; simp [go_sem]
  obtain ⟨V, eV⟩ : ∃ V, mkW (.slice sa n1 c1) (.slice ta n2 c2) W = V := ⟨_, rfl⟩
  have hblk := mkW_blk (.slice sa n1 c1) (.slice ta n2 c2) W
  have hmap := mkW_map (.slice sa n1 c1) (.slice ta n2 c2) W
  have hbl := mkW_below (.slice sa n1 c1) (.slice ta n2 c2) W
  rw [eV] at hblk hmap hbl
  obtain ⟨⟨x0, x1, x2, x3, x4, x5⟩, xf⟩ := bk6 hblk
  have HB : Hid _ := hblk
  have HM : Hid (MapP V (W.heap.size + 1) 0 (fun _ => none)) := hmap
  have HL : Hid (Below w.heap.size w V) := hbW.trans (hbl.mono hWs)
  clear hblk hmap hbl hbW
  go_enter Tryz.func67, Tryz.ntmps67
  go_wp2_with (go_at_call 83; refine (newMaker_any sa ta n1 n2 c1 c2 W).mono ?_; rintro e w2 ⟨rfl, rfl⟩; rw [eV])
  go_ret
  exact ⟨_, W.heap.size + 1, rfl, HL.out.setCell (p := ⟨W.heap.size + 1 + 1, 5, none⟩) (by simp; omega) _, ⟨by rw [Joins.block_setCell HB.out]; rfl, HM.out.same (Below.heap_setCell V ⟨W.heap.size + 1 + 1, 5, none⟩ _ (W.heap.size + 1) (by simp))⟩, by omega, by omega⟩
set_option maxRecDepth 100000 in
set_option maxHeartbeats 4000000 in
theorem catch_idle (O : Nat) (w : World) :
    CallsD Tryz.prog 85 #[.pointer (some ⟨O, 0, none⟩)] .returning w fun e u' w' => e = .returned (.tuple #[]) ∧ u' = .returning ∧ w' = w.alloc (.cells #[.int .i64 0, .string ⟨#[]⟩, .slice none 0 0] 115) := by
  refine callsD_of_wpS Tryz.func85 rfl fun c₀ cs hu => ?_
  apply wpS_seq
  apply wpS_region
  simp [wpOpsS, go_sem, recoverD, hu, Tryz.ntmps85, Exit.thenS]
  have hta : ∀ w : World, (Instr.typeAssert .nilIface 20 115 true).run Tryz.prog w = .ok (.tuple #[.agg #[.int .i64 0, .string ⟨#[]⟩, .slice none 0 0], .bool false]) w := fun w => by kernel_rfl
  have hne : ∀ w : World, (binOp BinOp.neq 20 .nilIface .nilIface).run Tryz.prog w = .ok (.bool false) w := fun _ => by kernel_rfl
  have hfr : ∀ (p x : Value), #[p] ++ (((Array.replicate 15 undef).setIfInBounds 3 x).setIfInBounds 0 x) = #[p, x, undef, undef, x, undef, undef, undef, undef, undef, undef, undef, undef, undef, undef, undef] := fun p x => rfl
  refine wpS_of_wp ?_
  rw [hfr]
  go_wp2_with fail
  cases c₀
  simp_all [bodyPostS, results, Tryz.results85]


set_option maxHeartbeats 2000000 in
theorem itoa_small (c : Int) (hc : c = 0 ∨ c = 4) (w : World) : Calls Tryz.prog 107 #[.int .i64 c] w fun e w' => (∃ s : ByteArray, e = .returned (.string s) ∧ s.size ≤ 10) ∧ w' = w := by
  have h117 : ∀ W : World, Calls Tryz.prog 117 #[.int .i64 c] W fun e w' => (∃ s : ByteArray, e = .returned (.string s) ∧ s.size ≤ 10) ∧ w' = W := fun W => by
    rcases hc with rfl | rfl
    all_goals
      go_enter Tryz.func117, Tryz.ntmps117
      go_wp2
      go_ret
      exact ⟨⟨_, rfl, by decide⟩, rfl⟩
  have HA := hid0 h117
  clear h117
  have h116 : ∀ W : World, Calls Tryz.prog 116 #[.int .i64 c, .int .i64 10] W fun e w' => (∃ s : ByteArray, e = .returned (.string s) ∧ s.size ≤ 10) ∧ w' = W := fun W => by
    rcases hc with rfl | rfl
    all_goals
      go_enter Tryz.func116, Tryz.ntmps116
      go_wp2_with fail
      refine (HA.out W).mono ?_
      rintro e w' ⟨⟨s, rfl, hs⟩, rfl⟩
      go_wp2
      go_ret
      exact ⟨⟨s, rfl, hs⟩, rfl⟩
  have HB := hid0 h116
  clear h116 HA
  have h114 : ∀ W : World, Calls Tryz.prog 114 #[.int .i64 c] W fun e w' => (∃ s : ByteArray, e = .returned (.string s) ∧ s.size ≤ 10) ∧ w' = W := fun W => by
    clear hc
    go_enter Tryz.func114, Tryz.ntmps114
    go_wp2_with fail
    refine (HB.out W).mono ?_
    rintro e w' ⟨⟨s, rfl, hs⟩, rfl⟩
    go_wp2
    go_ret
    exact ⟨⟨s, rfl, hs⟩, rfl⟩
  have HC := hid0 h114
  clear h114 HB hc
  go_enter Tryz.func107, Tryz.ntmps107
  go_wp2_with fail
  refine (HC.out w).mono ?_
  rintro e w' ⟨⟨s, rfl, hs⟩, rfl⟩
  go_wp2
  go_ret
  exact ⟨⟨s, rfl, hs⟩, rfl⟩
theorem blk_c3o {w : World} {b T : Nat} {v1 v2 v3 : Value} (h : w.heap[b]? = some (.cells #[v1, v2, v3] T (0, 0))) : w.cell? ⟨b, 0, none⟩ = some v1 ∧ w.cell? ⟨b, 1, none⟩ = some v2 ∧ w.cell? ⟨b, 2, none⟩ = some v3 :=
  ⟨by rw [Lib.cell_of_heap h]; rfl, by rw [Lib.cell_of_heap h]; rfl, by rw [Lib.cell_of_heap h]; rfl⟩
set_option maxRecDepth 100000 in
set_option maxHeartbeats 4000000 in
theorem formResult_easy (c : Int) (hc : c = 0 ∨ c = 4) (t : ByteArray) (ht : t.size ≤ 2000) (w : World) : Calls Tryz.prog 98 #[.agg #[.int .i64 c, .string t, .slice none 0 0]] w fun e w' => (∃ s : ByteArray, e = .returned (.string s)) ∧ Below w.heap.size w w' := by
  have HI := hid0 (fun W => itoa_small c hc W)
  obtain ⟨W, eW⟩ : ∃ W, w.alloc (.cells #[.int .i64 c, .string t, .slice none 0 0] 41) = W := ⟨_, rfl⟩
  have hbW : Below w.heap.size w W := by rw [← eW]; exact (Below.refl _ _).alloc (Nat.le_refl _) _
  have HP := hid0 (show W.heap[w.heap.size]? = some (.cells #[.int .i64 c, .string t, .slice none 0 0] 41 (0, 0)) by rw [← eW]; exact heapW_new _ _)
  have HB := hid0 hbW
  obtain ⟨x0, x1, x2⟩ := blk_c3o HP.out
  have hc0 : ¬ c < 0 := by omega
  have hc5 : ¬ 5 < c := by omega
  have htI : ¬ (2000 : Int) < (t.size : Int) := by omega
  clear hc
  go_enter Tryz.func98, Tryz.ntmps98
  go_wp2_with fail
  clear x0 x1 x2 eW
  refine Lt.begin 99 (fun w' => w'.heap[w.heap.size]? = some (.cells #[.int .i64 c, .string t, .slice none 0 0] 41 (0, 0))) (by kernel_rfl) ?_
  obtain ⟨wD, eD⟩ : ∃ y, W.drew = y := ⟨_, rfl⟩
  rw [eD]
  have hbD : Below W.heap.size W wD := by rw [← eD]; exact (Below.refl _ _).drew
  clear eD
  replace HP := hid (blk_below HP.out hbD)
  replace HB := hid (bt HB.out hbD)
  have hS0 : (fun w' => w'.heap[w.heap.size]? = some (.cells #[.int .i64 c, .string t, .slice none 0 0] 41 (0, 0))) wD := HP.out
  refine Lt.take (i := 0) (oi := { dst := some 23, op := Op.fieldAddr 41 (Operand.tmp 1) 0, type := 0, pos := "l3_space.go:381", after := #[], guard := none }) (v := ?_) rfl (by kernel_rfl) (by kernel_rfl) (by kernel_rfl) (by kernel_rfl) (fun _ _ _ h => h) hS0 (Or.inl ⟨by rfl, ?_⟩) ?_
  rotate_left 1
  · rintro w hSw
    obtain ⟨c0, c1, c2⟩ := blk_c3o hSw
    go_simp
    first | done | with_reducible rfl
  simp only [Act.put, List.setIfInBounds_toArray, List.set_cons_zero, List.set_cons_succ]
  refine Lt.take (i := 1) (oi := { dst := some 24, op := Op.load 3 (Operand.tmp 23), type := 3, pos := "l3_space.go:381", after := #[{ on := 0, ground := Ground.data }], guard := none }) (v := ?_) rfl (by kernel_rfl) (by kernel_rfl) (by kernel_rfl) (by kernel_rfl) (fun _ _ _ h => h) hS0 (Or.inl ⟨by rfl, ?_⟩) ?_
  rotate_left 1
  · rintro w hSw
    obtain ⟨c0, c1, c2⟩ := blk_c3o hSw
    go_simp
    first | done | with_reducible rfl
  simp only [Act.put, List.setIfInBounds_toArray, List.set_cons_zero, List.set_cons_succ]
  refine Lt.take (i := 4) (oi := { dst := some 27, op := Op.fieldAddr 41 (Operand.tmp 1) 1, type := 0, pos := "l3_space.go:381", after := #[], guard := none }) (v := ?_) rfl (by kernel_rfl) (by kernel_rfl) (by kernel_rfl) (by kernel_rfl) (fun _ _ _ h => h) hS0 (Or.inl ⟨by rfl, ?_⟩) ?_
  rotate_left 1
  · rintro w hSw
    obtain ⟨c0, c1, c2⟩ := blk_c3o hSw
    go_simp
    first | done | with_reducible rfl
  simp only [Act.put, List.setIfInBounds_toArray, List.set_cons_zero, List.set_cons_succ]
  refine Lt.take (i := 5) (oi := { dst := some 28, op := Op.load 9 (Operand.tmp 27), type := 9, pos := "l3_space.go:381", after := #[{ on := 4, ground := Ground.data }], guard := none }) (v := ?_) rfl (by kernel_rfl) (by kernel_rfl) (by kernel_rfl) (by kernel_rfl) (fun _ _ _ h => h) hS0 (Or.inl ⟨by rfl, ?_⟩) ?_
  rotate_left 1
  · rintro w hSw
    obtain ⟨c0, c1, c2⟩ := blk_c3o hSw
    go_simp
    first | done | with_reducible rfl
  simp only [Act.put, List.setIfInBounds_toArray, List.set_cons_zero, List.set_cons_succ]
  have hq2 : ¬ 9223372036854775807 < t.size := by omega
  refine Lt.step (i := 2) (o := { dst := some 25, op := Op.call { callee := Callee.value (Operand.func 107), args := #[Operand.tmp 24], argTypes := #[3] }, type := 9, pos := "l3_space.go:381", after := #[{ on := 1, ground := Ground.data }], guard := none }) (by kernel_rfl) rfl (fun K hK => ?_)
  go_simp
  refine (HI.out _).mono ?_
  rintro e wA ⟨⟨s, rfl, hs⟩, rfl⟩
  have hq3 : ¬ 9223372036854775807 < s.size + 1 := by omega
  have hq4 : ¬ 9223372036854775807 < s.size + 1 + t.size := by omega
  refine hK.out _ _ (fun _ => hS0) (fun _ => ?_)
  clear hK K 
  try simp only [Act.put, List.setIfInBounds_toArray, List.set_cons_zero, List.set_cons_succ]
  refine Lt.take (i := 3) (oi := { dst := some 26, op := Op.binOp BinOp.add 9 (Operand.tmp 25) (Operand.const (Value.string { data := #[58] })) 9, type := 9, pos := "l3_space.go:381", after := #[{ on := 2, ground := Ground.data }], guard := none }) (v := ?_) rfl (by kernel_rfl) (by kernel_rfl) (by kernel_rfl) (by kernel_rfl) (fun _ _ _ h => h) hS0 (Or.inl ⟨by rfl, ?_⟩) ?_
  rotate_left 1
  · rintro w hSw
    obtain ⟨c0, c1, c2⟩ := blk_c3o hSw
    go_simp
    first | done | with_reducible rfl
  simp only [Act.put, List.setIfInBounds_toArray, List.set_cons_zero, List.set_cons_succ]
  refine Lt.take (i := 6) (oi := { dst := some 29, op := Op.binOp BinOp.add 9 (Operand.tmp 26) (Operand.tmp 28) 9, type := 9, pos := "l3_space.go:381", after := #[{ on := 3, ground := Ground.data }, { on := 5, ground := Ground.data }], guard := none }) (v := ?_) rfl (by kernel_rfl) (by kernel_rfl) (by kernel_rfl) (by kernel_rfl) (fun _ _ _ h => h) hS0 (Or.inl ⟨by rfl, ?_⟩) ?_
  rotate_left 1
  · rintro w hSw
    obtain ⟨c0, c1, c2⟩ := blk_c3o hSw
    go_simp
    first | done | with_reducible rfl
  simp only [Act.put, List.setIfInBounds_toArray, List.set_cons_zero, List.set_cons_succ]
  refine Lt.step (i := 7) (o := { dst := some 2, op := Op.assign (Operand.tmp 29), type := 9, pos := "l3_space.go:381", after := #[{ on := 6, ground := Ground.data }, { on := 2, ground := Ground.chain }, { on := 0, ground := Ground.phase }, { on := 1, ground := Ground.phase }, { on := 2, ground := Ground.phase }, { on := 3, ground := Ground.phase }, { on := 4, ground := Ground.phase }, { on := 5, ground := Ground.phase }, { on := 6, ground := Ground.phase }], guard := none }) (by kernel_rfl) rfl (fun K hK => ?_)
  go_simp
  refine hK.out _ _ (fun _ => hS0) (fun _ => ?_)
  clear hK K 
  try simp only [Act.put, List.setIfInBounds_toArray, List.set_cons_zero, List.set_cons_succ]
  refine Lt.done (by kernel_rfl) ?_ _
  go_wp2
  go_ret
  exact ⟨⟨_, rfl⟩, HB.out⟩
end Go.Proofs.YtjdjhenijihpfaaGreatDoor
