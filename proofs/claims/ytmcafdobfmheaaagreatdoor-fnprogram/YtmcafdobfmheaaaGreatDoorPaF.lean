/-
  errors.As; impl.faultOf; impl.ParseProgram.
-/
import Derived.Test.YtmcafdobfmheaaaGreatDoorPaE
namespace Go.Proofs.YtmcafdobfmheaaaGreatDoor
open Go.RowKit Go.Extern.Stop Go.Stop Go.Extern
set_option linter.unusedVariables false

/-- The world behind errors.As's own copies. -/
abbrev asW (tb : Nat) (w : World) : World := (((w.alloc (.cells #[.pointer (some ⟨tb, 0, none⟩)] 88)).alloc (.cells #[.pointer (some ⟨14, 88, none⟩), .pointer (some ⟨w.heap.size, 0, none⟩), .int .u64 150] 103)).alloc (.cells #[.pointer (some ⟨14, 88, none⟩), .pointer (some ⟨w.heap.size, 0, none⟩), .int .u64 150] 103))

set_option maxRecDepth 100000 in
set_option maxHeartbeats 8000000 in
theorem as_hit (l : Int) (ea : Addr) (tb : Nat) (o1 o2 : Value) (w : World) (hg : w.cell? ⟨5, 0, none⟩ = some (.iface 122 (.agg #[.pointer (some ⟨14, 49, none⟩)])))
    (ht1 : w.cell? ⟨tb, 0, none⟩ = some o1) (ht2 : w.cell? ⟨tb, 1, none⟩ = some o2) (hf1 : w.frozen? ⟨tb, 0, none⟩ = false) (hf2 : w.frozen? ⟨tb, 1, none⟩ = false) :
    Calls Tryz.prog 45 #[.iface 84 (.agg #[.int .i64 l, .iface 171 (.pointer (some ea))]), .iface 88 (.pointer (some ⟨tb, 0, none⟩))] w fun ev w' => ev = .returned (.bool true) ∧ w' = (((asW tb w).alloc (.cells #[.int .i64 l, .iface 171 (.pointer (some ea))] 84)).setCell ⟨tb, 0, none⟩ (.int .i64 l)).setCell ⟨tb, 1, none⟩ (.iface 171 (.pointer (some ea))) := by
  have h6 := @run_callFunc_extern Tryz.prog 66 _ (fun args => ReflectliteValue.unpack (args.getD 0 (.tuple #[]))) Tryz.func66 (by kernel_rfl) (by kernel_rfl) (by kernel_rfl) (by kernel_rfl)
  have h7 := @run_callFunc_extern Tryz.prog 67 _ (ReflectliteValue.methodAny (ReflectliteValue.valueError "reflectlite.Value.Type" 0) (fun t _ _ _ => ReflectliteType.toType t)) Tryz.func67 (by kernel_rfl) (by kernel_rfl) (by kernel_rfl) (by kernel_rfl)
  have h8 := @run_callFunc_extern Tryz.prog 68 _ (ReflectliteValue.method (ReflectliteValue.valueError "reflectlite.Value.IsNil" 0) ReflectliteValue.isNil) Tryz.func68 (by kernel_rfl) (by kernel_rfl) (by kernel_rfl) (by kernel_rfl)
  have h27 := @run_callFunc_extern Tryz.prog 126 _ (ReflectliteType.abiMethod fun t => do pure (.int .u8 (← Rtype.kind t))) Tryz.func126 (by kernel_rfl) (by kernel_rfl) (by kernel_rfl) (by kernel_rfl)
  have h37 := @run_callFunc_extern Tryz.prog 139 _ (ReflectliteType.method ReflectliteType.elem) Tryz.func139 (by kernel_rfl) (by kernel_rfl) (by kernel_rfl) (by kernel_rfl)
  have h38 := @run_callFunc_extern Tryz.prog 140 _ (ReflectliteType.relation "Implements" ReflectliteType.implements_) Tryz.func140 (by kernel_rfl) (by kernel_rfl) (by kernel_rfl) (by kernel_rfl)
  have h10 := @run_callFunc_extern Tryz.prog 70 _ ReflectliteType.typeOf Tryz.func70 (by kernel_rfl) (by kernel_rfl) (by kernel_rfl) (by kernel_rfl)
  have h35 := @run_callFunc_extern Tryz.prog 137 _ (ReflectliteType.relation "AssignableTo" ReflectliteType.assignableTo) Tryz.func137 (by kernel_rfl) (by kernel_rfl) (by kernel_rfl) (by kernel_rfl)
  have h11 := @run_callFunc_extern Tryz.prog 78 _ (ReflectliteValue.method (ReflectliteValue.valueError "reflectlite.Value.Elem" 0) ReflectliteValue.elem) Tryz.func78 (by kernel_rfl) (by kernel_rfl) (by kernel_rfl) (by kernel_rfl)
  have h12 := @run_callFunc_extern Tryz.prog 79 _ ReflectliteValue.set Tryz.func79 (by kernel_rfl) (by kernel_rfl) (by kernel_rfl) (by kernel_rfl)
  have tO := Tryz.typeOf84
  have mA := Tryz.methodAssignableTo
  have a25 := Tryz.assignable84
  have v25 := Tryz.valueOf84
  have f6 := Tryz.valueOf88
  have f7 := Tryz.type88
  have mK := Tryz.methodKind
  have mE := Tryz.methodElem
  have mI := Tryz.methodImplements
  have k27 := Tryz.kind88
  have k25 := Tryz.kind84
  have e27 := Tryz.elem88
  have i25 := Tryz.implements84
  have n8 := Tryz.isNil88 ⟨w.heap.size, 0, none⟩ ⟨tb, 0, none⟩ ((w.alloc (.cells #[.pointer (some ⟨tb, 0, none⟩)] 88)).alloc (.cells #[.pointer (some ⟨14, 88, none⟩), .pointer (some ⟨w.heap.size, 0, none⟩), .int .u64 150] 103)) (by simp)
  have hlt : 5 < w.heap.size := World.block_lt_of_cell? _ _ hg
  have hg2 : ((w.alloc (.cells #[.pointer (some ⟨tb, 0, none⟩)] 88)).alloc (.cells #[.pointer (some ⟨14, 88, none⟩), .pointer (some ⟨w.heap.size, 0, none⟩), .int .u64 150] 103)).cell? ⟨5, 0, none⟩ = some (.iface 122 (.agg #[.pointer (some ⟨14, 49, none⟩)])) := by
    rw [World.cell?_alloc_lt _ _ ⟨5, 0, none⟩ (by simp; omega), World.cell?_alloc_lt _ _ ⟨5, 0, none⟩ hlt]; exact hg
  have htl : tb < w.heap.size := World.block_lt_of_cell? _ _ ht1
  have hold : ∀ j, ((asW tb w).alloc (.cells #[.int .i64 l, .iface 171 (.pointer (some ea))] 84)).cell? ⟨tb, j, none⟩ = w.cell? ⟨tb, j, none⟩ := fun j => by
    rw [World.cell?_alloc_lt _ _ ⟨tb, j, none⟩ (by simp; omega), World.cell?_alloc_lt _ _ ⟨tb, j, none⟩ (by simp; omega), World.cell?_alloc_lt _ _ ⟨tb, j, none⟩ (by simp; omega), World.cell?_alloc_lt _ _ ⟨tb, j, none⟩ htl]
  have hfol : ∀ j, ((asW tb w).alloc (.cells #[.int .i64 l, .iface 171 (.pointer (some ea))] 84)).frozen? ⟨tb, j, none⟩ = w.frozen? ⟨tb, j, none⟩ := fun j => by
    rw [World.frozen?_alloc_old _ _ ⟨tb, j, none⟩ (by simp; omega), World.frozen?_alloc_old _ _ ⟨tb, j, none⟩ (by simp; omega), World.frozen?_alloc_old _ _ ⟨tb, j, none⟩ (by simp; omega), World.frozen?_alloc_old _ _ ⟨tb, j, none⟩ (Nat.ne_of_lt htl)]
  have el := Tryz.elemV88 ⟨w.heap.size, 0, none⟩ ⟨tb, 0, none⟩ (asW tb w) (by rw [World.cell?_alloc_lt _ _ ⟨w.heap.size, 0, none⟩ (by simp; omega)]; simp)
  have st := Tryz.set84 tb (w.heap.size + 1 + 1 + 1) l ea o1 o2 ((asW tb w).alloc (.cells #[.int .i64 l, .iface 171 (.pointer (some ea))] 84))
    (by rw [World.cell?_alloc_at _ _ _ _ (by simp)]; rfl) (by rw [World.cell?_alloc_at _ _ _ _ (by simp)]; rfl)
    (by rw [hold]; exact ht1) (by rw [hold]; exact ht2) (by rw [hfol]; exact hf1) (by rw [hfol]; exact hf2)
  clear hold hfol ht1 ht2 hf1 hf2 hg
  go_enter Tryz.func45, Tryz.ntmps45
  go_wp2
  refine wp_loop_rounds 1 ?_
  rw [rounds_succ]
  go_wp2
  go_ret
  exact ⟨rfl, rfl⟩

set_option maxRecDepth 100000 in
set_option maxHeartbeats 8000000 in
theorem as_miss (ea : Addr) (tb : Nat) (w : World) (hg : w.cell? ⟨5, 0, none⟩ = some (.iface 122 (.agg #[.pointer (some ⟨14, 49, none⟩)]))) :
    Calls Tryz.prog 45 #[.iface 171 (.pointer (some ea)), .iface 88 (.pointer (some ⟨tb, 0, none⟩))] w fun ev w' => ev = .returned (.bool false) ∧ w' = asW tb w := by
  have h6 := @run_callFunc_extern Tryz.prog 66 _ (fun args => ReflectliteValue.unpack (args.getD 0 (.tuple #[]))) Tryz.func66 (by kernel_rfl) (by kernel_rfl) (by kernel_rfl) (by kernel_rfl)
  have h7 := @run_callFunc_extern Tryz.prog 67 _ (ReflectliteValue.methodAny (ReflectliteValue.valueError "reflectlite.Value.Type" 0) (fun t _ _ _ => ReflectliteType.toType t)) Tryz.func67 (by kernel_rfl) (by kernel_rfl) (by kernel_rfl) (by kernel_rfl)
  have h8 := @run_callFunc_extern Tryz.prog 68 _ (ReflectliteValue.method (ReflectliteValue.valueError "reflectlite.Value.IsNil" 0) ReflectliteValue.isNil) Tryz.func68 (by kernel_rfl) (by kernel_rfl) (by kernel_rfl) (by kernel_rfl)
  have h27 := @run_callFunc_extern Tryz.prog 126 _ (ReflectliteType.abiMethod fun t => do pure (.int .u8 (← Rtype.kind t))) Tryz.func126 (by kernel_rfl) (by kernel_rfl) (by kernel_rfl) (by kernel_rfl)
  have h37 := @run_callFunc_extern Tryz.prog 139 _ (ReflectliteType.method ReflectliteType.elem) Tryz.func139 (by kernel_rfl) (by kernel_rfl) (by kernel_rfl) (by kernel_rfl)
  have h38 := @run_callFunc_extern Tryz.prog 140 _ (ReflectliteType.relation "Implements" ReflectliteType.implements_) Tryz.func140 (by kernel_rfl) (by kernel_rfl) (by kernel_rfl) (by kernel_rfl)
  have h10 := @run_callFunc_extern Tryz.prog 70 _ ReflectliteType.typeOf Tryz.func70 (by kernel_rfl) (by kernel_rfl) (by kernel_rfl) (by kernel_rfl)
  have h35 := @run_callFunc_extern Tryz.prog 137 _ (ReflectliteType.relation "AssignableTo" ReflectliteType.assignableTo) Tryz.func137 (by kernel_rfl) (by kernel_rfl) (by kernel_rfl) (by kernel_rfl)
  have tO := Tryz.typeOf171
  have mA := Tryz.methodAssignableTo
  have a25 := Tryz.assignable171
  have f6 := Tryz.valueOf88
  have f7 := Tryz.type88
  have mK := Tryz.methodKind
  have mE := Tryz.methodElem
  have mI := Tryz.methodImplements
  have k27 := Tryz.kind88
  have k25 := Tryz.kind84
  have e27 := Tryz.elem88
  have i25 := Tryz.implements84
  have nA := Tryz.noAsE
  have nU := Tryz.noUnwrapE
  have nV := Tryz.noUnwrapsE
  have n8 := Tryz.isNil88 ⟨w.heap.size, 0, none⟩ ⟨tb, 0, none⟩ ((w.alloc (.cells #[.pointer (some ⟨tb, 0, none⟩)] 88)).alloc (.cells #[.pointer (some ⟨14, 88, none⟩), .pointer (some ⟨w.heap.size, 0, none⟩), .int .u64 150] 103)) (by simp)
  have hlt : 5 < w.heap.size := World.block_lt_of_cell? _ _ hg
  have hg2 : ((w.alloc (.cells #[.pointer (some ⟨tb, 0, none⟩)] 88)).alloc (.cells #[.pointer (some ⟨14, 88, none⟩), .pointer (some ⟨w.heap.size, 0, none⟩), .int .u64 150] 103)).cell? ⟨5, 0, none⟩ = some (.iface 122 (.agg #[.pointer (some ⟨14, 49, none⟩)])) := by
    rw [World.cell?_alloc_lt _ _ ⟨5, 0, none⟩ (by simp; omega), World.cell?_alloc_lt _ _ ⟨5, 0, none⟩ hlt]; exact hg
  clear hg
  go_enter Tryz.func45, Tryz.ntmps45
  go_wp2
  refine wp_loop_rounds 1 ?_
  rw [rounds_succ]
  go_wp2
  go_ret
  exact ⟨rfl, rfl⟩

/-- The two sentinels that are told apart. -/
structure Sen (p : Nat → Addr) (w : World) : Prop where
  ne : p 1 ≠ p 3
  b1 : ∃ c t, w.heap[(p 1).block]? = some (Obj.cells c t (0, 0))
  b3 : ∃ c t, w.heap[(p 3).block]? = some (Obj.cells c t (0, 0))
theorem Sen.below {p : Nat → Addr} {w w' : World} (h : Sen p w) (hb : Below w.heap.size w w') : Sen p w' := by
  have f : ∀ b : Nat, (∃ c t, w.heap[b]? = some (Obj.cells c t (0, 0))) → ∃ c t, w'.heap[b]? = some (Obj.cells c t (0, 0)) := by
    intro b hx
    obtain ⟨c, t, h⟩ := hx
    refine ⟨c, t, ?_⟩
    have hlt : b < w.heap.size := by
      rcases Nat.lt_or_ge b w.heap.size with k | k
      · exact k
      · rw [Array.getElem?_eq_none k] at h; cases h
    rw [hb.block b hlt]; exact h
  exact ⟨h.ne, f _ h.b1, f _ h.b3⟩
theorem asW_below (tb : Nat) (w : World) : Below w.heap.size w (asW tb w) := (((Below.refl _ _).alloc (Nat.le_refl _) _).alloc (by simp) _).alloc (by simp; omega) _

theorem as_hit2 (l : Int) (ea : Addr) (tb : Nat) (o1 o2 : Value) (w : World) (hg : w.cell? ⟨5, 0, none⟩ = some (.iface 122 (.agg #[.pointer (some ⟨14, 49, none⟩)])))
    (ht1 : w.cell? ⟨tb, 0, none⟩ = some o1) (ht2 : w.cell? ⟨tb, 1, none⟩ = some o2) (hf1 : w.frozen? ⟨tb, 0, none⟩ = false) (hf2 : w.frozen? ⟨tb, 1, none⟩ = false) :
    Calls Tryz.prog 45 #[.iface 84 (.agg #[.int .i64 l, .iface 171 (.pointer (some ea))]), .iface 88 (.pointer (some ⟨tb, 0, none⟩))] w fun ev w' => ev = .returned (.bool true) ∧ Below tb w w' ∧ w'.cell? ⟨tb, 0, none⟩ = some (.int .i64 l) := by
  refine (as_hit l ea tb o1 o2 w hg ht1 ht2 hf1 hf2).mono ?_
  rintro e w' ⟨rfl, rfl⟩
  have htl : tb < w.heap.size := World.block_lt_of_cell? _ _ ht1
  have hb1 : Below tb w ((asW tb w).alloc (.cells #[.int .i64 l, .iface 171 (.pointer (some ea))] 84)) := ((asW_below tb w).mono (by omega)).alloc (by simp; omega) _
  have hb2 : Below w.heap.size w ((asW tb w).alloc (.cells #[.int .i64 l, .iface 171 (.pointer (some ea))] 84)) := (asW_below tb w).alloc (by simp; omega) _
  have c1 := cell_below hb2 ht1
  have c2 := cell_below hb2 ht2
  generalize (asW tb w).alloc (.cells #[.int .i64 l, .iface 171 (.pointer (some ea))] 84) = V at *
  refine ⟨rfl, (hb1.setCell (p := ⟨tb, 0, none⟩) (Nat.le_refl _) _).setCell (p := ⟨tb, 1, none⟩) (Nat.le_refl _) _, ?_⟩
  simp [go_sem, c1]
/-- faultOf's two first blocks. -/
abbrev foW (w : World) : World := (w.alloc (.cells #[.int .i64 0, .int .i64 0] 29)).alloc (.cells #[.int .i64 0, .nilIface] 84)
theorem foW_below (w : World) : Below w.heap.size w (foW w) := ((Below.refl _ _).alloc (Nat.le_refl _) _).alloc (by simp) _
theorem foW_at (w : World) : (foW w).heap[w.heap.size]? = some (.cells #[.int .i64 0, .int .i64 0] 29 (0, 0)) := by
  rw [Lib.alloc_old _ _ _ (by simp), alloc_here]
theorem fo_cells {w : World} {R : Nat} (h : w.heap[R]? = some (.cells #[.int .i64 0, .int .i64 0] 29 (0, 0))) : w.cell? ⟨R, 0, none⟩ = some (.int .i64 0) ∧ w.cell? ⟨R, 1, none⟩ = some (.int .i64 0) ∧ w.frozen? ⟨R, 0, none⟩ = false ∧ w.frozen? ⟨R, 1, none⟩ = false :=
  ⟨by rw [Lib.cell_of_heap h]; rfl, by rw [Lib.cell_of_heap h]; rfl, Lib.frozen_of_heap h 0, Lib.frozen_of_heap h 1⟩
theorem below_set2 {B R : Nat} {w w' : World} (h : Below B w w') (hR : B ≤ R) (a b : Value) : Below B w ((w'.setCell ⟨R, 0, none⟩ a).setCell ⟨R, 1, none⟩ b) :=
  (h.setCell (p := ⟨R, 0, none⟩) hR _).setCell (p := ⟨R, 1, none⟩) hR _

set_option maxRecDepth 100000 in
set_option maxHeartbeats 4000000 in
theorem faultOf_line (p : Nat → Addr) (l : Int) (ea : Addr) (w : World) (hE : Env p w) :
    Calls Tryz.prog 25 #[.iface 84 (.agg #[.int .i64 l, .iface 171 (.pointer (some ea))])] w fun e w' => e = .returned (.agg #[.int .i64 2, .int .i64 l]) ∧ Below w.heap.size w w' := by
  have hb0 := foW_below w
  have h0 := foW_at w
  have HA : Hid (Calls Tryz.prog 45 #[.iface 84 (.agg #[.int .i64 l, .iface 171 (.pointer (some ea))]), .iface 88 (.pointer (some ⟨w.heap.size + 1, 0, none⟩))] (foW w) fun ev w' => ev = .returned (.bool true) ∧ Below (w.heap.size + 1) (foW w) w' ∧ w'.cell? ⟨w.heap.size + 1, 0, none⟩ = some (.int .i64 l)) :=
    as_hit2 l ea (w.heap.size + 1) (.int .i64 0) .nilIface (foW w) (cell_below hb0 hE.ty) (by simp [go_sem]) (by simp [go_sem]) (by simp [go_sem]) (by simp [go_sem])
  clear hE
  obtain ⟨W, eW⟩ : ∃ W, foW w = W := ⟨_, rfl⟩
  rw [eW] at HA hb0 h0
  go_enter Tryz.func25, Tryz.ntmps25
  go_wp2_with fail
  refine HA.out.mono ?_
  rintro e w1 ⟨rfl, hb1, cl⟩
  have hB1 : Below w.heap.size w w1 := hb0.trans (hb1.mono (by omega))
  obtain ⟨c0, c1, f0, f1⟩ := fo_cells (w := w1) (R := w.heap.size) (by rw [hb1.block _ (by omega)]; exact h0)
  clear hb1 hb0 h0 eW HA
  go_wp2
  exact bodyPost_ret (v := .agg #[.int .i64 2, .int .i64 l]) (by simp [results, Tryz.results25, go_sem, c0, c1]) rfl ⟨rfl, below_set2 hB1 (Nat.le_refl _) _ _⟩

set_option maxRecDepth 100000 in
set_option maxHeartbeats 4000000 in
theorem faultOf_many (p : Nat → Addr) (w : World) (hE : Env p w) :
    Calls Tryz.prog 25 #[.iface 171 (.pointer (some (p 3)))] w fun e w' => e = .returned (.agg #[.int .i64 3, .int .i64 0]) ∧ Below w.heap.size w w' := by
  have hb0 := foW_below w
  have h0 := foW_at w
  have HA : Hid (Calls Tryz.prog 45 #[.iface 171 (.pointer (some (p 3))), .iface 88 (.pointer (some ⟨w.heap.size + 1, 0, none⟩))] (foW w) fun ev w' => ev = .returned (.bool false) ∧ w' = asW (w.heap.size + 1) (foW w)) := as_miss (p 3) (w.heap.size + 1) (foW w) (cell_below hb0 hE.ty)
  have hb1 := asW_below (w.heap.size + 1) (foW w)
  have c3 := cell_below hb1 (cell_below hb0 (hE.er 3 (by omega)))
  obtain ⟨c0, c1, f0, f1⟩ := fo_cells (w := asW (w.heap.size + 1) (foW w)) (R := w.heap.size) (by rw [hb1.block _ (by simp; omega)]; exact h0)
  have hB1 : Below w.heap.size w (asW (w.heap.size + 1) (foW w)) := hb0.trans (hb1.mono hb0.size)
  obtain ⟨W, eW⟩ : ∃ W, foW w = W := ⟨_, rfl⟩
  obtain ⟨V, eV⟩ : ∃ V, asW (w.heap.size + 1) (foW w) = V := ⟨_, rfl⟩
  rw [eV] at HA c3 c0 c1 f0 f1 hB1
  rw [eW] at HA
  clear hE hb0 h0 hb1 eV
  go_enter Tryz.func25, Tryz.ntmps25
  go_wp2_with fail
  refine HA.out.mono ?_
  rintro e w1 ⟨rfl, rfl⟩
  clear HA eW
  go_wp2_with fail
  refine (is_same (p 3) _).mono ?_
  rintro e w2 ⟨rfl, rfl⟩
  go_wp2
  exact bodyPost_ret (v := .agg #[.int .i64 3, .int .i64 0]) (by simp [results, Tryz.results25, go_sem, c0, c1]) rfl ⟨rfl, below_set2 hB1 (Nat.le_refl _) _ _⟩

set_option maxRecDepth 100000 in
set_option maxHeartbeats 4000000 in
theorem faultOf_size (p : Nat → Addr) (w : World) (hE : Env p w) (hS : Sen p w) :
    Calls Tryz.prog 25 #[.iface 171 (.pointer (some (p 1)))] w fun e w' => e = .returned (.agg #[.int .i64 1, .int .i64 0]) ∧ Below w.heap.size w w' := by
  have hb0 := foW_below w
  have h0 := foW_at w
  have HA : Hid (Calls Tryz.prog 45 #[.iface 171 (.pointer (some (p 1))), .iface 88 (.pointer (some ⟨w.heap.size + 1, 0, none⟩))] (foW w) fun ev w' => ev = .returned (.bool false) ∧ w' = asW (w.heap.size + 1) (foW w)) := as_miss (p 1) (w.heap.size + 1) (foW w) (cell_below hb0 hE.ty)
  have hb1 := asW_below (w.heap.size + 1) (foW w)
  have c3 := cell_below hb1 (cell_below hb0 (hE.er 3 (by omega)))
  obtain ⟨hne, ⟨x1, t1, s1⟩, x3, t3, s3⟩ := (hS.below hb0).below hb1
  obtain ⟨c0, c1, f0, f1⟩ := fo_cells (w := asW (w.heap.size + 1) (foW w)) (R := w.heap.size) (by rw [hb1.block _ (by simp; omega)]; exact h0)
  have hB1 : Below w.heap.size w (asW (w.heap.size + 1) (foW w)) := hb0.trans (hb1.mono hb0.size)
  obtain ⟨W, eW⟩ : ∃ W, foW w = W := ⟨_, rfl⟩
  obtain ⟨V, eV⟩ : ∃ V, asW (w.heap.size + 1) (foW w) = V := ⟨_, rfl⟩
  rw [eV] at HA c3 c0 c1 f0 f1 hB1 s1 s3
  rw [eW] at HA
  have HI : Hid (Calls Tryz.prog 46 #[.iface 171 (.pointer (some (p 1))), .iface 171 (.pointer (some (p 3)))] V fun e w' => e = .returned (.bool false) ∧ w' = V) := is_other (p 1) (p 3) x1 x3 t1 t3 V hne s1 s3
  clear hE hS hb0 h0 hb1 eV hne s1 s3
  go_enter Tryz.func25, Tryz.ntmps25
  go_wp2_with fail
  refine HA.out.mono ?_
  rintro e w1 ⟨rfl, rfl⟩
  clear HA eW
  go_wp2_with fail
  refine HI.out.mono ?_
  rintro e w2 ⟨rfl, rfl⟩
  clear HI
  go_wp2
  exact bodyPost_ret (v := .agg #[.int .i64 1, .int .i64 0]) (by simp [results, Tryz.results25, go_sem, c0, c1]) rfl ⟨rfl, below_set2 hB1 (Nat.le_refl _) _ _⟩

/-- What ParseProgram gives. -/
def OutP (B : Nat) : PO → Value → World → Prop
  | .good is, v, w => ∃ x, v = .tuple #[.agg #[x], .agg #[.int .i64 0, .int .i64 0]] ∧ RowI B x is w ∧ is ≠ [] ∧ is.length ≤ 200
  | .bad c l, v, w => l ≤ 1500000 ∧ v = .tuple #[.agg #[.slice none 0 0], .agg #[.int .i64 c, .int .i64 l]]
/-- ParseProgram's result blocks. -/
abbrev ppW (w : World) : World := (w.alloc (.cells #[.slice none 0 0] 25)).alloc (.cells #[.int .i64 0, .int .i64 0] 29)
theorem ppW_below (w : World) : Below w.heap.size w (ppW w) := ((Below.refl _ _).alloc (Nat.le_refl _) _).alloc (by simp) _
structure PB (R : Nat) (w : World) : Prop where
  a0 : w.heap[R]? = some (.cells #[.slice none 0 0] 25 (0, 0))
  a1 : w.heap[R + 1]? = some (.cells #[.int .i64 0, .int .i64 0] 29 (0, 0))
theorem ppW_pb (w : World) : PB w.heap.size (ppW w) := ⟨by rw [Lib.alloc_old _ _ _ (by simp), alloc_here], by
  have := alloc_here (w.alloc (.cells #[.slice none 0 0] 25)) (.cells #[.int .i64 0, .int .i64 0] 29)
  simpa using this⟩
theorem heap_lt {w : World} {b : Nat} {o : Obj} (h : w.heap[b]? = some o) : b < w.heap.size := by
  rcases Nat.lt_or_ge b w.heap.size with k | k
  · exact k
  · rw [Array.getElem?_eq_none k] at h; cases h
theorem PB.below {R : Nat} {w w' : World} (h : PB R w) (hb : Below w.heap.size w w') : PB R w' := ⟨by rw [hb.block _ (heap_lt h.a0)]; exact h.a0, by rw [hb.block _ (heap_lt h.a1)]; exact h.a1⟩
theorem PB.cells {R : Nat} {w : World} (h : PB R w) : w.cell? ⟨R, 0, none⟩ = some (.slice none 0 0) ∧ w.frozen? ⟨R, 0, none⟩ = false ∧ w.cell? ⟨R + 1, 0, none⟩ = some (.int .i64 0) ∧ w.cell? ⟨R + 1, 1, none⟩ = some (.int .i64 0) ∧ w.frozen? ⟨R + 1, 0, none⟩ = false ∧ w.frozen? ⟨R + 1, 1, none⟩ = false :=
  ⟨by rw [Lib.cell_of_heap h.a0]; rfl, Lib.frozen_of_heap h.a0 0, by rw [Lib.cell_of_heap h.a1]; rfl, by rw [Lib.cell_of_heap h.a1]; rfl, Lib.frozen_of_heap h.a1 0, Lib.frozen_of_heap h.a1 1⟩
theorem below_setP {B R : Nat} {w w' : World} (h : Below B w w') (hR : B ≤ R) (a b c : Value) : Below B w (((w'.setCell ⟨R, 0, none⟩ a).setCell ⟨R + 1, 0, none⟩ b).setCell ⟨R + 1, 1, none⟩ c) :=
  ((h.setCell (p := ⟨R, 0, none⟩) hR _).setCell (p := ⟨R + 1, 0, none⟩) (Nat.le_succ_of_le hR) _).setCell (p := ⟨R + 1, 1, none⟩) (Nat.le_succ_of_le hR) _
theorem rowI_setP {B R : Nat} {v : Value} {is : List I3} {w : World} (h : RowI B v is w) (h0 : is ≠ []) (hR : R + 1 < B) (a b c : Value) : RowI B v is (((w.setCell ⟨R, 0, none⟩ a).setCell ⟨R + 1, 0, none⟩ b).setCell ⟨R + 1, 1, none⟩ c) :=
  own_keepD h fun g hg hlt => by
    rw [Below.heap_setCell _ ⟨R + 1, 1, none⟩ _ g (show g ≠ R + 1 by omega), Below.heap_setCell _ ⟨R + 1, 0, none⟩ _ g (show g ≠ R + 1 by omega), Below.heap_setCell _ ⟨R, 0, none⟩ _ g (show g ≠ R by omega)]

theorem RowI.mono {B B' : Nat} {v : Value} {is : List I3} {w : World} (h : RowI B v is w) (hB : B' ≤ B) : RowI B' v is w := by
  refine ⟨h.1, ?_⟩
  rcases h.2 with k | ⟨g, cap, cur, e, hg, r⟩
  · exact Or.inl k
  · exact Or.inr ⟨g, cap, cur, e, Nat.le_trans hB hg, r⟩

set_option maxRecDepth 100000 in
set_option maxHeartbeats 4000000 in
theorem implParse_any (p : Nat → Addr) (s : ByteArray) (w : World) (hE : Env p w) (hS : Sen p w) (hs : s.size ≤ 1500000) :
    Calls Tryz.prog 7 #[.string s] w fun e w' => Below w.heap.size w w' ∧ ∃ v, e = .returned v ∧ OutP w.heap.size (parseP s.data.toList) v w' := by
  have hb0 := ppW_below w
  have hP0 := ppW_pb w
  have hsz : (ppW w).heap.size = w.heap.size + 2 := by simp
  obtain ⟨W, eW⟩ : ∃ W, ppW w = W := ⟨_, rfl⟩
  rw [eW] at hb0 hP0 hsz
  have HE0 : Hid (Env p W) := hE.below hb0
  have HS0 : Hid (Sen p W) := hS.below hb0
  have HC : Hid (Calls Tryz.prog 24 #[.string s] W fun e w' => Below W.heap.size W w' ∧ ∃ v, e = .returned v ∧ CodeP p W.heap.size (parseP s.data.toList) v w') := readCode_any p s W HE0.out hs
  have HZ : Hid (W.heap.size = w.heap.size + 2) := hsz
  clear hE hS hsz
  go_enter Tryz.func7, Tryz.ntmps7
  go_wp2_with fail
  refine HC.out.mono ?_
  rintro e w1 ⟨hb1, v, rfl, hcp⟩
  have hB1 : Below w.heap.size w w1 := hb0.trans (hb1.mono hb0.size)
  have hP1 := hP0.below hb1
  have HE1 : Hid (Env p w1) := HE0.out.below hb1
  have HS1 : Hid (Sen p w1) := HS0.out.below hb1
  clear hb0 hP0 HE0 HS0 HC hb1 eW
  cases hpp : parseP s.data.toList with
  | good is =>
    rw [hpp] at hcp
    obtain ⟨x, rfl, hrow, hne, hle⟩ := hcp
    obtain ⟨g, cap, rfl, hg⟩ := hrow.shape hne
    have HR : Hid (RowI W.heap.size (.slice (some ⟨g, 0, none⟩) is.length cap) is w1 ∧ is ≠ [] ∧ is.length ≤ 200) := ⟨hrow, hne, hle⟩
    have HQ : Hid (parseP s.data.toList = .good is) := hpp
    obtain ⟨c0, f0, c1, c2, f1, f2⟩ := hP1.cells
    clear hrow hne hle hpp
    dsimp only
    go_wp2
    refine bodyPost_ret (v := .tuple #[.agg #[.slice (some ⟨g, 0, none⟩) is.length cap], .agg #[.int .i64 0, .int .i64 0]]) (by simp [results, Tryz.results7, go_sem, c0, c1, c2]) rfl ⟨below_setP hB1 (Nat.le_refl _) _ _ _, _, rfl, ?_⟩
    rw [HQ.out]
    exact ⟨_, rfl, (rowI_setP HR.out.1 HR.out.2.1 (by have := HZ.out; omega) _ _ _).mono (by have := HZ.out; omega), HR.out.2.1, HR.out.2.2⟩
  | bad c l =>
    rw [hpp] at hcp
    have HQ : Hid (parseP s.data.toList = .bad c l) := hpp
    clear hpp
    rcases hcp with ⟨rfl, rfl, rfl⟩ | ⟨rfl, hl, a, rfl⟩ | ⟨rfl, rfl, rfl⟩
    · dsimp only
      go_wp2_with fail
      refine (faultOf_size p _ HE1.out HS1.out).mono ?_
      rintro e w2 ⟨rfl, hb2⟩
      have hB2 := hB1.trans (hb2.mono hB1.size)
      obtain ⟨c0, f0, c1, c2, f1, f2⟩ := (hP1.below hb2).cells
      clear hb2 hP1
      go_wp2
      refine bodyPost_ret (v := .tuple #[.agg #[.slice none 0 0], .agg #[.int .i64 1, .int .i64 0]]) (by simp [results, Tryz.results7, go_sem, c0, c1, c2]) rfl ⟨below_setP hB2 (Nat.le_refl _) _ _ _, _, rfl, ?_⟩
      rw [HQ.out]; exact ⟨by omega, rfl⟩
    · dsimp only
      go_wp2_with fail
      refine (faultOf_line p l a _ HE1.out).mono ?_
      rintro e w2 ⟨rfl, hb2⟩
      have hB2 := hB1.trans (hb2.mono hB1.size)
      obtain ⟨c0, f0, c1, c2, f1, f2⟩ := (hP1.below hb2).cells
      clear hb2 hP1
      go_wp2
      refine bodyPost_ret (v := .tuple #[.agg #[.slice none 0 0], .agg #[.int .i64 2, .int .i64 l]]) (by simp [results, Tryz.results7, go_sem, c0, c1, c2]) rfl ⟨below_setP hB2 (Nat.le_refl _) _ _ _, _, rfl, ?_⟩
      rw [HQ.out]; exact ⟨hl, rfl⟩
    · dsimp only
      go_wp2_with fail
      refine (faultOf_many p _ HE1.out).mono ?_
      rintro e w2 ⟨rfl, hb2⟩
      have hB2 := hB1.trans (hb2.mono hB1.size)
      obtain ⟨c0, f0, c1, c2, f1, f2⟩ := (hP1.below hb2).cells
      clear hb2 hP1
      go_wp2
      refine bodyPost_ret (v := .tuple #[.agg #[.slice none 0 0], .agg #[.int .i64 3, .int .i64 0]]) (by simp [results, Tryz.results7, go_sem, c0, c1, c2]) rfl ⟨below_setP hB2 (Nat.le_refl _) _ _ _, _, rfl, ?_⟩
      rw [HQ.out]; exact ⟨by omega, rfl⟩
end Go.Proofs.YtmcafdobfmheaaaGreatDoor
