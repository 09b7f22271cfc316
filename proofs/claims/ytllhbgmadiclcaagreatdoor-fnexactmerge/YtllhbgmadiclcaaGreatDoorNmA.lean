import Derived.DeepKeys5
import Derived.Maps.OwnSet
import Derived.Maps.Views
import Derived.Test.YtllhbgmadiclcaaGreatDoorProg
namespace Go.Proofs.YtllhbgmadiclcaaGreatDoor
open Go.RowKit
set_option linter.unusedVariables false

/-- An entry's three cells. -/
abbrev Cel3 := Value × Value × Value
def c3s (x : Cel3) : List Value := [x.1, x.2.1, x.2.2]
theorem c3s_inj {x y : Cel3} (h : c3s x = c3s y) : x = y := by
  obtain ⟨a, b, c⟩ := x
  obtain ⟨d, e, f⟩ := y
  simp only [c3s, List.cons.injEq, and_true] at h
  obtain ⟨rfl, rfl, rfl⟩ := h
  rfl
theorem flat_c3_inj : ∀ {xs ys : List Cel3}, xs.flatMap c3s = ys.flatMap c3s → xs = ys
  | [], [], _ => rfl
  | [], y :: ys, h => by simp [c3s] at h
  | x :: xs, [], h => by simp [c3s] at h
  | x :: xs, y :: ys, h => by
    simp only [List.flatMap_cons] at h
    have h2 := List.append_inj h (by simp [c3s])
    rw [c3s_inj h2.1, flat_c3_inj h2.2]
def padT (z : Cel3) (c : List Cel3) : List Cel3 := c ++ List.replicate (8 - c.length) z
theorem padT_length {z : Cel3} {c : List Cel3} (h : c.length ≤ 8) : (padT z c).length = 8 := by simp [padT]; omega
theorem padT_inj {z : Cel3} : ∀ {c d : List Cel3}, c.length ≤ 8 → d.length ≤ 8 → (∀ x ∈ c, x ≠ z) → (∀ x ∈ d, x ≠ z) → padT z c = padT z d → c = d := by
  intro c d hc hd hz hw h
  have aux : ∀ {c d : List Cel3}, (∀ x ∈ d, x ≠ z) → c.length < d.length → d.length ≤ 8 → padT z c = padT z d → False := fun {c d} hw hl hd h => by
    have h1 : (padT z c)[c.length]? = some z := by
      unfold padT
      rw [List.getElem?_append_right (Nat.le_refl _), List.getElem?_replicate, if_pos (by omega)]
    rw [h] at h1
    unfold padT at h1
    rw [List.getElem?_append_left hl] at h1
    exact hw z (List.mem_of_getElem? h1) rfl
  have hl : c.length = d.length := by
    rcases Nat.lt_trichotomy c.length d.length with q | q | q
    · exact (aux hw q hd h).elim
    · exact q
    · exact (aux hz q hc h.symm).elim
  exact (List.append_inj h hl).1
def keyA (z : Cel3) (k : Nat) (c : List Cel3) : Array Value := (Value.int .i64 k :: (padT z c).flatMap c3s).toArray
theorem keyA_inj {z : Cel3} {j k : Nat} {c d : List Cel3} (hc : c.length ≤ 8) (hd : d.length ≤ 8) (hz : ∀ x ∈ c, x ≠ z) (hw : ∀ x ∈ d, x ≠ z) (h : keyA z j c = keyA z k d) : j = k ∧ c = d := by
  unfold keyA at h
  have h1 := congrArg Array.toList h
  simp only [List.cons.injEq, Value.int.injEq, true_and] at h1
  exact ⟨Int.ofNat_inj.1 h1.1, padT_inj hc hd hz hw (flat_c3_inj h1.2)⟩

/-- An instruction's cells; a look's. -/
def okI (x : Cel3) : Prop := ∃ a s b, x = (.int .i64 a, .string s, .int .i64 b) ∧ (Lit.int .i64 a).wf = true ∧ s.size ≤ maxLen ∧ (Lit.int .i64 b).wf = true
def okG (x : Cel3) : Prop := ∃ s v u, x = (.string s, .bool v, .string u) ∧ s.size ≤ maxLen ∧ u.size ≤ maxLen
def zI : Cel3 := (.int .i64 0, .string ⟨#[]⟩, .int .i64 0)
def zG : Cel3 := (.string ⟨#[]⟩, .bool false, .string ⟨#[]⟩)
theorem okI_z : okI zI := ⟨0, ⟨#[]⟩, 0, rfl, rfl, by simp [ByteArray.size, maxLen], rfl⟩
theorem okG_z : okG zG := ⟨⟨#[]⟩, false, ⟨#[]⟩, rfl, by simp [ByteArray.size, maxLen], by simp [ByteArray.size, maxLen]⟩
theorem cells148 : Tryz.prog.cellsOf 98 = 3 := by kernel_rfl
theorem cells106 : Tryz.prog.cellsOf 90 = 3 := by kernel_rfl
theorem cells176 : Tryz.prog.cellsOf 122 = 24 := by kernel_rfl
theorem cells182 : Tryz.prog.cellsOf 128 = 24 := by kernel_rfl
theorem cells178 : Tryz.prog.cellsOf 124 = 25 := by kernel_rfl
theorem cells184 : Tryz.prog.cellsOf 130 = 25 := by kernel_rfl
theorem cells97 : Tryz.prog.cellsOf 69 = 3 := by kernel_rfl
theorem cells95 : Tryz.prog.cellsOf 67 = 2 := by kernel_rfl
theorem cells3 : Tryz.prog.cellsOf 3 = 1 := by kernel_rfl
theorem cells9 : Tryz.prog.cellsOf 9 = 1 := by kernel_rfl
theorem cells4 : Tryz.prog.cellsOf 4 = 1 := by kernel_rfl
theorem lits_int {P : Program} {d : Nat} {t : TypeId} {a : Int} (hu : P.underlying t = some (.int .i64)) (h : (Lit.int .i64 a).wf = true) : P.keyLits (d + 1) t [.int .i64 a] = some [.int .i64 a] := by unfold Program.keyLits; simp [hu, h]
theorem lits_string {P : Program} {d : Nat} {t : TypeId} {s : ByteArray} (hu : P.underlying t = some .string) (h : s.size ≤ maxLen) : P.keyLits (d + 1) t [.string s] = some [.string s.data.toList] := by unfold Program.keyLits; simp [hu, h]
theorem lits_bool {P : Program} {d : Nat} {t : TypeId} {v : Bool} (hu : P.underlying t = some .bool) : P.keyLits (d + 1) t [.bool v] = some [.bool v] := by unfold Program.keyLits; simp [hu]
theorem lits_struct {P : Program} {d : Nat} {t : TypeId} {fs : Array Field} {cs : List Value} (hu : P.underlying t = some (.struct fs)) (h : cs.length = P.cellsOf t) (h2 : fs.all (·.name != "_") = true) : P.keyLits (d + 1) t cs = (fs.toList.mapM fun f => P.keyLits d f.type ((cs.drop f.offset).take (P.cellsOf f.type))).map List.flatten := by
  rw [show P.keyLits (d + 1) t cs = if cs.length = P.cellsOf t ∧ fs.all (·.name != "_") = true then (fs.toList.mapM fun f => P.keyLits d f.type ((cs.drop f.offset).take (P.cellsOf f.type))).map List.flatten else none from by
    conv => lhs; unfold Program.keyLits
    simp only [hu]]
  rw [if_pos ⟨h, h2⟩]
theorem lits_array {P : Program} {d n : Nat} {t e : TypeId} {cs : List Value} (hu : P.underlying t = some (.array n e)) (h : cs.length = P.cellsOf t) : P.keyLits (d + 1) t cs = ((List.range n).mapM fun i => P.keyLits d e ((cs.drop (i * P.cellsOf e)).take (P.cellsOf e))).map List.flatten := by
  rw [show P.keyLits (d + 1) t cs = if cs.length = P.cellsOf t then ((List.range n).mapM fun i => P.keyLits d e ((cs.drop (i * P.cellsOf e)).take (P.cellsOf e))).map List.flatten else none from by
    conv => lhs; unfold Program.keyLits
    simp only [hu]]
  rw [if_pos h]
theorem litsI {x : Cel3} (h : okI x) (d : Nat) : ∃ l, Tryz.prog.keyLits (d + 2) 98 (c3s x) = some l := by
  obtain ⟨a, s, b, rfl, h1, h2, h3⟩ := h
  refine ⟨[.int .i64 a, .string s.data.toList, .int .i64 b], ?_⟩
  rw [lits_struct Tryz.underlying98 (by rw [cells148]; rfl) (by decide +kernel)]
  simp [c3s, cells3, cells9, lits_int Tryz.underlying3 h1, lits_int Tryz.underlying3 h3, lits_string Tryz.underlying9 h2]
theorem litsG {x : Cel3} (h : okG x) (d : Nat) : ∃ l, Tryz.prog.keyLits (d + 2) 90 (c3s x) = some l := by
  obtain ⟨s, v, u, rfl, h1, h2⟩ := h
  refine ⟨[.string s.data.toList, .bool v, .string u.data.toList], ?_⟩
  rw [lits_struct Tryz.underlying90 (by rw [cells106]; rfl) (by decide +kernel)]
  simp [c3s, cells4, cells9, lits_bool Tryz.underlying4, lits_string Tryz.underlying9 h1, lits_string Tryz.underlying9 h2]
theorem eight {α : Type} {xs : List α} (h : xs.length = 8) : ∃ a b c d e f g i, xs = [a, b, c, d, e, f, g, i] := by
  match xs, h with
  | [a, b, c, d, e, f, g, i], _ => exact ⟨a, b, c, d, e, f, g, i, rfl⟩
theorem lits176 {xs : List Cel3} (h8 : xs.length = 8) (h : ∀ x ∈ xs, okI x) (d : Nat) : ∃ l, Tryz.prog.keyLits (d + 3) 122 (xs.flatMap c3s) = some l := by
  obtain ⟨x0, x1, x2, x3, x4, x5, x6, x7, rfl⟩ := eight h8
  simp only [List.forall_mem_cons] at h
  obtain ⟨h0, h1, h2, h3, h4, h5, h6, h7, _⟩ := h
  obtain ⟨l0, e0⟩ := litsI h0 d
  obtain ⟨l1, e1⟩ := litsI h1 d
  obtain ⟨l2, e2⟩ := litsI h2 d
  obtain ⟨l3, e3⟩ := litsI h3 d
  obtain ⟨l4, e4⟩ := litsI h4 d
  obtain ⟨l5, e5⟩ := litsI h5 d
  obtain ⟨l6, e6⟩ := litsI h6 d
  obtain ⟨l7, e7⟩ := litsI h7 d
  refine ⟨[l0, l1, l2, l3, l4, l5, l6, l7].flatten, ?_⟩
  rw [lits_array Tryz.underlying122 (by rw [cells176]; rfl)]
  simp only [c3s] at e0 e1 e2 e3 e4 e5 e6 e7
  simp [cells148, c3s, List.range, List.range.loop, e0, e1, e2, e3, e4, e5, e6, e7]
theorem lits182 {xs : List Cel3} (h8 : xs.length = 8) (h : ∀ x ∈ xs, okG x) (d : Nat) : ∃ l, Tryz.prog.keyLits (d + 3) 128 (xs.flatMap c3s) = some l := by
  obtain ⟨x0, x1, x2, x3, x4, x5, x6, x7, rfl⟩ := eight h8
  simp only [List.forall_mem_cons] at h
  obtain ⟨h0, h1, h2, h3, h4, h5, h6, h7, _⟩ := h
  obtain ⟨l0, e0⟩ := litsG h0 d
  obtain ⟨l1, e1⟩ := litsG h1 d
  obtain ⟨l2, e2⟩ := litsG h2 d
  obtain ⟨l3, e3⟩ := litsG h3 d
  obtain ⟨l4, e4⟩ := litsG h4 d
  obtain ⟨l5, e5⟩ := litsG h5 d
  obtain ⟨l6, e6⟩ := litsG h6 d
  obtain ⟨l7, e7⟩ := litsG h7 d
  refine ⟨[l0, l1, l2, l3, l4, l5, l6, l7].flatten, ?_⟩
  rw [lits_array Tryz.underlying128 (by rw [cells182]; rfl)]
  simp only [c3s] at e0 e1 e2 e3 e4 e5 e6 e7
  simp [cells106, c3s, List.range, List.range.loop, e0, e1, e2, e3, e4, e5, e6, e7]
theorem flat_len (xs : List Cel3) : (xs.flatMap c3s).length = xs.length * 3 := by
  induction xs with
  | nil => rfl
  | cons x xs ih => simp only [List.flatMap_cons, List.length_append, List.length_cons, ih, c3s, List.length_nil]; omega
theorem wf_nat {k : Nat} (h : k ≤ 1073741824) : (Lit.int .i64 (k : Int)).wf = true := by
  simp only [Lit.wf, IntKind.min, IntKind.max, IntKind.signed, IntKind.bits, Bool.and_eq_true, decide_eq_true_eq, if_true]
  omega
theorem types_ge : ∃ d, Tryz.prog.types.size + 1 = d + 4 := ⟨Tryz.prog.types.size - 3, by have : 3 ≤ Tryz.prog.types.size := (by decide +kernel); omega⟩
theorem keyI {k : Nat} {c : List Cel3} (hk : k ≤ 1073741824) (hc : c.length ≤ 8) (h : ∀ x ∈ c, okI x) : ∃ l, keyOf Tryz.prog 124 (.agg (keyA zI k c)) = some l := by
  obtain ⟨d, ed⟩ := types_ge
  have hp : ∀ x ∈ padT zI c, okI x := fun x hx => by
    unfold padT at hx
    rcases List.mem_append.1 hx with q | q
    · exact h x q
    · rw [(List.mem_replicate.1 q).2]; exact okI_z
  obtain ⟨l, e⟩ := lits176 (padT_length hc) hp d
  have hsz : (keyA zI k c).size = 25 := by simp only [keyA, List.size_toArray, List.length_cons, flat_len, padT_length hc]
  have hd : ((padT zI c).flatMap c3s).take 24 = (padT zI c).flatMap c3s := List.take_of_length_le (by rw [flat_len, padT_length hc]; omega)
  have e2 : Tryz.prog.keyLits (d + 3 + 1) 124 (keyA zI k c).toList = some ([.int .i64 (k : Int)] ++ l) := by
    have hl : (Value.int .i64 (k : Int) :: (padT zI c).flatMap c3s).length = 25 := by rw [List.length_cons, flat_len, padT_length hc]
    unfold keyA
    rw [lits_struct Tryz.underlying124 (by rw [cells178]; exact hl) (by decide +kernel)]
    simp [cells3, cells176, hd, e, lits_int Tryz.underlying3 (wf_nat hk)]
  refine ⟨.string (keyBytes ([.int .i64 (k : Int)] ++ l)), ?_⟩
  have hkt : Tryz.prog.keyType 124 = true := by decide +kernel
  unfold keyOf
  simp only [Tryz.underlying124, hkt, Value.formed, cells178, hsz, ed]
  simp [Value.cells, e2]
theorem keyG {k : Nat} {c : List Cel3} (hk : k ≤ 1073741824) (hc : c.length ≤ 8) (h : ∀ x ∈ c, okG x) : ∃ l, keyOf Tryz.prog 130 (.agg (keyA zG k c)) = some l := by
  obtain ⟨d, ed⟩ := types_ge
  have hp : ∀ x ∈ padT zG c, okG x := fun x hx => by
    unfold padT at hx
    rcases List.mem_append.1 hx with q | q
    · exact h x q
    · rw [(List.mem_replicate.1 q).2]; exact okG_z
  obtain ⟨l, e⟩ := lits182 (padT_length hc) hp d
  have hsz : (keyA zG k c).size = 25 := by simp only [keyA, List.size_toArray, List.length_cons, flat_len, padT_length hc]
  have hd : ((padT zG c).flatMap c3s).take 24 = (padT zG c).flatMap c3s := List.take_of_length_le (by rw [flat_len, padT_length hc]; omega)
  have e2 : Tryz.prog.keyLits (d + 3 + 1) 130 (keyA zG k c).toList = some ([.int .i64 (k : Int)] ++ l) := by
    have hl : (Value.int .i64 (k : Int) :: (padT zG c).flatMap c3s).length = 25 := by rw [List.length_cons, flat_len, padT_length hc]
    unfold keyA
    rw [lits_struct Tryz.underlying130 (by rw [cells184]; exact hl) (by decide +kernel)]
    simp [cells3, cells182, hd, e, lits_int Tryz.underlying3 (wf_nat hk)]
  refine ⟨.string (keyBytes ([.int .i64 (k : Int)] ++ l)), ?_⟩
  have hkt : Tryz.prog.keyType 130 = true := by decide +kernel
  unfold keyOf
  simp only [Tryz.underlying130, hkt, Value.formed, cells184, hsz, ed]
  simp [Value.cells, e2]
theorem keyR {j k : Nat} {s : ByteArray} (hj : j ≤ 1073741824) (hk : k ≤ 1073741824) (hs : s.size ≤ maxLen) : ∃ l, keyOf Tryz.prog 69 (.agg #[.int .i64 j, .int .i64 k, .string s]) = some l := by
  obtain ⟨d, ed⟩ := types_ge
  have e1 : Tryz.prog.keyLits (d + 2 + 1) 67 [.int .i64 (j : Int), .int .i64 (k : Int)] = some [.int .i64 (j : Int), .int .i64 (k : Int)] := by
    rw [lits_array Tryz.underlying67 (by rw [cells95]; rfl)]
    simp [cells3, List.range, List.range.loop, lits_int Tryz.underlying3 (wf_nat hj), lits_int Tryz.underlying3 (wf_nat hk)]
  have e2 : Tryz.prog.keyLits (d + 3 + 1) 69 [.int .i64 (j : Int), .int .i64 (k : Int), .string s] = some [.int .i64 (j : Int), .int .i64 (k : Int), .string s.data.toList] := by
    rw [lits_struct Tryz.underlying69 (by rw [cells97]; rfl) (by decide +kernel)]
    simp [cells95, cells9, e1, lits_string Tryz.underlying9 hs]
  refine ⟨.string (keyBytes [.int .i64 (j : Int), .int .i64 (k : Int), .string s.data.toList]), ?_⟩
  have hkt : Tryz.prog.keyType 69 = true := by decide +kernel
  unfold keyOf
  simp only [Tryz.underlying69, hkt, Value.formed, cells97, ed]
  simp [Value.cells, e2]
theorem laidZ : laidOutB Tryz.prog = true := by decide +kernel
theorem law178 : WideMaps.KeyLaw Tryz.prog 124 := deep_law_gate laidZ (by decide +kernel) (by decide +kernel) (by decide +kernel) (by rw [Tryz.underlying124])
theorem law184 : WideMaps.KeyLaw Tryz.prog 130 := deep_law_gate laidZ (by decide +kernel) (by decide +kernel) (by decide +kernel) (by rw [Tryz.underlying130])
theorem law97 : WideMaps.KeyLaw Tryz.prog 69 := deep_law_gate laidZ (by decide +kernel) (by decide +kernel) (by decide +kernel) (by rw [Tryz.underlying69])

/-- Block b is a map of n entries from keys to integers: f tells them. -/
def MapK (kt : TypeId) (w : World) (b n : Nat) (f : Value → Option Nat) : Prop :=
  ∃ D : DataW Value, w.ownsMap Tryz.prog kt (fun v => some (.held v, [])) b n D ∧ Maps.size D = n ∧ ∀ k l, keyOf Tryz.prog kt k = some l → Maps.has D l = (f k).isSome ∧ ∀ v, f k = some v → ∀ z, D.atKey l z = .held (.int .i64 v)
theorem MapK.made (kt : TypeId) (w : World) : MapK kt (w.alloc (.map #[] 0)) w.heap.size 0 (fun _ => none) := ⟨_, World.ownsMap_made w _ _ _, rfl, fun k l _ => ⟨rfl, fun v h => by cases h⟩⟩
theorem MapK.same {kt : TypeId} {w w' : World} {b n : Nat} {f : Value → Option Nat} (h : MapK kt w b n f) (he : w'.heap[b]? = w.heap[b]?) : MapK kt w' b n f := by
  obtain ⟨D, ⟨es, cl, h1, h2⟩, h3⟩ := h
  exact ⟨D, ⟨es, cl, he.trans h1, h2⟩, h3⟩
theorem MapK.lt {kt : TypeId} {w : World} {b n : Nat} {f : Value → Option Nat} (h : MapK kt w b n f) : b < w.heap.size := by obtain ⟨D, h1, _⟩ := h; exact h1.lt
theorem MapK.notCells {kt : TypeId} {w : World} {b n : Nat} {f : Value → Option Nat} (h : MapK kt w b n f) {cs : Array Value} {T : TypeId} {fr : Nat × Nat} (hc : w.heap[b]? = some (.cells cs T fr)) : False := by
  obtain ⟨D, ⟨es, cl, h1, _⟩, _⟩ := h
  rw [hc] at h1; cases h1
theorem zero3 (w : World) : (zeroValue 3).run Tryz.prog w = .ok (.int .i64 0) w := by kernel_rfl
theorem MapK.look {kt mt : TypeId} {w : World} {b n : Nat} {f : Value → Option Nat} (h : MapK kt w b n f) (K : WideMaps.KeyLaw Tryz.prog kt) (ht : Tryz.prog.underlying mt = some (.map kt 3)) {k : Value} {l : Lit} (hk : keyOf Tryz.prog kt k = some l) :
    (Instr.lookup mt (.map (some b)) k true).run Tryz.prog w = .ok (.tuple #[.int .i64 ((f k).getD 0), .bool (f k).isSome]) w ∧ (Instr.lookup mt (.map (some b)) k false).run Tryz.prog w = .ok (.int .i64 ((f k).getD 0)) w := by
  obtain ⟨D, h1, _, h2⟩ := h
  obtain ⟨v, ps, h3, h4⟩ := h1.look_ok (Maps.Keyed.of_law K) ht (zero3 w) (zd := .held (.int .i64 0)) (zp := []) rfl hk
  obtain ⟨v2, ps2, h5, h6⟩ := h1.lookup (Maps.Keyed.of_law K) ht (zero3 w) (zd := .held (.int .i64 0)) (zp := []) rfl hk
  have aux : ∀ u : Value, (DataW.held u : DataW Value) = D.atKey l (.held (.int .i64 0)) → u = .int .i64 ((f k).getD 0) := fun u e => by
    cases hf : f k with
    | none =>
      have h7 := (h2 k l hk).1
      rw [hf] at h7
      rw [Maps.atKey_of_not_has h7] at e
      exact DataW.held.inj e
    | some x =>
      rw [(h2 k l hk).2 x hf] at e
      exact DataW.held.inj e
  simp only [Option.some.injEq, Prod.mk.injEq] at h4 h6
  rw [h3, h5, (h2 k l hk).1, aux v h4.1, aux v2 h6.1]
  exact ⟨rfl, rfl⟩
theorem MapK.len {kt mt : TypeId} {w : World} {b n : Nat} {f : Value → Option Nat} (h : MapK kt w b n f) (ht : Tryz.prog.underlying mt = some (.map kt 3)) (ty : TypeId) : (Builtin.len_ #[mt] ty #[.map (some b)]).run Tryz.prog w = .ok (.int .i64 n) w := by
  obtain ⟨D, h1, h2, _⟩ := h
  rw [h1.len ht ty, h2]
open Classical in
theorem MapK.store {kt mt : TypeId} {w : World} {b n : Nat} {f : Value → Option Nat} (h : MapK kt w b n f) (K : WideMaps.KeyLaw Tryz.prog kt) (ht : Tryz.prog.underlying mt = some (.map kt 3)) {k : Value} {l : Lit} (hk : keyOf Tryz.prog kt k = some l) (hn : n < maxLen) (v : Nat) :
    ∃ w', (Instr.mapUpdate mt (.map (some b)) k (.int .i64 v)).run Tryz.prog w = .ok () w' ∧ MapK kt w' b (if (f k).isSome then n else n + 1) (fun x => if x = k then some v else f x) ∧ w.grownBy w' (some b) := by
  obtain ⟨D, h1, hz, h2⟩ := h
  obtain ⟨w', h3, h4, h5⟩ := h1.update (Maps.Keyed.of_law K) ht hn hk (val := .int .i64 v) (d := .held (.int .i64 v)) (ps := []) rfl
  have hkey : ∀ {k : Value} {l : Lit}, keyOf Tryz.prog kt k = some l → WideAt.IsKeyLit l := fun h => by
    obtain ⟨s, rfl⟩ := K.str h
    trivial
  have hsz : Maps.size (D.put l (.held (.int .i64 v))) = if (f k).isSome then n else n + 1 := by rw [Maps.size_put (h1.tidy (Maps.Keyed.of_law K)), (h2 k l hk).1, hz]
  refine ⟨w', h3, ⟨_, ?_, hsz, fun x m hx => ?_⟩, h5⟩
  · obtain ⟨es, cl, q1, q2, q3, q4⟩ := h4
    refine ⟨es, cl, q1, q2, ?_, q4⟩
    rw [← hsz, q4, Maps.size_eq, length_read]
    exact Nat.le_refl _
  · by_cases hxk : x = k
    · subst hxk
      obtain rfl : m = l := by rw [hx] at hk; exact Option.some.inj hk
      simp only [if_true]
      exact ⟨Maps.has_put_same h1.isMap (hkey hx) _, fun v' e z => by cases e; exact Maps.atKey_put_same h1.isMap (hkey hx) _ _⟩
    · simp only [if_neg hxk]
      have hne : m ≠ l := fun e => hxk (K.inj (e ▸ hx) hk)
      exact ⟨by rw [Maps.has_put_other hne]; exact (h2 x m hx).1, fun v' e z => by rw [Maps.atKey_put_other hne]; exact (h2 x m hx).2 v' e z⟩
end Go.Proofs.YtllhbgmadiclcaaGreatDoor
