/-
  FnProgram: the row over the listed variables, and the tied card.
-/
import Derived.Test.YtmcafdobfmheaaaGreatDoorCards
import Derived.Test.YtmcafdobfmheaaaGreatDoorTie
import Derived.Test.YtmcafdobfmheaaaGreatDoorPrL
import Derived.WalkKit
import Derived.ProofKit
import Derived.OpenShut
import Derived.ShutString
import Derived.ChangeOld
import Derived.Below
import Derived.Deep.DeepHandedRow
import Derived.Lib.LaidTab
namespace Go.Proofs.YtmcafdobfmheaaaGreatDoor.programCard
open Go.ChangeShapes Go.WideShapes Go.ChangeAt Go.RowKit
set_option linter.unusedVariables false

theorem own : ownKnob Tryz.prog.godebug = none := by kernel_rfl
theorem laidOut : laidOutB Tryz.prog = true := by kernel_rfl
theorem trodVars_head {H : Type} {enc : TypeId × Value → H} {P : Program} {w : World} {spare : Nat → Bool} {n : String} {ns : List String} {gs : List (DataW H)} {ps : List MemPlace} (h : DataW.TrodVars enc P w spare (n :: ns) gs ps) : ∃ d gs' q, gs = d :: gs' ∧ DataW.TrodVars enc P w spare ns gs' q := by
  cases gs with
  | nil => exact h.elim
  | cons d ds =>
    obtain ⟨g, t, cs, fuel, p, q, h1, h2, h3, h4, hs, e⟩ := h
    exact ⟨d, ds, q, rfl, hs⟩

/-- What is told of a slice of bytes that came in. -/
def IsRow (k : IntKind) (w : World) (a : Option Addr) (len cap : Nat) (zs : List Int) : Prop :=
  (a = none ∧ len = 0 ∧ cap = 0 ∧ zs = []) ∨
  ∃ x, a = some x ∧ len ≤ cap ∧ cap ≤ maxLen ∧ zs.length = cap ∧ (∀ i, i < zs.length → w.cell? (x.add i) = some (.int k (zs.getD i 0))) ∧ ∀ n ∈ zs, (Lit.int k n).wf = true
theorem bytes_of_row {w : World} {a : Option Addr} {len cap : Nat} {zs : List Int} (h : IsRow .u8 w a len cap zs) : Bytes w a len ∧ len ≤ cap ∧ len ≤ maxLen := by
  rcases h with ⟨rfl, rfl, rfl, rfl⟩ | ⟨x, rfl, hl, hm, hz, hcell, hwz⟩
  · exact ⟨fun i hi => by omega, Nat.le_refl _, by simp [maxLen]⟩
  · refine ⟨fun i hi => ?_, hl, by omega⟩
    obtain ⟨b, off, spot⟩ := x
    have hspot : spot = none := by simpa [Addr.add] using World.cell?_spot (hcell 0 (by omega))
    subst hspot
    have hc := hcell i (by omega)
    rw [Addr.add_lit] at hc
    have hmem : zs.getD i 0 ∈ zs := by
      rw [List.getD_eq_getElem?_getD, List.getElem?_eq_getElem (show i < zs.length by omega)]
      exact List.getElem_mem _
    have hb := bounds_u8 (hwz _ hmem)
    exact ⟨b, off, _, rfl, hc, hb.1, hb.2⟩

set_option maxRecDepth 100000 in
theorem contract (H : Type) (enc : TypeId × Value → H) (W : World) (base : Nat) (args : Array Value) (ds gs : List (DataW H)) (before : List MemPlace)
    (hval : ∀ (j : Nat) t v, Tryz.f3.params[j]? = some t → args[j]? = some v → Value.okWide Tryz.prog W .any base t v)
    (hW : DataW.Whole enc Tryz.prog Tryz.f3.params.toList Rows.fnProgramSpec.vars false W args.toList ds gs before) (hL : laidMetH Tryz.prog Rows.fnProgramRow.laid W) (hSh : W.ShapedOpen Tryz.prog) :
    Calls Tryz.prog 3 args W fun e W' => ∃ v, e = .returned v ∧ Rows.fnProgramSpec.post enc Tryz.prog Tryz.f3 false true false false W args v W' := by
  have hW' := hW
  obtain ⟨p, q, hA0, hV, rfl, hfz, hnd⟩ := hW
  have hA : DataW.TrodAll enc Tryz.prog W 0 (fun _ => true) true Tryz.f3.params.toList args.toList ds p := hA0
  rw [Tryz.params3] at hA hval
  obtain ⟨v0, vs0, d0, ds0, p0, q0, hargs, rfl, rfl, h0, r0⟩ := trodAll_cons hA
  obtain ⟨rfl, rfl, rfl⟩ := trodAll_nil r0
  obtain rfl : args = #[v0] := by cases args; simp_all
  obtain ⟨a0, len0, cap0, rfl⟩ := okWide_slice Tryz.underlying22 (hval 0 22 v0 rfl rfl)
  have k0 := h0
  have lt0 : ∀ x ∈ p0, x.block < W.heap.size := by obtain ⟨m, hm⟩ := k0; exact DataW.trod_lt m _ _ _ hm
  obtain ⟨z0, w0⟩ : ∃ zs, IsRow .u8 W a0 len0 cap0 zs := by
    obtain ⟨fuel, hf⟩ := h0
    rcases open_ints Tryz.underlying22 Tryz.underlying5 (by kernel_rfl) hf with ⟨hcs, _⟩ | ⟨x, l, c, zs, hcs, _, hl, hm, hz, _, hcell, hwz⟩
    · simp [Value.cells] at hcs
      obtain ⟨rfl, rfl, rfl⟩ := hcs
      exact ⟨[], .inl ⟨rfl, rfl, rfl, rfl⟩⟩
    · simp [Value.cells] at hcs
      obtain ⟨rfl, rfl, rfl⟩ := hcs
      exact ⟨zs, .inr ⟨_, rfl, hl, hm, by simpa using hz, hcell, hwz⟩⟩
  obtain ⟨hby, hlc, hlm⟩ := bytes_of_row w0
  clear hA0
  obtain ⟨g1, g2, g3, g4, g5, g6, g7, rfl⟩ : ∃ g1 g2 g3 g4 g5 g6 g7, gs = [g1, g2, g3, g4, g5, g6, g7] := by
    obtain ⟨g1, r1, q1, rfl, k1⟩ := trodVars_head hV
    obtain ⟨g2, r2, q2, rfl, k2⟩ := trodVars_head k1
    obtain ⟨g3, r3, q3, rfl, k3⟩ := trodVars_head k2
    obtain ⟨g4, r4, q4, rfl, k4⟩ := trodVars_head k3
    obtain ⟨g5, r5, q5, rfl, k5⟩ := trodVars_head k4
    obtain ⟨g6, r6, q6, rfl, k6⟩ := trodVars_head k5
    obtain ⟨g7, r7, q7, rfl, k7⟩ := trodVars_head k6
    obtain ⟨rfl, _⟩ := trodVars_none k7
    exact ⟨_, _, _, _, _, _, _, rfl⟩
  obtain ⟨pp, hE, hS⟩ := env_of_laid hL hSh
  refine (programLaw pp a0 len0 cap0 W hE hS hby hlc hlm).mono fun e W' ⟨he, bel⟩ => ?_
  subst he
  exact ⟨_, rfl, _, _, _, [], _, q, hW', trodAll_mk1 (shut_bool Tryz.underlying4 _), (trodAll_cons_mk (Below.trod laidOut (by kernel_rfl) (of_decide_eq_true (by kernel_rfl)) k0 bel lt0) trodAll_mk0), bel.trodVars laidOut (by kernel_rfl) hV, bel.frame _, fun h => by cases h⟩

def cells0 : Array Value := #[.string ⟨#[]⟩, .int .i64 0, .int .i64 0, .string ⟨#[108, 105, 116]⟩, .int .i64 1, .int .i64 0, .string ⟨#[99, 97, 116]⟩, .int .i64 0, .int .i64 2, .string ⟨#[99, 117, 116]⟩, .int .i64 2, .int .i64 1, .string ⟨#[114, 101, 115, 116]⟩, .int .i64 2, .int .i64 1, .string ⟨#[119, 111, 114, 100]⟩, .int .i64 2, .int .i64 1, .string ⟨#[115, 97, 109, 101]⟩, .int .i64 0, .int .i64 2, .string ⟨#[100, 117, 112]⟩, .int .i64 0, .int .i64 1, .string ⟨#[115, 119, 97, 112]⟩, .int .i64 0, .int .i64 2, .string ⟨#[100, 114, 111, 112]⟩, .int .i64 0, .int .i64 1, .string ⟨#[106, 117, 109, 112]⟩, .int .i64 3, .int .i64 0, .string ⟨#[117, 110, 108, 101, 115, 115]⟩, .int .i64 3, .int .i64 1, .string ⟨#[97, 115, 107]⟩, .int .i64 0, .int .i64 1, .string ⟨#[104, 97, 115]⟩, .int .i64 0, .int .i64 1, .string ⟨#[102, 97, 105, 108]⟩, .int .i64 0, .int .i64 1, .string ⟨#[101, 110, 100]⟩, .int .i64 0, .int .i64 1]
def cells1 : Array Value := #[.int .u64 1, .int .u64 10, .int .u64 100, .int .u64 1000, .int .u64 10000, .int .u64 100000, .int .u64 1000000, .int .u64 10000000, .int .u64 100000000, .int .u64 1000000000, .int .u64 10000000000, .int .u64 100000000000, .int .u64 1000000000000, .int .u64 10000000000000, .int .u64 100000000000000, .int .u64 1000000000000000, .int .u64 10000000000000000, .int .u64 100000000000000000, .int .u64 1000000000000000000, .int .u64 10000000000000000000]
def cells2 : Array Value := #[.int .u8 0, .int .u8 1, .int .u8 28, .int .u8 2, .int .u8 29, .int .u8 14, .int .u8 24, .int .u8 3, .int .u8 30, .int .u8 22, .int .u8 20, .int .u8 15, .int .u8 25, .int .u8 17, .int .u8 4, .int .u8 8, .int .u8 31, .int .u8 27, .int .u8 13, .int .u8 23, .int .u8 21, .int .u8 19, .int .u8 16, .int .u8 7, .int .u8 26, .int .u8 12, .int .u8 18, .int .u8 6, .int .u8 11, .int .u8 5, .int .u8 10, .int .u8 9]
def cells3 : Array Value := #[.int .u8 0, .int .u8 1, .int .u8 56, .int .u8 2, .int .u8 57, .int .u8 49, .int .u8 28, .int .u8 3, .int .u8 61, .int .u8 58, .int .u8 42, .int .u8 50, .int .u8 38, .int .u8 29, .int .u8 17, .int .u8 4, .int .u8 62, .int .u8 47, .int .u8 59, .int .u8 36, .int .u8 45, .int .u8 43, .int .u8 51, .int .u8 22, .int .u8 53, .int .u8 39, .int .u8 33, .int .u8 30, .int .u8 24, .int .u8 18, .int .u8 12, .int .u8 5, .int .u8 63, .int .u8 55, .int .u8 48, .int .u8 27, .int .u8 60, .int .u8 41, .int .u8 37, .int .u8 16, .int .u8 46, .int .u8 35, .int .u8 44, .int .u8 21, .int .u8 52, .int .u8 32, .int .u8 23, .int .u8 11, .int .u8 54, .int .u8 26, .int .u8 40, .int .u8 15, .int .u8 34, .int .u8 20, .int .u8 31, .int .u8 10, .int .u8 25, .int .u8 14, .int .u8 19, .int .u8 9, .int .u8 13, .int .u8 8, .int .u8 7, .int .u8 6]
def lay (cs : Array Value) : Obj → Obj
  | .cells _ t frozen => .cells cs t frozen
  | o => o
def objs : Array Obj := #[.cells #[.string ⟨#[116, 104, 101, 32, 116, 101, 120, 116, 32, 105, 115, 32, 101, 109, 112, 116, 121, 32, 111, 114, 32, 116, 111, 111, 32, 108, 111, 110, 103]⟩] 173, .cells #[.string ⟨#[116, 104, 101, 32, 108, 105, 110, 101, 32, 104, 97, 115, 32, 110, 111, 32, 110, 101, 119, 108, 105, 110, 101, 32, 98, 101, 104, 105, 110, 100, 32, 105, 116]⟩] 173, .cells #[.string ⟨#[116, 104, 101, 114, 101, 32, 97, 114, 101, 32, 116, 111, 111, 32, 109, 97, 110, 121, 32, 108, 105, 110, 101, 115]⟩] 173, .cells #[.string ⟨#[116, 104, 101, 32, 111, 112, 101, 114, 97, 110, 100, 32, 105, 115, 32, 110, 111, 116, 32, 116, 104, 97, 116, 32, 111, 102, 32, 116, 104, 101, 32, 105, 110, 115, 116, 114, 117, 99, 116, 105, 111, 110]⟩] 173, .cells #[.string ⟨#[116, 104, 101, 32, 108, 105, 110, 101, 32, 98, 101, 103, 105, 110, 115, 32, 119, 105, 116, 104, 32, 110, 111, 32, 105, 110, 115, 116, 114, 117, 99, 116, 105, 111, 110, 39, 115, 32, 119, 111, 114, 100]⟩] 173, .cells #[.string ⟨#[116, 104, 101, 32, 116, 101, 120, 116, 32, 105, 115, 32, 110, 111, 116, 32, 105, 110, 32, 113, 117, 111, 116, 101, 115, 32, 97, 115, 32, 105, 116, 32, 105, 115, 32, 119, 114, 105, 116, 116, 101, 110]⟩] 173, .cells #[.string ⟨#[105, 110, 118, 97, 108, 105, 100, 32, 115, 121, 110, 116, 97, 120]⟩] 173, .cells #[.string ⟨#[118, 97, 108, 117, 101, 32, 111, 117, 116, 32, 111, 102, 32, 114, 97, 110, 103, 101]⟩] 173]
noncomputable def low : Nat := (World.holding Tryz.prog default ⟨#[], #[], []⟩).heap.size
noncomputable def laidWorld (os : Os) : World :=
  { World.holding Tryz.prog os ⟨objs, #[], []⟩ with heap := ((((((((((((((World.holding Tryz.prog os ⟨objs, #[], []⟩).heap.modify 0 (lay cells0)).modify 9 (lay cells1)).modify 12 (lay cells2)).modify 13 (lay cells3)).modify 1 (lay #[.iface 171 (.pointer (some ⟨low + 0, 0, none⟩))])).modify 2 (lay #[.iface 171 (.pointer (some ⟨low + 1, 0, none⟩))])).modify 3 (lay #[.iface 171 (.pointer (some ⟨low + 2, 0, none⟩))])).modify 4 (lay #[.iface 171 (.pointer (some ⟨low + 3, 0, none⟩))])).modify 6 (lay #[.iface 171 (.pointer (some ⟨low + 4, 0, none⟩))])).modify 7 (lay #[.iface 171 (.pointer (some ⟨low + 5, 0, none⟩))])).modify 10 (lay #[.iface 171 (.pointer (some ⟨low + 6, 0, none⟩))])).modify 11 (lay #[.iface 171 (.pointer (some ⟨low + 7, 0, none⟩))])).modify 5 (lay #[.iface 122 (.agg #[.pointer (some ⟨14, 49, none⟩)])])) }
theorem laid_met (os : Os) : laidMetH Tryz.prog Rows.fnProgramRow.laid ((laidWorld os).forCall (fun _ _ => 0) ⟨#[], #[.slice none 0 0], []⟩).memory :=
  laidMetH_of_parts (laidMet_of_run' 8 (by kernel_rfl) (by kernel_rfl)) (by kernel_rfl)
theorem reads (os : Os) {H : Type} (enc : TypeId × Value → H) : ∃ gs places, DataW.whole enc Tryz.prog ((laidWorld os).forCall (fun _ _ => 0) ⟨#[], #[.slice none 0 0], []⟩).memory Tryz.f3.params.toList Rows.fnProgramSpec.vars false #[Value.slice none 0 0].toList 8 = some ([.nil], gs, places) :=
  by
  have h : (DataW.whole enc Tryz.prog ((laidWorld os).forCall (fun _ _ => 0) ⟨#[], #[.slice none 0 0], []⟩).memory Tryz.f3.params.toList Rows.fnProgramSpec.vars false #[Value.slice none 0 0].toList 8).map (fun x => x.1) = some [.nil] := by kernel_rfl
  obtain ⟨⟨a, b, c⟩, hx, he⟩ := Option.map_eq_some_iff.1 h
  have ha : a = [.nil] := he
  subst ha
  exact ⟨b, c, hx⟩

set_option maxRecDepth 100000 in
theorem lifted (os : Os) (started : os.Started) (H : Type) (enc : TypeId × Value → H) (F : Stop.Interp) :
    ReturnsInHanded {} Tryz.checked os 3 .any ((OpenSpec.ofChange Rows.fnProgramSpec).preRow enc Tryz.prog Tryz.f3 Rows.fnProgramRow.domain false Rows.fnProgramRow.laid) (((OpenSpec.ofChange Rows.fnProgramSpec).at F).post enc Tryz.prog Tryz.f3 false true false false) := by
  obtain ⟨gs, places, hx⟩ := reads os enc
  refine returnsInHanded_of_row (C := Tryz.checked) (s := OpenSpec.ofChange Rows.fnProgramSpec) own started (by kernel_rfl) Tryz.func3
    (witness_row_at (enc := enc) (C := Tryz.checked) false (laidWorld os) #[.slice none 0 0] rfl (by kernel_rfl) (by kernel_rfl) (by kernel_rfl)
      (OpenSpec.preRow_of_cond 8 hx (by kernel_rfl) (fun k hk => by cases hk) (by kernel_rfl) (laid_met os))) ?_
  intro W base args ds gs before hval hW _ _ _ hL hSh _
  exact contract H enc W base args ds gs before hval hW hL hSh

theorem said : Rows.FnProgramSaid :=
  OpenClaim.holds_of_cond 3 Tryz.f3 rfl rfl rfl rfl rfl rfl rfl ⟨rfl, rfl, rfl, rfl, rfl⟩ rfl rfl rfl rfl rfl (by kernel_rfl) Tryz.func3 (by kernel_rfl)
    (of_decide_eq_true (by kernel_rfl)) (by unfold Func.isWrapper; first | (rw [if_pos (by decide +kernel)]; kernel_rfl) | (rw [if_neg (by decide +kernel)]; exact ⟨rfl, rfl⟩))
    (fun os started H enc _ F => by rw [OpenClaim.pre_eq_preRow]; exact lifted os started H enc F)

theorem plain (f : FuncId) (fn : Func) (hf : Tryz.pinned.checked.prog.funcNamed "loop.example/kilntrace/laws.FnProgram" = some f) (hfn : Tryz.pinned.checked.prog.funcs[f]? = some fn) :
    true = Tryz.pinned.checked.prog.looks [] ∧ ∀ (j : Nat) t, fn.params[j]? = some t → Tryz.pinned.checked.prog.wantsStandIn t = false := by
  obtain rfl : f = 3 := Option.some.inj ((show Tryz.prog.funcNamed "loop.example/kilntrace/laws.FnProgram" = some 3 by kernel_rfl).symm.trans hf) |>.symm
  obtain rfl : fn = Tryz.f3 := (Option.some.inj (Tryz.func3.symm.trans hfn)).symm
  refine ⟨by kernel_rfl, fun j t ht => ?_⟩
  rw [Tryz.params3] at ht
  obtain rfl : t = 22 := by simpa using Array.mem_of_getElem? ht
  exact (show Tryz.prog.wantsStandIn 22 = false by kernel_rfl)

theorem card : Rows.FnProgramCardSaid :=
  Claim7.holds_tied_plain_at .later [] _ _ _ _ said (fun _ h => by cases h) (by kernel_rfl) (fun _ h => by cases h) fnProgram_row_tie rfl ⟨rfl, rfl⟩ (by kernel_rfl) rfl plain (by kernel_rfl)
end Go.Proofs.YtmcafdobfmheaaaGreatDoor.programCard
namespace Go.Proofs.YtmcafdobfmheaaaGreatDoor
theorem fnProgram_card : Rows.FnProgramCardSaid := programCard.card
#print axioms fnProgram_card
end Go.Proofs.YtmcafdobfmheaaaGreatDoor
