import Derived.Test.YtjlnkepkkdefdaaGreatDoorCards
import Derived.Test.YtjlnkepkkdefdaaGreatDoorTie
import Derived.Test.YtjlnkepkkdefdaaGreatDoorVoL
import Derived.WalkKit
import Derived.OpenVars
import Derived.MakeChecks
import Derived.LaidSub
import Derived.Deep.Slices
import Derived.Deep.Strs
import Derived.ProofKit
import Derived.OpenShut
import Derived.ShutString
import Derived.ChangeOld
import Derived.Below
import Derived.Deep.DeepHandedRow
import Derived.Lib.LaidTab
namespace Go.Proofs.YtjlnkepkkdefdaaGreatDoor.vouchCard
open Go.ChangeShapes Go.WideShapes Go.ChangeAt Go.RowKit Go.Deep
set_option linter.unusedVariables false
theorem cz3 : Tryz.prog.cellsOf 3 = 1 := by kernel_rfl
theorem cz9 : Tryz.prog.cellsOf 9 = 1 := by kernel_rfl
theorem cz151 : Tryz.prog.cellsOf 151 = 3 := by kernel_rfl
theorem row_of (o : Nat) (ho : o < 16) : ∃ L : List (DataW Unit), (Rows.laid_loop_example_kilntrace_impl_opKinds : DataW Unit) = .agg L /\ L.length = 16 /\ L[o]? = some (.agg [.lit (.string (words.getD o [])), .lit (.int .i64 (Ga o)), .lit (.int .i64 (Fo.getD o 0))]) := by
 refine ⟨_, rfl, rfl, ?_⟩
 rcases (show o = 0 \/ o = 1 \/ o = 2 \/ o = 3 \/ o = 4 \/ o = 5 \/ o = 6 \/ o = 7 \/ o = 8 \/ o = 9 \/ o = 10 \/ o = 11 \/ o = 12 \/ o = 13 \/ o = 14 \/ o = 15 from by omega) with rfl | rfl | rfl | rfl | rfl | rfl | rfl | rfl | rfl | rfl | rfl | rfl | rfl | rfl | rfl | rfl <;> rfl
theorem tab_of_laid {W : World} (h : laidMetH Tryz.prog [("loop.example/kilntrace/impl.opKinds", Rows.laid_loop_example_kilntrace_impl_opKinds)] W) : Jr W := by
 rw [MakeChecks.laidMetH_plain _ _ _ (by kernel_rfl)] at h
 obtain ⟨ps, ⟨g, t, cs, fuel, p, q, hg, ht, hv, hd, _, _⟩, _, _⟩ := h
 obtain rfl := Option.some.inj ((show Tryz.prog.globalNamed "loop.example/kilntrace/impl.opKinds" = some 0 by kernel_rfl).symm.trans hg)
 obtain rfl := Option.some.inj ((show (Tryz.prog.globals[0]?).map (·.type) = some 152 by kernel_rfl).symm.trans ht)
 obtain ⟨xs, m, _, ex, hlen, hl, hel⟩ := DataW.trod_array Tryz.underlying152 hd
 intro o ho
 obtain ⟨L, hL, hLl, hLo⟩ := row_of o ho
 have e1 : L = xs.map (·.1) := by
  have := (Prod.mk.inj ex).1
  rw [hL] at this
  exact DataW.agg.inj this
 have hxo : o < xs.length := by omega
 have k := hel o ho
 rw [cz151, List.getElem?_eq_getElem hxo] at k
 have e2 : xs[o].1 = .agg [.lit (.string (words.getD o [])), .lit (.int .i64 (Ga o)), .lit (.int .i64 (Fo.getD o 0))] := by
  rw [e1, List.getElem?_map, List.getElem?_eq_getElem hxo] at hLo
  simpa using hLo
 obtain ⟨y0, y1, y2, n, he, hl3, h0, h1, h2⟩ := trod_struct3 Tryz.underlying151 k
 rw [cz151] at hl3
 simp only [cz3, cz9] at h0 h1 h2
 have e3 : [y0.1, y1.1, y2.1] = [.lit (.string (words.getD o [])), .lit (.int .i64 (Ga o)), .lit (.int .i64 (Fo.getD o 0))] := by
  have : xs[o].1 = .agg [y0.1, y1.1, y2.1] := by rw [he]
  rw [e2] at this
  exact (DataW.agg.inj this).symm
 simp only [List.cons.injEq, and_true] at e3
 obtain ⟨a0, a1, a2⟩ := e3
 obtain ⟨s, c0, d0, _⟩ := DataW.trod_string Tryz.underlying9 h0
 obtain ⟨z1, c1, d1, _⟩ := DataW.trod_int Tryz.underlying3 h1
 obtain ⟨z2, c2, d2, _⟩ := DataW.trod_int Tryz.underlying3 h2
 have hcell := fun j => World.var?_cell (show Tryz.prog.globalNamed "loop.example/kilntrace/impl.opKinds" = some 0 by kernel_rfl) hv j
 rw [d0] at a0; rw [d1] at a1; rw [d2] at a2
 simp only [DataW.lit.injEq, Lit.string.injEq, Lit.int.injEq, true_and] at a0 a1 a2
 have hs : s = wordB o := bytes_inj (by rw [a0]; simp [wordB])
 have f : ∀ j, j < 3 -> cs[o * 3 + j]? = (((cs.toList.drop (o * 3)).take 3))[j]? := by
  intro j hj
  rw [List.getElem?_take, if_pos hj, List.getElem?_drop, Array.getElem?_toList]
 have g0 : cs[o * 3 + 0]? = some (.string s) := by
  rw [f 0 (by omega)]
  have := congrArg (fun l => l[0]?) c0
  simpa [List.getElem?_take, List.getElem?_drop] using this
 have g1 : cs[o * 3 + 1]? = some (.int .i64 z1) := by
  rw [f 1 (by omega)]
  have := congrArg (fun l => l[0]?) c1
  simpa [List.getElem?_take, List.getElem?_drop] using this
 have g2 : cs[o * 3 + 2]? = some (.int .i64 z2) := by
  rw [f 2 (by omega)]
  have := congrArg (fun l => l[0]?) c2
  simpa [List.getElem?_take, List.getElem?_drop] using this
 exact ⟨by rw [hcell]; simpa [hs] using g0, by rw [hcell, g1, a1], by rw [hcell, g2, a2]⟩
theorem laid_tab : Rows.fnVouchRow.laid.filter (fun x => x.1 == "loop.example/kilntrace/impl.opKinds") = [("loop.example/kilntrace/impl.opKinds", Rows.laid_loop_example_kilntrace_impl_opKinds)] := rfl
theorem p10_of_laid {W : World} (h : laidMetH Tryz.prog [("internal/strconv.uint64pow10", Rows.laid_internal_strconv_uint64pow10)] W) : Ld W := by
 rw [MakeChecks.laidMetH_plain _ _ _ (by kernel_rfl)] at h
 exact Lib.tabIs_of_head (g := 1) (t := 197) (e := 87) (n := 20) (by kernel_rfl) (by kernel_rfl) (by kernel_rfl) (by kernel_rfl) (by kernel_rfl) (by kernel_rfl) h
theorem laid_p10 : Rows.fnVouchRow.laid.filter (fun x => x.1 == "internal/strconv.uint64pow10") = [("internal/strconv.uint64pow10", Rows.laid_internal_strconv_uint64pow10)] := rfl
theorem own : ownKnob Tryz.prog.godebug = none := by kernel_rfl
theorem laidOut : laidOutB Tryz.prog = true := by kernel_rfl
def IsRow (k : IntKind) (w : World) (a : Option Addr) (len cap : Nat) (zs : List Int) : Prop :=
 (a = none /\ len = 0 /\ cap = 0 /\ zs = []) ∨
 ∃ x, a = some x /\ len <= cap /\ cap <= maxLen /\ zs.length = cap /\ (∀ i, i < zs.length -> w.cell? (x.add i) = some (.int k (zs.getD i 0))) /\ ∀ n ∈ zs, (Lit.int k n).wf = true
theorem bytes_of_row {w : World} {a : Option Addr} {len cap : Nat} {zs : List Int} (h : IsRow .u8 w a len cap zs) : Tl w a len /\ len <= cap /\ len <= maxLen := by
 rcases h with ⟨rfl, rfl, rfl, rfl⟩ | ⟨x, rfl, hl, hm, hz, hcell, hwz⟩
 ·exact ⟨fun i hi => by omega, Nat.le_refl _, by simp [maxLen]⟩
 ·refine ⟨fun i hi => ?_, hl, by omega⟩
  obtain ⟨b, off, spot⟩ := x
  have hspot : spot = none := by simpa [Addr.add] using World.cell?_spot (hcell 0 (by omega))
  subst hspot
  have hc := hcell i (by omega)
  rw [Addr.add_lit] at hc
  have hmem : zs.getD i 0 ∈ zs := by
   rw [List.getD_eq_getElem?_getD, List.getElem?_eq_getElem (show i < zs.length by omega)]
   exact List.getElem_mem _
  have hb := bounds_u8 (hwz _ hmem)
  exact ⟨b, off, _, rfl, hc, hb.1, hb.2⟩
set_option maxRecDepth 100000 in
theorem contract (H : Type) (enc : TypeId × Value -> H) (W : World) (base : Nat) (args : Array Value) (ds gs : List (DataW H)) (before : List MemPlace)
  (hval : ∀ (j : Nat) t v, Tryz.f3.params[j]? = some t -> args[j]? = some v -> Value.okWide Tryz.prog W .any base t v)
  (hW : DataW.Whole enc Tryz.prog Tryz.f3.params.toList Rows.fnVouchSpec.vars false W args.toList ds gs before) (hL : laidMetH Tryz.prog Rows.fnVouchRow.laid W) :
  Calls Tryz.prog 3 args W fun e W' => ∃ v, e = .returned v /\ Rows.fnVouchSpec.post enc Tryz.prog Tryz.f3 false true false false W args v W' := by
 have hW' := hW
 obtain ⟨p, q, hA0, hV, rfl, hfz, hnd⟩ := hW
 have hA : DataW.TrodAll enc Tryz.prog W 0 (fun _ => true) true Tryz.f3.params.toList args.toList ds p := hA0
 rw [Tryz.params3] at hA hval
 obtain ⟨v0, vs0, d0, ds0, p0, q0, hargs, rfl, rfl, h0, r0⟩ := trodAll_cons hA
 obtain ⟨rfl, rfl, rfl⟩ := trodAll_nil r0
 obtain rfl : args = #[v0] := by cases args; simp_all
 obtain ⟨a0, len0, cap0, rfl⟩ := okWide_slice Tryz.underlying22 (hval 0 22 v0 rfl rfl)
 have k0 := h0
 have lt0 : ∀ x ∈ p0, x.block < W.heap.size := by obtain ⟨m, hm⟩ := k0; exact DataW.trod_lt m _ _ _ hm
 obtain ⟨z0, w0⟩ : ∃ zs, IsRow .u8 W a0 len0 cap0 zs := by
  obtain ⟨fuel, hf⟩ := h0
  rcases open_ints Tryz.underlying22 Tryz.underlying5 (by kernel_rfl) hf with ⟨hcs, _⟩ | ⟨x, l, c, zs, hcs, _, hl, hm, hz, _, hcell, hwz⟩
  ·simp [Value.cells] at hcs
   obtain ⟨rfl, rfl, rfl⟩ := hcs
   exact ⟨[], .inl ⟨rfl, rfl, rfl, rfl⟩⟩
  ·simp [Value.cells] at hcs
   obtain ⟨rfl, rfl, rfl⟩ := hcs
   exact ⟨zs, .inr ⟨_, rfl, hl, hm, by simpa using hz, hcell, hwz⟩⟩
 obtain ⟨hby, hlc, hlm⟩ := bytes_of_row w0
 clear hA0
 obtain ⟨g1, rfl⟩ : ∃ g1, gs = [g1] := by
  obtain ⟨g, t, cs, fuel, d, p, rfl, _⟩ := trodVars_one hV
  exact ⟨d, rfl⟩
 refine (fnVouchLaw a0 len0 cap0 W (tab_of_laid (laid_tab ▸ hL.filter _)) (p10_of_laid (laid_p10 ▸ hL.filter _)) hby hlc).mono fun e W' ⟨he, bel⟩ => ?_
 subst he
 exact ⟨_, rfl, _, _, _, [], _, q, hW', trodAll_mk1 (shut_bool Tryz.underlying4 _), (trodAll_cons_mk (Below.trod laidOut (by kernel_rfl) (of_decide_eq_true (by kernel_rfl)) k0 bel lt0) trodAll_mk0), bel.trodVars laidOut (by kernel_rfl) hV, bel.frame _, fun h => by cases h⟩
def cells0 : Array Value := #[.string ⟨#[]⟩, .int .i64 0, .int .i64 0, .string ⟨#[108, 105, 116]⟩, .int .i64 1, .int .i64 0, .string ⟨#[99, 97, 116]⟩, .int .i64 0, .int .i64 2, .string ⟨#[99, 117, 116]⟩, .int .i64 2, .int .i64 1, .string ⟨#[114, 101, 115, 116]⟩, .int .i64 2, .int .i64 1, .string ⟨#[119, 111, 114, 100]⟩, .int .i64 2, .int .i64 1, .string ⟨#[115, 97, 109, 101]⟩, .int .i64 0, .int .i64 2, .string ⟨#[100, 117, 112]⟩, .int .i64 0, .int .i64 1, .string ⟨#[115, 119, 97, 112]⟩, .int .i64 0, .int .i64 2, .string ⟨#[100, 114, 111, 112]⟩, .int .i64 0, .int .i64 1, .string ⟨#[106, 117, 109, 112]⟩, .int .i64 3, .int .i64 0, .string ⟨#[117, 110, 108, 101, 115, 115]⟩, .int .i64 3, .int .i64 1, .string ⟨#[97, 115, 107]⟩, .int .i64 0, .int .i64 1, .string ⟨#[104, 97, 115]⟩, .int .i64 0, .int .i64 1, .string ⟨#[102, 97, 105, 108]⟩, .int .i64 0, .int .i64 1, .string ⟨#[101, 110, 100]⟩, .int .i64 0, .int .i64 1]
def cells1 : Array Value := #[.int .u64 1, .int .u64 10, .int .u64 100, .int .u64 1000, .int .u64 10000, .int .u64 100000, .int .u64 1000000, .int .u64 10000000, .int .u64 100000000, .int .u64 1000000000, .int .u64 10000000000, .int .u64 100000000000, .int .u64 1000000000000, .int .u64 10000000000000, .int .u64 100000000000000, .int .u64 1000000000000000, .int .u64 10000000000000000, .int .u64 100000000000000000, .int .u64 1000000000000000000, .int .u64 10000000000000000000]
def cells2 : Array Value := #[.int .u8 0, .int .u8 1, .int .u8 28, .int .u8 2, .int .u8 29, .int .u8 14, .int .u8 24, .int .u8 3, .int .u8 30, .int .u8 22, .int .u8 20, .int .u8 15, .int .u8 25, .int .u8 17, .int .u8 4, .int .u8 8, .int .u8 31, .int .u8 27, .int .u8 13, .int .u8 23, .int .u8 21, .int .u8 19, .int .u8 16, .int .u8 7, .int .u8 26, .int .u8 12, .int .u8 18, .int .u8 6, .int .u8 11, .int .u8 5, .int .u8 10, .int .u8 9]
def cells3 : Array Value := #[.int .u8 0, .int .u8 1, .int .u8 56, .int .u8 2, .int .u8 57, .int .u8 49, .int .u8 28, .int .u8 3, .int .u8 61, .int .u8 58, .int .u8 42, .int .u8 50, .int .u8 38, .int .u8 29, .int .u8 17, .int .u8 4, .int .u8 62, .int .u8 47, .int .u8 59, .int .u8 36, .int .u8 45, .int .u8 43, .int .u8 51, .int .u8 22, .int .u8 53, .int .u8 39, .int .u8 33, .int .u8 30, .int .u8 24, .int .u8 18, .int .u8 12, .int .u8 5, .int .u8 63, .int .u8 55, .int .u8 48, .int .u8 27, .int .u8 60, .int .u8 41, .int .u8 37, .int .u8 16, .int .u8 46, .int .u8 35, .int .u8 44, .int .u8 21, .int .u8 52, .int .u8 32, .int .u8 23, .int .u8 11, .int .u8 54, .int .u8 26, .int .u8 40, .int .u8 15, .int .u8 34, .int .u8 20, .int .u8 31, .int .u8 10, .int .u8 25, .int .u8 14, .int .u8 19, .int .u8 9, .int .u8 13, .int .u8 8, .int .u8 7, .int .u8 6]
def lay (cs : Array Value) : Obj -> Obj
 | .cells _ t frozen => .cells cs t frozen
 | o => o
noncomputable def laidWorld (os : Go.Os) : World :=
 { World.holding Tryz.prog os ⟨#[], #[], []⟩ with heap := ((((World.holding Tryz.prog os ⟨#[], #[], []⟩).heap.modify 0 (lay cells0)).modify 1 (lay cells1)).modify 2 (lay cells2)).modify 3 (lay cells3) }
theorem laid_met (os : Go.Os) : laidMetH Tryz.prog Rows.fnVouchRow.laid ((laidWorld os).forCall (fun _ _ => 0) ⟨#[], #[.slice none 0 0], []⟩).memory :=
 laidMetH_of_parts (laidMet_of_run' 8 (by kernel_rfl) (by kernel_rfl)) (by kernel_rfl)
theorem reads (os : Go.Os) {H : Type} (enc : TypeId × Value -> H) : ∃ gs places, DataW.whole enc Tryz.prog ((laidWorld os).forCall (fun _ _ => 0) ⟨#[], #[.slice none 0 0], []⟩).memory Tryz.f3.params.toList Rows.fnVouchSpec.vars false #[Value.slice none 0 0].toList 8 = some ([.nil], gs, places) :=
 by
 have h : (DataW.whole enc Tryz.prog ((laidWorld os).forCall (fun _ _ => 0) ⟨#[], #[.slice none 0 0], []⟩).memory Tryz.f3.params.toList Rows.fnVouchSpec.vars false #[Value.slice none 0 0].toList 8).map (fun x => x.1) = some [.nil] := by kernel_rfl
 obtain ⟨⟨a, b, c⟩, hx, he⟩ := Option.map_eq_some_iff.1 h
 have ha : a = [.nil] := he
 subst ha
 exact ⟨b, c, hx⟩
set_option maxRecDepth 100000 in
theorem lifted (os : Go.Os) (started : os.Started) (H : Type) (enc : TypeId × Value -> H) (F : Stop.Interp) :
  ReturnsInHanded {} Tryz.checked os 3 .any ((OpenSpec.ofChange Rows.fnVouchSpec).preRow enc Tryz.prog Tryz.f3 Rows.fnVouchRow.domain false Rows.fnVouchRow.laid) (((OpenSpec.ofChange Rows.fnVouchSpec).at F).post enc Tryz.prog Tryz.f3 false true false false) := by
 obtain ⟨gs, places, hx⟩ := reads os enc
 refine returnsInHanded_of_row (C := Tryz.checked) (s := OpenSpec.ofChange Rows.fnVouchSpec) own started (by kernel_rfl) Tryz.func3
  (witness_row_at (enc := enc) (C := Tryz.checked) false (laidWorld os) #[.slice none 0 0] rfl (by kernel_rfl) (by kernel_rfl) (by kernel_rfl)
   (OpenSpec.preRow_of_cond 8 hx (by kernel_rfl) (fun k hk => by cases hk) (by kernel_rfl) (laid_met os))) ?_
 intro W base args ds gs before hval hW _ _ _ hL _ _
 exact contract H enc W base args ds gs before hval hW hL
theorem said : Rows.FnVouchSaid :=
 OpenClaim.holds_of_cond 3 Tryz.f3 rfl rfl rfl rfl rfl rfl rfl ⟨rfl, rfl, rfl, rfl, rfl⟩ rfl rfl rfl rfl rfl (by kernel_rfl) Tryz.func3 (by kernel_rfl)
  (of_decide_eq_true (by kernel_rfl)) (by unfold Func.isWrapper; first | (rw [if_pos (by decide +kernel)]; kernel_rfl) | (rw [if_neg (by decide +kernel)]; exact ⟨rfl, rfl⟩))
  (fun os started H enc _ F => by rw [OpenClaim.pre_eq_preRow]; exact lifted os started H enc F)
theorem plain (f : FuncId) (fn : Func) (hf : Tryz.pinned.checked.prog.funcNamed "loop.example/kilntrace/laws.FnVouch" = some f) (hfn : Tryz.pinned.checked.prog.funcs[f]? = some fn) :
  true = Tryz.pinned.checked.prog.looks [] /\ ∀ (j : Nat) t, fn.params[j]? = some t -> Tryz.pinned.checked.prog.wantsStandIn t = false := by
 obtain rfl : f = 3 := Option.some.inj ((show Tryz.prog.funcNamed "loop.example/kilntrace/laws.FnVouch" = some 3 by kernel_rfl).symm.trans hf) |>.symm
 obtain rfl : fn = Tryz.f3 := (Option.some.inj (Tryz.func3.symm.trans hfn)).symm
 refine ⟨by kernel_rfl, fun j t ht => ?_⟩
 rw [Tryz.params3] at ht
 have hm := Array.mem_of_getElem? ht
 simp at hm
 subst hm
 exact (show Tryz.prog.wantsStandIn 22 = false by kernel_rfl)
theorem card : Rows.FnVouchCardSaid :=
 Claim7.holds_tied_plain_at .later [] _ _ _ _ said (fun _ h => by cases h) (by kernel_rfl) (fun _ h => by cases h) fnVouch_row_tie rfl ⟨rfl, rfl⟩ (by kernel_rfl) rfl plain (by kernel_rfl)
end Go.Proofs.YtjlnkepkkdefdaaGreatDoor.vouchCard
namespace Go.Proofs.YtjlnkepkkdefdaaGreatDoor
theorem fnVouch_card : Rows.FnVouchCardSaid := vouchCard.card
#print axioms fnVouch_card
end Go.Proofs.YtjlnkepkkdefdaaGreatDoor
