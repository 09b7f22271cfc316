/-
  NARROWER THAN 'FOR EVERY INPUT', by the rows' own cells (each row's printed sentence says how): FnExactValidStore: laid · FnExactPutSource: laid · FnExactGetText: laid · FnExactPutTarget: laid · FnExactDrop: laid · FnExactNote: laid.
  DERIVED. THE GIVEN ROWS OF THIS SEAT. 6 by the template 'for every input the law returns true; each argument reads behind the call as it read before'; 0 by the template 'total and deterministic' (their statements: YtmeojnaoljgieacDoorTotals.lean).
  GIVEN WITH THE SEED: the statements are not yours to turn. If you find one false, say at which input.
  Laid BY PROGRAM, IN A SANDBOX (cutbox-rows.mjs): the forced cells as the released guide's own fill.sh prints them over the translation 171c9cf00bdb1d61… (all of the seat's roots in one cut). By AI agents, Wed Nov 11 2026. No macro, syntax, notation, axiom, sorry.
-/
import Derived.Test.YtmeojnaoljgieacDoorChecked
import GoSem.Claim
import GoSem.ClaimJoined
import GoSem.ClaimMapViews
import Derived.JoinedTies
import Derived.KernelRfl
namespace Go.Proofs.YtmeojnaoljgieacDoor
/- THE CELL 'sum', in the pinned program and in every row, IS THE sha256 OF THE DUMP (.gsa) THAT YtmeojnaoljgieacDoorProg.lean LOADS. Nothing in Lean hashes anything: it is a label: what it is worth is what the hold of that sum in a sandbox is worth. -/
noncomputable def Tryd.pinned : Pinned := { name := "ytmeojnaoljgieacdoor", sum := "171c9cf00bdb1d6166fa0aa3cfd823bf96b1e227a3878ebe52f22ca90b0047fb", checked := Tryd.checked }
namespace Rows
def none {H : Type} : Left H := { results := [], args := [] }

/- WHAT THE LISTED PACKAGE-LEVEL VARIABLES READ AS WHEN THE CALL BEGINS. Each datum BY PROGRAM (the guide's laid-datum.mjs) off the statement by which the dump's own 'gosem.cut.vars' lays the variable. In a bare row this is a premise. The card (YtmeojnaoljgieacDoorCards.lean) ties it to the program's text. -/
def laid_loop_example_kilntrace_impl_opKinds {H : Type} : DataW H := .agg [.agg [.lit (.string []), .lit (.int .i64 0), .lit (.int .i64 0)], .agg [.lit (.string [108, 105, 116]), .lit (.int .i64 1), .lit (.int .i64 0)], .agg [.lit (.string [99, 97, 116]), .lit (.int .i64 0), .lit (.int .i64 2)], .agg [.lit (.string [99, 117, 116]), .lit (.int .i64 2), .lit (.int .i64 1)], .agg [.lit (.string [114, 101, 115, 116]), .lit (.int .i64 2), .lit (.int .i64 1)], .agg [.lit (.string [119, 111, 114, 100]), .lit (.int .i64 2), .lit (.int .i64 1)], .agg [.lit (.string [115, 97, 109, 101]), .lit (.int .i64 0), .lit (.int .i64 2)], .agg [.lit (.string [100, 117, 112]), .lit (.int .i64 0), .lit (.int .i64 1)], .agg [.lit (.string [115, 119, 97, 112]), .lit (.int .i64 0), .lit (.int .i64 2)], .agg [.lit (.string [100, 114, 111, 112]), .lit (.int .i64 0), .lit (.int .i64 1)], .agg [.lit (.string [106, 117, 109, 112]), .lit (.int .i64 3), .lit (.int .i64 0)], .agg [.lit (.string [117, 110, 108, 101, 115, 115]), .lit (.int .i64 3), .lit (.int .i64 1)], .agg [.lit (.string [97, 115, 107]), .lit (.int .i64 0), .lit (.int .i64 1)], .agg [.lit (.string [104, 97, 115]), .lit (.int .i64 0), .lit (.int .i64 1)], .agg [.lit (.string [102, 97, 105, 108]), .lit (.int .i64 0), .lit (.int .i64 1)], .agg [.lit (.string [101, 110, 100]), .lit (.int .i64 0), .lit (.int .i64 1)]]
def laid_math_bits_deBruijn32tab {H : Type} : DataW H := .agg [.lit (.int .u8 0), .lit (.int .u8 1), .lit (.int .u8 28), .lit (.int .u8 2), .lit (.int .u8 29), .lit (.int .u8 14), .lit (.int .u8 24), .lit (.int .u8 3), .lit (.int .u8 30), .lit (.int .u8 22), .lit (.int .u8 20), .lit (.int .u8 15), .lit (.int .u8 25), .lit (.int .u8 17), .lit (.int .u8 4), .lit (.int .u8 8), .lit (.int .u8 31), .lit (.int .u8 27), .lit (.int .u8 13), .lit (.int .u8 23), .lit (.int .u8 21), .lit (.int .u8 19), .lit (.int .u8 16), .lit (.int .u8 7), .lit (.int .u8 26), .lit (.int .u8 12), .lit (.int .u8 18), .lit (.int .u8 6), .lit (.int .u8 11), .lit (.int .u8 5), .lit (.int .u8 10), .lit (.int .u8 9)]
def laid_math_bits_deBruijn64tab {H : Type} : DataW H := .agg [.lit (.int .u8 0), .lit (.int .u8 1), .lit (.int .u8 56), .lit (.int .u8 2), .lit (.int .u8 57), .lit (.int .u8 49), .lit (.int .u8 28), .lit (.int .u8 3), .lit (.int .u8 61), .lit (.int .u8 58), .lit (.int .u8 42), .lit (.int .u8 50), .lit (.int .u8 38), .lit (.int .u8 29), .lit (.int .u8 17), .lit (.int .u8 4), .lit (.int .u8 62), .lit (.int .u8 47), .lit (.int .u8 59), .lit (.int .u8 36), .lit (.int .u8 45), .lit (.int .u8 43), .lit (.int .u8 51), .lit (.int .u8 22), .lit (.int .u8 53), .lit (.int .u8 39), .lit (.int .u8 33), .lit (.int .u8 30), .lit (.int .u8 24), .lit (.int .u8 18), .lit (.int .u8 12), .lit (.int .u8 5), .lit (.int .u8 63), .lit (.int .u8 55), .lit (.int .u8 48), .lit (.int .u8 27), .lit (.int .u8 60), .lit (.int .u8 41), .lit (.int .u8 37), .lit (.int .u8 16), .lit (.int .u8 46), .lit (.int .u8 35), .lit (.int .u8 44), .lit (.int .u8 21), .lit (.int .u8 52), .lit (.int .u8 32), .lit (.int .u8 23), .lit (.int .u8 11), .lit (.int .u8 54), .lit (.int .u8 26), .lit (.int .u8 40), .lit (.int .u8 15), .lit (.int .u8 34), .lit (.int .u8 20), .lit (.int .u8 31), .lit (.int .u8 10), .lit (.int .u8 25), .lit (.int .u8 14), .lit (.int .u8 19), .lit (.int .u8 9), .lit (.int .u8 13), .lit (.int .u8 8), .lit (.int .u8 7), .lit (.int .u8 6)]
def laid_internal_strconv_uint64pow10 {H : Type} : DataW H := .agg [.lit (.int .u64 1), .lit (.int .u64 10), .lit (.int .u64 100), .lit (.int .u64 1000), .lit (.int .u64 10000), .lit (.int .u64 100000), .lit (.int .u64 1000000), .lit (.int .u64 10000000), .lit (.int .u64 100000000), .lit (.int .u64 1000000000), .lit (.int .u64 10000000000), .lit (.int .u64 100000000000), .lit (.int .u64 1000000000000), .lit (.int .u64 10000000000000), .lit (.int .u64 100000000000000), .lit (.int .u64 1000000000000000), .lit (.int .u64 10000000000000000), .lit (.int .u64 100000000000000000), .lit (.int .u64 1000000000000000000), .lit (.int .u64 10000000000000000000)]

/-- 'laws.FnExactValidStore': WHATEVER THE INPUT: true; the input reads as it did. -/
def fnExactValidStoreSpec : ChangeSpec := { name := "fnExactValidStore", vars := ["loop.example/kilntrace/impl.opKinds"], fn := fun _ => fun
  | [d, g1] => { results := [.lit (.bool true)], args := [d], vars := [g1] }
  | _ => none }
def fnExactValidStoreRow : OpenClaim := { program := "ytmeojnaoljgieacdoor", sum := "171c9cf00bdb1d6166fa0aa3cfd823bf96b1e227a3878ebe52f22ca90b0047fb", func := "loop.example/kilntrace/laws.FnExactValidStore", spec := "fnExactValidStore", named := ["loop.example/kilntrace/impl.opKinds"], apart := false, laid := [("loop.example/kilntrace/impl.opKinds", laid_loop_example_kilntrace_impl_opKinds)] }
def FnExactValidStoreSaid : Prop := fnExactValidStoreRow.holds Tryd.pinned (OpenSpec.ofChange fnExactValidStoreSpec)

/-- ITS FALSE NEIGHBOUR: 'it returns false'. Refute it at one input. -/
def fnExactValidStoreWrong : ChangeSpec := { name := "fnExactValidStore", vars := ["loop.example/kilntrace/impl.opKinds"], fn := fun _ => fun
  | [d, g1] => { results := [.lit (.bool false)], args := [d], vars := [g1] }
  | _ => none }
def FnExactValidStoreWrongFalsely : Prop := fnExactValidStoreRow.holds Tryd.pinned (OpenSpec.ofChange fnExactValidStoreWrong)

/-- 'laws.FnExactPutSource': WHATEVER THE INPUT: true; the input reads as it did. -/
def fnExactPutSourceSpec : ChangeSpec := { name := "fnExactPutSource", vars := ["loop.example/kilntrace/impl.opKinds"], fn := fun _ => fun
  | [d1, d2, d3, g1] => { results := [.lit (.bool true)], args := [d1, d2, d3], vars := [g1] }
  | _ => none }
def fnExactPutSourceRow : OpenClaim := { program := "ytmeojnaoljgieacdoor", sum := "171c9cf00bdb1d6166fa0aa3cfd823bf96b1e227a3878ebe52f22ca90b0047fb", func := "loop.example/kilntrace/laws.FnExactPutSource", spec := "fnExactPutSource", inPlace := ["internal/bytealg.abigen_runtime_cmpstring", "slices.overlaps[loop.example/kilntrace/impl.Source]"], unfollowed := true, recurses := true, named := ["loop.example/kilntrace/impl.opKinds"], apart := false, laid := [("loop.example/kilntrace/impl.opKinds", laid_loop_example_kilntrace_impl_opKinds)] }
def FnExactPutSourceSaid : Prop := fnExactPutSourceRow.holds Tryd.pinned (OpenSpec.ofChange fnExactPutSourceSpec)

/-- ITS FALSE NEIGHBOUR: 'it returns false'. Refute it at one input. -/
def fnExactPutSourceWrong : ChangeSpec := { name := "fnExactPutSource", vars := ["loop.example/kilntrace/impl.opKinds"], fn := fun _ => fun
  | [d1, d2, d3, g1] => { results := [.lit (.bool false)], args := [d1, d2, d3], vars := [g1] }
  | _ => none }
def FnExactPutSourceWrongFalsely : Prop := fnExactPutSourceRow.holds Tryd.pinned (OpenSpec.ofChange fnExactPutSourceWrong)

/-- 'laws.FnExactGetText': WHATEVER THE INPUT: true; the input reads as it did. -/
def fnExactGetTextSpec : ChangeSpec := { name := "fnExactGetText", vars := ["loop.example/kilntrace/impl.opKinds"], fn := fun _ => fun
  | [d1, d2, g1] => { results := [.lit (.bool true)], args := [d1, d2], vars := [g1] }
  | _ => none }
def fnExactGetTextRow : OpenClaim := { program := "ytmeojnaoljgieacdoor", sum := "171c9cf00bdb1d6166fa0aa3cfd823bf96b1e227a3878ebe52f22ca90b0047fb", func := "loop.example/kilntrace/laws.FnExactGetText", spec := "fnExactGetText", named := ["loop.example/kilntrace/impl.opKinds"], apart := false, laid := [("loop.example/kilntrace/impl.opKinds", laid_loop_example_kilntrace_impl_opKinds)] }
def FnExactGetTextSaid : Prop := fnExactGetTextRow.holds Tryd.pinned (OpenSpec.ofChange fnExactGetTextSpec)

/-- ITS FALSE NEIGHBOUR: 'it returns false'. Refute it at one input. -/
def fnExactGetTextWrong : ChangeSpec := { name := "fnExactGetText", vars := ["loop.example/kilntrace/impl.opKinds"], fn := fun _ => fun
  | [d1, d2, g1] => { results := [.lit (.bool false)], args := [d1, d2], vars := [g1] }
  | _ => none }
def FnExactGetTextWrongFalsely : Prop := fnExactGetTextRow.holds Tryd.pinned (OpenSpec.ofChange fnExactGetTextWrong)

/-- 'laws.FnExactPutTarget': WHATEVER THE INPUT: true; the input reads as it did. -/
def fnExactPutTargetSpec : ChangeSpec := { name := "fnExactPutTarget", vars := ["loop.example/kilntrace/impl.opKinds"], fn := fun _ => fun
  | [d1, d2, d3, g1] => { results := [.lit (.bool true)], args := [d1, d2, d3], vars := [g1] }
  | _ => none }
def fnExactPutTargetRow : OpenClaim := { program := "ytmeojnaoljgieacdoor", sum := "171c9cf00bdb1d6166fa0aa3cfd823bf96b1e227a3878ebe52f22ca90b0047fb", func := "loop.example/kilntrace/laws.FnExactPutTarget", spec := "fnExactPutTarget", inPlace := ["internal/bytealg.abigen_runtime_cmpstring", "slices.overlaps[loop.example/kilntrace/impl.Target]"], unfollowed := true, recurses := true, named := ["loop.example/kilntrace/impl.opKinds"], apart := false, laid := [("loop.example/kilntrace/impl.opKinds", laid_loop_example_kilntrace_impl_opKinds)] }
def FnExactPutTargetSaid : Prop := fnExactPutTargetRow.holds Tryd.pinned (OpenSpec.ofChange fnExactPutTargetSpec)

/-- ITS FALSE NEIGHBOUR: 'it returns false'. Refute it at one input. -/
def fnExactPutTargetWrong : ChangeSpec := { name := "fnExactPutTarget", vars := ["loop.example/kilntrace/impl.opKinds"], fn := fun _ => fun
  | [d1, d2, d3, g1] => { results := [.lit (.bool false)], args := [d1, d2, d3], vars := [g1] }
  | _ => none }
def FnExactPutTargetWrongFalsely : Prop := fnExactPutTargetRow.holds Tryd.pinned (OpenSpec.ofChange fnExactPutTargetWrong)

/-- 'laws.FnExactDrop': WHATEVER THE INPUT: true; the input reads as it did. -/
def fnExactDropSpec : ChangeSpec := { name := "fnExactDrop", vars := ["loop.example/kilntrace/impl.opKinds"], fn := fun _ => fun
  | [d1, d2, g1] => { results := [.lit (.bool true)], args := [d1, d2], vars := [g1] }
  | _ => none }
def fnExactDropRow : OpenClaim := { program := "ytmeojnaoljgieacdoor", sum := "171c9cf00bdb1d6166fa0aa3cfd823bf96b1e227a3878ebe52f22ca90b0047fb", func := "loop.example/kilntrace/laws.FnExactDrop", spec := "fnExactDrop", inPlace := ["internal/bytealg.abigen_runtime_cmpstring"], unfollowed := true, recurses := true, named := ["loop.example/kilntrace/impl.opKinds"], apart := false, laid := [("loop.example/kilntrace/impl.opKinds", laid_loop_example_kilntrace_impl_opKinds)] }
def FnExactDropSaid : Prop := fnExactDropRow.holds Tryd.pinned (OpenSpec.ofChange fnExactDropSpec)

/-- ITS FALSE NEIGHBOUR: 'it returns false'. Refute it at one input. -/
def fnExactDropWrong : ChangeSpec := { name := "fnExactDrop", vars := ["loop.example/kilntrace/impl.opKinds"], fn := fun _ => fun
  | [d1, d2, g1] => { results := [.lit (.bool false)], args := [d1, d2], vars := [g1] }
  | _ => none }
def FnExactDropWrongFalsely : Prop := fnExactDropRow.holds Tryd.pinned (OpenSpec.ofChange fnExactDropWrong)

/-- 'laws.FnExactNote': WHATEVER THE INPUT: true; the input reads as it did. -/
def fnExactNoteSpec : ChangeSpec := { name := "fnExactNote", vars := ["loop.example/kilntrace/impl.opKinds"], fn := fun _ => fun
  | [d1, d2, d3, d4, g1] => { results := [.lit (.bool true)], args := [d1, d2, d3, d4], vars := [g1] }
  | _ => none }
def fnExactNoteRow : OpenClaim := { program := "ytmeojnaoljgieacdoor", sum := "171c9cf00bdb1d6166fa0aa3cfd823bf96b1e227a3878ebe52f22ca90b0047fb", func := "loop.example/kilntrace/laws.FnExactNote", spec := "fnExactNote", recurses := true, named := ["internal/strconv.uint64pow10", "math/bits.deBruijn32tab", "math/bits.deBruijn64tab", "loop.example/kilntrace/impl.opKinds"], apart := false, laid := [("math/bits.deBruijn32tab", laid_math_bits_deBruijn32tab), ("math/bits.deBruijn64tab", laid_math_bits_deBruijn64tab), ("internal/strconv.uint64pow10", laid_internal_strconv_uint64pow10), ("loop.example/kilntrace/impl.opKinds", laid_loop_example_kilntrace_impl_opKinds)] }
def FnExactNoteSaid : Prop := fnExactNoteRow.holds Tryd.pinned (OpenSpec.ofChange fnExactNoteSpec)

/-- ITS FALSE NEIGHBOUR: 'it returns false'. Refute it at one input. -/
def fnExactNoteWrong : ChangeSpec := { name := "fnExactNote", vars := ["loop.example/kilntrace/impl.opKinds"], fn := fun _ => fun
  | [d1, d2, d3, d4, g1] => { results := [.lit (.bool false)], args := [d1, d2, d3, d4], vars := [g1] }
  | _ => none }
def FnExactNoteWrongFalsely : Prop := fnExactNoteRow.holds Tryd.pinned (OpenSpec.ofChange fnExactNoteWrong)

/- THE SECOND FORM. 'bulk': how many values and letters a reading holds, each counted each time it is reached (what is shared counts as often as it is met; a slice's spare places count too). A statement '..UptoSaid' is the law's where the arguments, and the package variables that the reading takes, are together of bulk at most 1048576: NARROWER than '..Said'. Prove '..Said' where nothing that the law and all that it calls make is longer than what came in: it says more and counts as full. Else prove '..UptoSaid'. A law counts once. -/
mutual
def uptoBulk {H : Type} : DataW H → Nat
  | .lit (.string bytes) => bytes.length + 1
  | .lit _ => 1
  | .nil => 1
  | .ptr d => uptoBulk d + 1
  | .slice elems spare => uptoBulkAll elems + uptoBulkAll spare + 1
  | .agg parts => uptoBulkAll parts + 1
  | .iface _ d => uptoBulk d + 1
  | .map entries => uptoBulkEntries entries + 1
  | .held _ => 1
def uptoBulkAll {H : Type} : List (DataW H) → Nat
  | [] => 0
  | d :: r => uptoBulk d + uptoBulkAll r
def uptoBulkEntries {H : Type} : List (Lit × DataW H) → Nat
  | [] => 0
  | x :: r => uptoBulkEntry x + uptoBulkEntries r
def uptoBulkEntry {H : Type} : Lit × DataW H → Nat
  | (.string bytes, d) => bytes.length + uptoBulk d + 1
  | (_, d) => uptoBulk d + 1
 end
def uptoSmall : (H : Type) → List (DataW H) → Bool := fun _ ds => decide (uptoBulkAll ds ≤ 1048576)
def OpenSpec.upto (s : _root_.Go.ChangeSpec) : _root_.Go.OpenSpec := { _root_.Go.OpenSpec.ofChange s with cond := some uptoSmall }

/-- 'laws.FnExactValidStore', WHERE WHAT IT READS IS OF BULK AT MOST 1048576: true; the input reads as it did. -/
def fnExactValidStoreUptoRow : OpenClaim := { program := "ytmeojnaoljgieacdoor", sum := "171c9cf00bdb1d6166fa0aa3cfd823bf96b1e227a3878ebe52f22ca90b0047fb", func := "loop.example/kilntrace/laws.FnExactValidStore", spec := "fnExactValidStore", named := ["loop.example/kilntrace/impl.opKinds"], apart := false, laid := [("loop.example/kilntrace/impl.opKinds", laid_loop_example_kilntrace_impl_opKinds)], narrowed := true }
def FnExactValidStoreUptoSaid : Prop := fnExactValidStoreUptoRow.holds Tryd.pinned (OpenSpec.upto fnExactValidStoreSpec)

/-- 'laws.FnExactPutSource', WHERE WHAT IT READS IS OF BULK AT MOST 1048576: true; the input reads as it did. -/
def fnExactPutSourceUptoRow : OpenClaim := { program := "ytmeojnaoljgieacdoor", sum := "171c9cf00bdb1d6166fa0aa3cfd823bf96b1e227a3878ebe52f22ca90b0047fb", func := "loop.example/kilntrace/laws.FnExactPutSource", spec := "fnExactPutSource", inPlace := ["internal/bytealg.abigen_runtime_cmpstring", "slices.overlaps[loop.example/kilntrace/impl.Source]"], unfollowed := true, recurses := true, named := ["loop.example/kilntrace/impl.opKinds"], apart := false, laid := [("loop.example/kilntrace/impl.opKinds", laid_loop_example_kilntrace_impl_opKinds)], narrowed := true }
def FnExactPutSourceUptoSaid : Prop := fnExactPutSourceUptoRow.holds Tryd.pinned (OpenSpec.upto fnExactPutSourceSpec)

/-- 'laws.FnExactGetText', WHERE WHAT IT READS IS OF BULK AT MOST 1048576: true; the input reads as it did. -/
def fnExactGetTextUptoRow : OpenClaim := { program := "ytmeojnaoljgieacdoor", sum := "171c9cf00bdb1d6166fa0aa3cfd823bf96b1e227a3878ebe52f22ca90b0047fb", func := "loop.example/kilntrace/laws.FnExactGetText", spec := "fnExactGetText", named := ["loop.example/kilntrace/impl.opKinds"], apart := false, laid := [("loop.example/kilntrace/impl.opKinds", laid_loop_example_kilntrace_impl_opKinds)], narrowed := true }
def FnExactGetTextUptoSaid : Prop := fnExactGetTextUptoRow.holds Tryd.pinned (OpenSpec.upto fnExactGetTextSpec)

/-- 'laws.FnExactPutTarget', WHERE WHAT IT READS IS OF BULK AT MOST 1048576: true; the input reads as it did. -/
def fnExactPutTargetUptoRow : OpenClaim := { program := "ytmeojnaoljgieacdoor", sum := "171c9cf00bdb1d6166fa0aa3cfd823bf96b1e227a3878ebe52f22ca90b0047fb", func := "loop.example/kilntrace/laws.FnExactPutTarget", spec := "fnExactPutTarget", inPlace := ["internal/bytealg.abigen_runtime_cmpstring", "slices.overlaps[loop.example/kilntrace/impl.Target]"], unfollowed := true, recurses := true, named := ["loop.example/kilntrace/impl.opKinds"], apart := false, laid := [("loop.example/kilntrace/impl.opKinds", laid_loop_example_kilntrace_impl_opKinds)], narrowed := true }
def FnExactPutTargetUptoSaid : Prop := fnExactPutTargetUptoRow.holds Tryd.pinned (OpenSpec.upto fnExactPutTargetSpec)

/-- 'laws.FnExactDrop', WHERE WHAT IT READS IS OF BULK AT MOST 1048576: true; the input reads as it did. -/
def fnExactDropUptoRow : OpenClaim := { program := "ytmeojnaoljgieacdoor", sum := "171c9cf00bdb1d6166fa0aa3cfd823bf96b1e227a3878ebe52f22ca90b0047fb", func := "loop.example/kilntrace/laws.FnExactDrop", spec := "fnExactDrop", inPlace := ["internal/bytealg.abigen_runtime_cmpstring"], unfollowed := true, recurses := true, named := ["loop.example/kilntrace/impl.opKinds"], apart := false, laid := [("loop.example/kilntrace/impl.opKinds", laid_loop_example_kilntrace_impl_opKinds)], narrowed := true }
def FnExactDropUptoSaid : Prop := fnExactDropUptoRow.holds Tryd.pinned (OpenSpec.upto fnExactDropSpec)

/-- 'laws.FnExactNote', WHERE WHAT IT READS IS OF BULK AT MOST 1048576: true; the input reads as it did. -/
def fnExactNoteUptoRow : OpenClaim := { program := "ytmeojnaoljgieacdoor", sum := "171c9cf00bdb1d6166fa0aa3cfd823bf96b1e227a3878ebe52f22ca90b0047fb", func := "loop.example/kilntrace/laws.FnExactNote", spec := "fnExactNote", recurses := true, named := ["internal/strconv.uint64pow10", "math/bits.deBruijn32tab", "math/bits.deBruijn64tab", "loop.example/kilntrace/impl.opKinds"], apart := false, laid := [("math/bits.deBruijn32tab", laid_math_bits_deBruijn32tab), ("math/bits.deBruijn64tab", laid_math_bits_deBruijn64tab), ("internal/strconv.uint64pow10", laid_internal_strconv_uint64pow10), ("loop.example/kilntrace/impl.opKinds", laid_loop_example_kilntrace_impl_opKinds)], narrowed := true }
def FnExactNoteUptoSaid : Prop := fnExactNoteUptoRow.holds Tryd.pinned (OpenSpec.upto fnExactNoteSpec)

end Rows
end Go.Proofs.YtmeojnaoljgieacDoor
