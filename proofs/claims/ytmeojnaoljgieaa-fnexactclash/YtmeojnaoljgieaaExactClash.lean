/-
  FnExactClash: the law out of the contracts.
-/
import Derived.Test.YtmeojnaoljgieaaRows
import Derived.Test.YtmeojnaoljgieaaImplClash
import Derived.WalkKit
import Derived.ProofKit
import Derived.OpenShut
import Derived.ShutString
import Derived.Below
import Derived.SliceStrings
import Derived.ChangeOld
namespace Go.Proofs.Ytmeojnaoljgieaa.fnExactClash
open Go.ChangeShapes Go.WideShapes Go.ChangeAt Go.RowKit
open Go.ChangeMaps (open_string shut_string)
set_option linter.unusedVariables false

theorem own : ownKnob Try.prog.godebug = none := by kernel_rfl

set_option maxHeartbeats 1000000 in
theorem walk (a0 : Option Addr) (cap0 : Nat) (ss : List ByteArray) (a1 : Int) (w : World) (hst : Strs w a0 ss) (hl : ss.length ≤ maxLen) (hs : ∀ s ∈ ss, s.size ≤ maxLen) (w1 : (Lit.int .i64 a1).wf = true) :
    Calls Try.prog 4 #[.slice a0 ss.length cap0, .int .i64 a1] w fun e w' => e = .returned (.bool true) ∧ Below w.heap.size w w' := by
  go_enter Try.func4, Try.ntmps4
  go_wp2_with fail
  refine (szStringS_any a0 cap0 ss _ hst hl hs).mono ?_
  rintro e w' ⟨rfl, r, rfl, hr⟩
  rcases hr with hr | ⟨htot, hr⟩
  · go_wp2
    go_ret
    exact ⟨rfl, Below.refl _ _⟩
  · have hl5 : ss.length ≤ 1048576 := by omega
    go_wp2_with fail
    refine (toStringS_any a0 cap0 ss _ hst hl5).mono ?_
    rintro e wa ⟨hba, g, rfl, hga⟩
    by_cases hn : 1 ≤ a1 ∧ a1 ≤ 8 ∧ ss.length ≤ 5000
    · obtain ⟨n, rfl⟩ := Int.eq_ofNat_of_zero_le (show 0 ≤ a1 by omega)
      have h1 : 1 ≤ n := by omega
      have h2 : n ≤ 8 := by omega
      have h5 : ss.length ≤ 5000 := by omega
      go_wp2_with fail
      refine (specClash_yes _ _ ss n _ hga htot h5 h1 h2).mono ?_
      rintro e wb ⟨hbb, A, B, ok, rfl, hout⟩
      have hb1 : Below w.heap.size w wb := hba.trans (hbb.mono hba.size)
      go_wp2_with fail
      refine (toStringS_any a0 cap0 ss _ (hst.below hb1) hl5).mono ?_
      rintro e wc ⟨hbc, g2, rfl, hgc⟩
      have hb2 : Below w.heap.size w wc := hb1.trans (hbc.mono hb1.size)
      go_wp2_with fail
      refine (implClash_yes _ _ ss n _ hgc htot h5 h1 h2).mono ?_
      rintro e wd ⟨hbd, A', B', ok', rfl, hout'⟩
      have hb3 : Below w.heap.size w wd := hb2.trans (hbd.mono hb2.size)
      obtain ⟨eA, eB, eo⟩ := hout.unique hout'
      subst eA; subst eB; subst eo
      have e1 := str_eq (rfl : A = A)
      have e2 := str_eq (rfl : B = B)
      go_wp2_with fail
      refine (toStringS_any a0 cap0 ss _ (hst.below hb3) hl5).mono ?_
      rintro e we ⟨hbe, g3, rfl, hge⟩
      have hb4 : Below w.heap.size w we := hb3.trans (hbe.mono hb3.size)
      go_wp2_with fail
      refine (eqStringS_same _ _ _ _ ss _ ((hgc.below hbd).below hbe) hge hl5).mono ?_
      rintro e wf ⟨hbf, rfl⟩
      have hb5 : Below w.heap.size w wf := hb4.trans (hbf.mono hb4.size)
      go_wp2
      go_ret
      exact ⟨rfl, hb5⟩
    · have hn' : (a1 < 1 ∨ 8 < a1) ∨ 5000 < ss.length := by omega
      clear hn
      go_wp2_with fail
      refine (specClash_no _ ss.length _ a1 _ hl5 hn').mono ?_
      rintro e wb ⟨rfl, rfl⟩
      go_wp2_with fail
      refine (toStringS_any a0 cap0 ss _ (hst.below hba) hl5).mono ?_
      rintro e wc ⟨hbc, g2, rfl, hgc⟩
      have hb2 : Below w.heap.size w wc := hba.trans (hbc.mono hba.size)
      go_wp2_with fail
      refine (implClash_no _ ss.length _ a1 _ hl5 hn').mono ?_
      rintro e wd ⟨rfl, rfl⟩
      go_wp2_with fail
      refine (toStringS_any a0 cap0 ss _ (hst.below hb2) hl5).mono ?_
      rintro e we ⟨hbe, g3, rfl, hge⟩
      have hb4 : Below w.heap.size w we := hb2.trans (hbe.mono hb2.size)
      go_wp2_with fail
      refine (eqStringS_same _ _ _ _ ss _ (hgc.below hbe) hge hl5).mono ?_
      rintro e wf ⟨hbf, rfl⟩
      have hb5 : Below w.heap.size w wf := hb4.trans (hbf.mono hb4.size)
      go_wp2
      go_ret
      exact ⟨rfl, hb5⟩

set_option maxRecDepth 100000 in
theorem lifted (os : Os) (started : os.Started) (H : Type) (enc : TypeId × Value → H) :
    ReturnsInHanded {} Try.checked os 4 .any (Rows.fnExactClashSpec.pre6 enc Try.prog Try.f4 Rows.fnExactClashRow.domain false) (Rows.fnExactClashSpec.post enc Try.prog Try.f4 false true false false) := by
  refine returnsInHanded_of_change (C := Try.checked) own started (by kernel_rfl) Try.func4
    (ChangeSpec.witness6 (enc := enc) (C := Try.checked) false ⟨#[], #[.slice none 0 0, .int .i64 0], []⟩ 8 (by kernel_rfl) (by kernel_rfl) (by kernel_rfl) (by kernel_rfl)) ?_
  intro W base args ds gs before hval0 hW hcnd _
  have hval : ∀ (j : Nat) t v, Try.f4.params[j]? = some t → args[j]? = some v → Value.okWide Try.prog W .any base t v := hval0
  have hW' := hW
  obtain ⟨p, q, hA0, hV, rfl, hfz, hnd⟩ := hW
  have hA : DataW.TrodAll enc Try.prog W 0 (fun _ => true) true Try.f4.params.toList args.toList ds p := hA0
  rw [Try.params4] at hA hval
  obtain ⟨v0, vs0, d0, ds0, p0, q0, hargs, rfl, rfl, h0, r0⟩ := trodAll_cons hA
  obtain ⟨v1, vs1, d1, ds1, p1, q1, rfl, rfl, rfl, h1, r1⟩ := trodAll_cons r0
  obtain ⟨rfl, rfl, rfl⟩ := trodAll_nil r1
  obtain rfl : args = #[v0, v1] := by cases args; simp_all
  obtain ⟨rfl, rfl⟩ := trodVars_none hV
  obtain ⟨a0, len0, cap0, rfl⟩ := okWide_slice Try.underlying24 (hval 0 24 v0 rfl rfl)
  have k0 := h0
  have lt0 : ∀ x ∈ p0, x.block < W.heap.size := by obtain ⟨m, hm⟩ := k0; exact DataW.trod_lt m _ _ _ hm
  obtain ⟨ss, hlen, hst, hsz, hmx⟩ : ∃ ss : List ByteArray, ss.length = len0 ∧ Strs W a0 ss ∧ (∀ s ∈ ss, s.size ≤ maxLen) ∧ len0 ≤ maxLen := by
    obtain ⟨fuel, hf⟩ := h0
    rcases open_strings Try.underlying24 Try.underlying9 (by kernel_rfl) hf with ⟨hcs, _⟩ | ⟨x, l, c, zs, hcs, _, hl, hm, hz, _, hcell, hws⟩
    · simp [Value.cells] at hcs
      obtain ⟨rfl, rfl, rfl⟩ := hcs
      exact ⟨[], rfl, fun i h => by simp at h, by simp, by simp⟩
    · simp [Value.cells] at hcs
      obtain ⟨rfl, rfl, rfl⟩ := hcs
      simp at hz
      refine ⟨zs.take len0, by simp; omega, ?_, fun s hs => hws s (List.mem_of_mem_take hs), by omega⟩
      intro i hi
      have hi' : i < len0 ∧ i < zs.length := by simp only [List.length_take] at hi; omega
      have hc := hcell i (by omega)
      obtain ⟨b, off, spot⟩ := x
      have hspot : spot = none := by simpa [Addr.add] using World.cell?_spot (hcell 0 (by omega))
      subst hspot
      refine ⟨b, off, rfl, ?_⟩
      simp only [List.getD_eq_getElem?_getD, List.getElem?_take, if_pos hi'.1]
      rw [Addr.add_lit] at hc
      simpa [List.getD_eq_getElem?_getD] using hc
  subst hlen
  obtain ⟨a1, rfl, rfl, rfl, w1⟩ := open_int Try.underlying3 (hval 1 3 v1 rfl rfl) h1
  clear hA0 hval0
  refine (walk a0 cap0 ss a1 W hst hmx hsz w1).mono fun e W' ⟨he, bel⟩ => ?_
  subst he
  exact ⟨_, rfl, _, _, _, [], _, [], hW', trodAll_mk1 (shut_bool Try.underlying4 _), (trodAll_cons_mk (Below.trod Try.laidOut (by kernel_rfl) (of_decide_eq_true (by kernel_rfl)) k0 bel lt0) (trodAll_cons_mk (shut_int Try.underlying3 w1) trodAll_mk0)), rfl, bel.frame _, fun h => by cases h⟩

theorem over : Rows.fnExactClashRow.holds Try.pinned (OpenSpec.ofChange Rows.fnExactClashSpec) :=
  OpenClaim.holds_of_wide 4 Try.f4 rfl rfl rfl rfl rfl rfl rfl ⟨rfl, rfl, rfl, rfl, rfl⟩ rfl rfl rfl rfl rfl (by kernel_rfl) Try.func4 (by kernel_rfl)
    (of_decide_eq_true (by kernel_rfl)) (by unfold Func.isWrapper; first | (rw [if_pos (by decide +kernel)]; kernel_rfl) | (rw [if_neg (by decide +kernel)]; exact ⟨rfl, rfl⟩))
    (fun os started H enc _ => lifted os started H enc)

end Go.Proofs.Ytmeojnaoljgieaa.fnExactClash
namespace Go.Proofs.Ytmeojnaoljgieaa
theorem fnExactClash_holds : Rows.FnExactClashSaid := fnExactClash.over
#print axioms fnExactClash_holds
end Go.Proofs.Ytmeojnaoljgieaa
