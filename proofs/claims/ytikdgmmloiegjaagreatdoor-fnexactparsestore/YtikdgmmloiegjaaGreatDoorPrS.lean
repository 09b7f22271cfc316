import Derived.Test.YtikdgmmloiegjaaGreatDoorPrA
import Derived.Test.YtikdgmmloiegjaaGreatDoorSLine
import Derived.Test.YtikdgmmloiegjaaGreatDoorStLaw
import Derived.Deep.RegionHeld3
namespace Go.Proofs.YtikdgmmloiegjaaGreatDoor
open Go.RowKit
set_option linter.unusedVariables false

theorem hexb_take (s : ByteArray) (k : Nat) (h : k < s.size) : hexbL (s.data.toList.take (k + 1)) = hexbL (s.data.toList.take k) ++ [hexd (s[k].toNat / 16), hexd (s[k].toNat % 16)] := by
  rw [take_snocQ s k h]
  simp [hexbL]

set_option maxRecDepth 100000 in
set_option maxHeartbeats 2000000 in
theorem l7Hex_any (s : ByteArray) (w : World) (hs : s.size ≤ 2002) :
    Calls Tryz.prog 64 #[.string s] w fun e w' => e = .returned (.string (bB (hexbL s.data.toList))) ∧ Below w.heap.size w w' := by
  obtain ⟨i0, hi, hz0, hz1, hz2⟩ := info_parts Tryz.info5b
  go_enter Tryz.func64, Tryz.ntmps64
  go_wp2
  go_loopw [3, 4] (fun o i wr => ∃ (k g cap' : Nat) (L : List UInt8), k ≤ s.size ∧ i = .int .i64 k ∧ Hid (hexbL (s.data.toList.take k) = L) ∧ o = .slice (some ⟨g, 0, none⟩) L.length cap' ∧ w.heap.size ≤ g ∧ L.length ≤ 2 * k ∧
      wr.ownsRow w.heap.size 5 1 (.slice (some ⟨g, 0, none⟩) L.length cap') L.length (bcells L) ∧ Below w.heap.size w wr) (fun _ i _ => s.size - (intOf i).toNat)
  case atStart =>
    refine ⟨0, w.heap.size, 0, [], Nat.zero_le _, rfl, (rfl : hexbL (s.data.toList.take 0) = []), rfl, Nat.le_refl _, by simp, ?_, (Below.refl _ _).alloc (Nat.le_refl _) _⟩
    have := World.ownsRow_lit (base := w.heap.size) (e := 5) (size := 1) w #[] 0 (Nat.le_refl _) (by unfold maxLen; omega) (by simp)
    simpa [bcells] using this
  case round =>
    obtain ⟨k, g, cap', L, hk, rfl, HL, rfl, hg, hll, hown, hB⟩ := hrel
    have hsz := hB.size
    by_cases hlt : k < s.size
    · have HQ : Hid (hexbL (s.data.toList.take (k + 1)) = L ++ [hexd (s[k].toNat / 16), hexd (s[k].toNat % 16)]) := by show _ = _; rw [hexb_take s k hlt, HL.out]
      go_wp2_with fail
      refine (l2Hex_any s[k] _).mono ?_
      rintro e w3 ⟨hb3, g3, cap3, hg3, rfl, hown3⟩
      have ho3 := ownsRow_below hown hb3
      have hB3 := bt hB hb3
      have hs3 := hb3.size
      have HN : Hid (∀ j u, (bcells [hexd (s[k].toNat / 16), hexd (s[k].toNat % 16)])[j]? = some u → w3.cell? ((⟨g3, 0, none⟩ : Addr).add j) = some u) := fun j u hu => hown3.cells (g := g3) rfl j u hu
      have HO : Hid (∀ u ∈ bcells [hexd (s[k].toNat / 16), hexd (s[k].toNat % 16)], u.oneCell' = true) := bcells_one _
      have HBL : Hid ((bcells [hexd (s[k].toNat / 16), hexd (s[k].toNat % 16)]).length = 2 * 1) := by show _ = _; rw [bcells_length]; rfl
      clear hown hown3 hb3 hB
      generalize [hexd (s[k].toNat / 16), hexd (s[k].toNat % 16)] = q at *
      go_wp2_with (first | (at_builtin; refine wpList_append_own _ rfl (.tmp 12) (.tmp 16) 62 rfl w.heap.size 5 i0 (.int .u8 0) 1 1 Tryz.underlying62 hi hz0 hz1 hz2 rfl (by decide) _ _ _ rfl ho3 ⟨g3, 0, none⟩ 2 cap3 (bcells q) rfl HBL.out HN.out HO.out (by unfold maxLen; omega) (by omega) (by omega) ?_; intro v' w1 hown' hgrow hnil; obtain ⟨g', cap2, hv', hg', hown2⟩ := shape_of hown' (by omega); have hB1 := grow_below hB3 hgrow hg; clear hown' hnil; rw [hv']; clear hv'))
      go_roundw
      case rel =>
        have hql : q.length = 2 := by have := HBL.out; rw [bcells_length] at this; omega
        refine ⟨k + 1, g', cap2, L ++ q, by omega, by go_num, HQ.out, by rw [List.length_append, hql], hg', by rw [List.length_append, hql]; omega, ?_, hB1⟩
        rw [bcells_append, List.length_append, hql]
        exact hown2
      case measure => simp [intOf]; omega
    · have HE : Hid (hexbL s.data.toList = L) := by
        show _ = _
        rw [← HL.out, List.take_of_length_le (by rw [Array.length_toList]; show s.size ≤ k; omega)]
      have hcv := conv_row (W := wr) (g := g) (n := L.length) (cap := cap') (B := w.heap.size) L rfl hown
      clear hown
      go_wp2
      go_ret
      refine ⟨?_, hB⟩
      rw [HE.out]
      rfl

/-- The rows of lines. -/
def strV (ls : List (List UInt8)) : List Value := ls.map fun l => .string (bB l)
theorem strV_length (ls : List (List UInt8)) : (strV ls).length = ls.length := by simp [strV]
theorem strV_append (a b : List (List UInt8)) : strV (a ++ b) = strV a ++ strV b := by simp [strV]
theorem strV_one (ls : List (List UInt8)) : ∀ u ∈ strV ls, u.oneCell' = true := by
  intro u hu
  obtain ⟨l, _, rfl⟩ := List.mem_map.1 hu
  rfl
theorem Tryz.info9s : (Tryz.prog.info? 9).map (fun i => (i.zero, i.size, i.bytes)) = some (some (.string ⟨#[]⟩), 1, 16) := by kernel_rfl
theorem bB_size (l : List UInt8) : (bB l).size = l.length := by show l.toArray.size = _; simp
theorem bB_cat (x : ByteArray) (l : List UInt8) : x ++ bB l = bB (x.data.toList ++ l) := by
  apply WideShapes.bytes_inj
  simp [bB]

end Go.Proofs.YtikdgmmloiegjaaGreatDoor
