import Derived.Test.YtjdjhenijihpfaaGreatDoorMkO
import Derived.Deep.AppendLies
namespace Go.Proofs.YtjdjhenijihpfaaGreatDoor
open Go.RowKit
set_option linter.unusedVariables false

/-- The cells of a row of instructions. -/
def insJ (is : List I3) (j : Nat) : Value := if j % 3 = 0 then .int .i64 (ix is (j / 3)).op else if j % 3 = 1 then .string (ix is (j / 3)).text else .int .i64 (ix is (j / 3)).n
def insV (is : List I3) : List Value := (List.range (is.length * 3)).map (insJ is)
theorem insV_length (is : List I3) : (insV is).length = is.length * 3 := by simp [insV]
theorem insV_get (is : List I3) (j : Nat) (h : j < is.length * 3) : (insV is)[j]? = some (insJ is j) := by
  unfold insV
  rw [List.getElem?_map, List.getElem?_range h]; rfl
theorem insV_filled (is : List I3) : Filled3 is is.length (insV is) := by
  intro i hi
  rw [insV_get is _ (by omega), insV_get is _ (by omega), insV_get is _ (by omega)]
  unfold insJ
  rw [if_pos (by omega), if_neg (by omega), if_pos (by omega), if_neg (by omega), if_neg (by omega), show i * 3 / 3 = i by omega, show (i * 3 + 1) / 3 = i by omega, show (i * 3 + 2) / 3 = i by omega]
  exact ⟨rfl, rfl, rfl⟩
theorem insV_one (is : List I3) : ∀ u ∈ insV is, u.oneCell' = true := by
  intro u hu
  obtain ⟨j, _, rfl⟩ := List.mem_map.mp hu
  unfold insJ
  split
  · rfl
  · split <;> rfl
theorem insV_news {w : World} {b off : Nat} {is : List I3} (h : Row3 w (some ⟨b, off, none⟩) is) : ∀ j u, (insV is)[j]? = some u → w.cell? ((⟨b, off, none⟩ : Addr).add j) = some u := by
  intro j u hu
  rw [Addr.add_lit]
  have hj : j < is.length * 3 := by
    rcases Nat.lt_or_ge j (is.length * 3) with h | h
    · exact h
    · rw [List.getElem?_eq_none (by rw [insV_length]; exact h)] at hu; cases hu
  rw [insV_get is j hj] at hu
  obtain rfl := Option.some.inj hu
  obtain ⟨b', off', ha, c1, c2, c3⟩ := h (j / 3) (by omega)
  cases ha
  unfold insJ
  split
  · rename_i hm
    rw [show off + j = off + j / 3 * 3 by omega]; exact c1
  · split
    · rename_i hm
      rw [show off + j = off + j / 3 * 3 + 1 by omega]; exact c2
    · rw [show off + j = off + j / 3 * 3 + 2 by omega]; exact c3
theorem own_first {w : World} {B e sz n : Nat} {v : Value} {xs : List Value} (h : w.ownsRow B e sz v n xs) (h1 : 1 ≤ n) : ∃ g cp, v = .slice (some ⟨g, 0, none⟩) n cp := by
  rcases own_cases h with ⟨_, h0⟩ | h
  · omega
  · exact h
theorem Tryz.info165b : (Tryz.prog.info? 84).map (fun i => (i.zero, i.size, i.bytes)) = some (some (.agg #[.int .i64 0, .string ⟨#[]⟩, .int .i64 0]), 3, 32) := by kernel_rfl

set_option maxHeartbeats 1000000 in
set_option maxRecDepth 100000 in
theorem clone_any (a : Option Addr) (cap : Nat) (is : List I3) (w : World) (hc : Row3 w a is) (h1 : 1 ≤ is.length) (hl : is.length ≤ 1048576) :
    Calls Tryz.prog 74 #[.slice a is.length cap] w fun e w' => Below w.heap.size w w' ∧ ∃ g cp, e = .returned (.slice (some ⟨g, 0, none⟩) is.length cp) ∧ w'.ownsRow w.heap.size 84 3 (.slice (some ⟨g, 0, none⟩) is.length cp) is.length (insV is) := by
  obtain ⟨i0, hi, hz0, hz1, hz2⟩ := info_parts Tryz.info165b
  obtain ⟨b, off, rfl, _⟩ := hc 0 (by omega)
  have hown0 : (w.alloc (.cells #[] 84)).ownsRow w.heap.size 84 3 (.slice (some ⟨w.heap.size, 0, none⟩) 0 0) 0 [] := World.ownsRow_lit (base := w.heap.size) (e := 84) (size := 3) w #[] 0 (Nat.le_refl _) (by unfold maxLen; omega) (by simp)
  have hn := insV_news (hc.below ((Below.refl w.heap.size w).alloc (Nat.le_refl _) (.cells #[] 84)))
  have HL : Hid ((insV is).length = is.length * 3) := insV_length is
  have HO : Hid (∀ u ∈ insV is, u.oneCell' = true) := insV_one is
  generalize insV is = xs at *
  clear hc
  have hq : ∀ W : World, (binOp .eql 29 (.slice (some ⟨b, off, none⟩) is.length cap) (.slice none 0 0)).run Tryz.prog W = .ok (.bool false) W := fun W => Lib.run_eql_slice_nil W 29 84 _ _ _ 0 0 Tryz.underlying29
  go_enter Tryz.func74, Tryz.ntmps74
  go_wp2_with (at_builtin; refine wpList_append_own _ rfl (.tmp 5) (.tmp 6) 29 rfl w.heap.size 84 i0 (.agg #[.int .i64 0, .string ⟨#[]⟩, .int .i64 0]) 3 32 Tryz.underlying29 hi hz0 hz1 hz2 rfl (by decide) _ 0 [] rfl hown0 ⟨b, off, none⟩ is.length cap xs rfl HL.out hn HO.out (by unfold maxLen; omega) (by omega) (by simp) ?_; intro v' w2 hown' hgrow hnil; clear hnil)
  have hbB : Below w.heap.size w w2 := ((Below.refl _ _).alloc (Nat.le_refl _) _).grown hgrow (by simp) (fun k hk => (hown0.lt k hk).1)
  rw [Nat.zero_add, List.nil_append] at hown'
  obtain ⟨g, cp, rfl⟩ := own_first hown' h1
  clear hgrow hown0 hn
  go_wp2
  go_ret
  exact ⟨hbB, g, cp, rfl, hown'⟩

set_option maxHeartbeats 1000000 in
theorem copyProgram_any (a : Option Addr) (cap : Nat) (is : List I3) (w : World) (hc : Row3 w a is) (h1 : 1 ≤ is.length) (hl : is.length ≤ 1048576) :
    Calls Tryz.prog 44 #[.agg #[.slice a is.length cap]] w fun e w' => Below w.heap.size w w' ∧ ∃ g cp, e = .returned (.agg #[.slice (some ⟨g, 0, none⟩) is.length cp]) ∧ w'.ownsRow w.heap.size 84 3 (.slice (some ⟨g, 0, none⟩) is.length cp) is.length (insV is) := by
  have hb0 : Below w.heap.size w ((w.alloc (.cells #[.slice a is.length cap] 31)).alloc (.cells #[.slice none 0 0] 31)) := ((Below.refl _ _).alloc (Nat.le_refl _) _).alloc (by simp) _
  go_enter Tryz.func44, Tryz.ntmps44
  go_wp2_with fail
  refine (clone_any a cap is _ (hc.below hb0) h1 hl).mono ?_
  rintro e w1 ⟨hb1, g, cp, rfl, hown⟩
  have hg := (hown.lt g rfl).1
  simp at hg
  have hb := bt hb0 hb1
  have hown2 := own_base hown (B' := w.heap.size) (by simp; omega)
  have c1 : w1.cell? ⟨w.heap.size + 1, 0, none⟩ = some (.slice none 0 0) := cell_below hb1 (by simp [go_sem])
  have f1 : w1.frozen? ⟨w.heap.size + 1, 0, none⟩ = false := by rw [hb1.frozen (p := ⟨w.heap.size + 1, 0, none⟩) (by simp)]; simp [go_sem]
  clear hb0 hb1 hown
  go_wp2
  exact bodyPost_ret (v := .agg #[.slice (some ⟨g, 0, none⟩) is.length cp]) (by simp [results, Tryz.results44, go_sem, c1]) rfl ⟨hb.setCell (p := ⟨w.heap.size + 1, 0, none⟩) (by simp) _, g, cp, rfl, own_set hown2 (by omega) _⟩

set_option maxHeartbeats 1000000 in
theorem l3Program_any (a : Option Addr) (cap : Nat) (is : List I3) (w : World) (hc : Row3 w a is) (h1 : 1 ≤ is.length) (hl : is.length ≤ 1048576) :
    Calls Tryz.prog 46 #[.agg #[.slice a is.length cap]] w fun e w' => Below w.heap.size w w' ∧ ∃ g cp, e = .returned (.agg #[.slice (some ⟨g, 0, none⟩) is.length cp]) ∧ w'.ownsRow w.heap.size 84 3 (.slice (some ⟨g, 0, none⟩) is.length cp) is.length (insV is) := by
  obtain ⟨i0, hi, hz0, hz1, hz2⟩ := info_parts Tryz.info165b
  obtain ⟨b, off, rfl, _⟩ := hc 0 (by omega)
  have hb0 : Below w.heap.size w ((w.alloc (.cells #[.slice (some ⟨b, off, none⟩) is.length cap] 31)).alloc (.cells #[.slice none 0 0] 31)) := ((Below.refl _ _).alloc (Nat.le_refl _) _).alloc (by simp) _
  have hb1 : Below w.heap.size w (((w.alloc (.cells #[.slice (some ⟨b, off, none⟩) is.length cap] 31)).alloc (.cells #[.slice none 0 0] 31)).alloc (.cells #[] 84)) := hb0.alloc (by simp; omega) _
  have hown0 : (((w.alloc (.cells #[.slice (some ⟨b, off, none⟩) is.length cap] 31)).alloc (.cells #[.slice none 0 0] 31)).alloc (.cells #[] 84)).ownsRow (w.heap.size + 1 + 1) 84 3 (.slice (some ⟨w.heap.size + 1 + 1, 0, none⟩) 0 0) 0 [] := by
    have h := World.ownsRow_lit (base := w.heap.size + 1 + 1) (e := 84) (size := 3) ((w.alloc (.cells #[.slice (some ⟨b, off, none⟩) is.length cap] 31)).alloc (.cells #[.slice none 0 0] 31)) #[] 0 (by simp) (by unfold maxLen; omega) (by simp)
    rw [show ((w.alloc (.cells #[.slice (some ⟨b, off, none⟩) is.length cap] 31)).alloc (.cells #[.slice none 0 0] 31)).heap.size = w.heap.size + 1 + 1 from by simp] at h
    exact h
  have hn := insV_news (hc.below hb1)
  have HL : Hid ((insV is).length = is.length * 3) := insV_length is
  have HO : Hid (∀ u ∈ insV is, u.oneCell' = true) := insV_one is
  generalize insV is = xs at *
  clear hc hb0
  go_enter Tryz.func46, Tryz.ntmps46
  go_wp2_with (at_builtin; refine wpList_append_own _ rfl (.tmp 3) (.tmp 5) 29 rfl (w.heap.size + 1 + 1) 84 i0 (.agg #[.int .i64 0, .string ⟨#[]⟩, .int .i64 0]) 3 32 Tryz.underlying29 hi hz0 hz1 hz2 rfl (by decide) _ 0 [] rfl hown0 ⟨b, off, none⟩ is.length cap xs rfl HL.out hn HO.out (by unfold maxLen; omega) (by omega) (by simp) ?_; intro v' w2 hown' hgrow hnil; clear hnil; have hbB : Below (w.heap.size + 1 + 1) (((w.alloc (.cells #[.slice (some ⟨b, off, none⟩) is.length cap] 31)).alloc (.cells #[.slice none 0 0] 31)).alloc (.cells #[] 84)) w2 := (Below.refl _ _).grown hgrow (by simp) (fun k hk => (hown0.lt k hk).1); have c1 : w2.cell? ⟨w.heap.size + 1, 0, none⟩ = some (.slice none 0 0) := (by rw [hbB.cell (p := ⟨w.heap.size + 1, 0, none⟩) (by simp)]; simp [go_sem]); have f1 : w2.frozen? ⟨w.heap.size + 1, 0, none⟩ = false := (by rw [hbB.frozen (p := ⟨w.heap.size + 1, 0, none⟩) (by simp)]; simp [go_sem]); have hB : Below w.heap.size w w2 := hb1.trans (hbB.mono (by omega)); rw [Nat.zero_add, List.nil_append] at hown'; obtain ⟨g, cp, rfl⟩ := own_first hown' h1; have hg := (hown'.lt g rfl).1; have HOW : Hid (w2.ownsRow w.heap.size 84 3 (.slice (some ⟨g, 0, none⟩) is.length cp) is.length xs) := own_base hown' (by omega); clear hgrow hown0 hn hbB hown' hb1)
  exact bodyPost_ret (v := .agg #[.slice (some ⟨g, 0, none⟩) is.length cp]) (by simp [results, Tryz.results46, go_sem, c1]) rfl ⟨hB.setCell (p := ⟨w.heap.size + 1, 0, none⟩) (by simp) _, g, cp, rfl, own_set HOW.out (by omega) _⟩

end Go.Proofs.YtjdjhenijihpfaaGreatDoor
