import Derived.Test.YtbbfboikigmghaaGreatDoorProg
import Derived.WalkKit
import Derived.WalkSpells
import Derived.WalkLawsBesides
import Derived.Deep.RegionHeld3
import Derived.Deep.QuietTactic
import Derived.BigQuiet
namespace Go.Proofs.YtbbfboikigmghaaGreatDoor
open Go.RowKit
set_option linter.unusedVariables false
set_option maxHeartbeats 32000000
set_option maxRecDepth 100000
structure I3 where
  op : Int
  text : ByteArray
  n : Int
def i0 : I3 := ⟨0, ByteArray.empty, 0⟩
def ix (is : List I3) (i : Nat) : I3 := is.getD i i0
def Row3 (w : World) (a : Option Addr) (is : List I3) : Prop :=
  ∀ i, i < is.length -> ∃ b off, a = some ⟨b, off, none⟩ /\ w.cell? ⟨b, off + i * 3, none⟩ = some (.int .i64 (ix is i).op) /\ w.cell? ⟨b, off + i * 3 + 1, none⟩ = some (.string (ix is i).text) /\ w.cell? ⟨b, off + i * 3 + 2, none⟩ = some (.int .i64 (ix is i).n)
theorem cell_below {w w' : World} {b o : Nat} {v : Value} (hb : Below w.heap.size w w') (h : w.cell? ⟨b, o, none⟩ = some v) : w'.cell? ⟨b, o, none⟩ = some v :=
  (hb.cell (p := ⟨b, o, none⟩) (World.block_lt_of_cell? w _ h)).trans h
theorem Row3.below {w w' : World} {a : Option Addr} {is : List I3} (h : Row3 w a is) (hb : Below w.heap.size w w') : Row3 w' a is := by
  intro i hi
  obtain ⟨b, off, ha, h1, h2, h3⟩ := h i hi
  exact ⟨b, off, ha, cell_below hb h1, cell_below hb h2, cell_below hb h3⟩
theorem ownsRow_below {w w' : World} {base e size n : Nat} {v : Value} {xs : List Value} (h : w.ownsRow base e size v n xs) (hb : Below w.heap.size w w') : w'.ownsRow base e size v n xs := by
  refine ⟨h.1, ?_⟩
  rcases h.2 with h2 | ⟨g, cap, cur, hv, hg, hh, r⟩
  · exact Or.inl h2
  · refine Or.inr ⟨g, cap, cur, hv, hg, ?_, r⟩
    have hlt : g < w.heap.size := by
      rcases Nat.lt_or_ge g w.heap.size with h | h
      · exact h
      · rw [Array.getElem?_eq_none h] at hh; cases hh
    rw [hb.block g hlt]; exact hh
theorem str_eq {p q : ByteArray} (h : p = q) : (p.toList == q.toList) = true := by subst h; simp
theorem str_ne {p q : ByteArray} (h : p ≠ q) : (p.toList == q.toList) = false := by
  rw [beq_eq_false_iff_ne]
  intro e
  rw [ByteArray.toList_eq, ByteArray.toList_eq] at e
  exact h (WideShapes.bytes_inj e)
def Filled3 (is : List I3) (k : Nat) (xs : List Value) : Prop :=
  ∀ i, i < k -> xs[i * 3]? = some (.int .i64 (ix is i).op) /\ xs[i * 3 + 1]? = some (.string (ix is i).text) /\ xs[i * 3 + 2]? = some (.int .i64 (ix is i).n)
theorem filled3_set {is : List I3} {k : Nat} {xs : List Value} (h : Filled3 is k xs) (hx : k * 3 + 2 < xs.length) :
    Filled3 is (k + 1) (((xs.set (k * 3) (.int .i64 (ix is k).op)).set (k * 3 + 1) (.string (ix is k).text)).set (k * 3 + 2) (.int .i64 (ix is k).n)) := by
  intro i hi
  rcases Nat.lt_or_ge i k with hl | hl
  · obtain ⟨h1, h2, h3⟩ := h i hl
    simp only [List.getElem?_set]
    rw [if_neg (by omega), if_neg (by omega), if_neg (by omega), if_neg (by omega), if_neg (by omega), if_neg (by omega), if_neg (by omega), if_neg (by omega), if_neg (by omega)]
    exact ⟨h1, h2, h3⟩
  · obtain rfl : i = k := by omega
    simp [List.getElem?_set]
    omega
theorem szIns_any (i : I3) (l : Int) (w : World) (h0 : 0 <= l) (h1 : l <= 1048576) (hs : i.text.size <= 9223372036854775807) :
    Calls Tryz.prog 102 #[.agg #[.int .i64 i.op, .string i.text, .int .i64 i.n], .int .i64 l] w fun e w' => Below w.heap.size w w' /\ ((l - i.text.size < 0 /\ e = .returned (.int .i64 (-1))) \/ (0 <= l - i.text.size /\ e = .returned (.int .i64 (l - i.text.size)))) := by
  by_cases h : l - i.text.size < 0
  · go_enter Tryz.func102, Tryz.ntmps102
    go_wp2
    go_ret
    exact ⟨(Below.refl _ _).alloc (Nat.le_refl _) _, Or.inl ⟨h, rfl⟩⟩
  · go_enter Tryz.func102, Tryz.ntmps102
    go_wp2
    go_ret
    exact ⟨(Below.refl _ _).alloc (Nat.le_refl _) _, Or.inr ⟨by omega, rfl⟩⟩
theorem toIns_any (i : I3) (w : World) :
    Calls Tryz.prog 106 #[.agg #[.int .i64 i.op, .string i.text, .int .i64 i.n]] w fun e w' => Below w.heap.size w w' /\ e = .returned (.agg #[.int .i64 i.op, .string i.text, .int .i64 i.n]) := by
  go_enter Tryz.func106, Tryz.ntmps106
  go_wp2
  exact bodyPost_ret (v := .agg #[.int .i64 i.op, .string i.text, .int .i64 i.n]) (by simp [results, Tryz.results106, go_sem]) rfl ⟨(((Below.refl _ _).alloc (Nat.le_refl _) _).alloc (by simp) _).alloc (by simp; omega) _, rfl⟩
theorem Tryz.info138 : (Tryz.prog.info? 138).map (fun i => (i.zero, i.size, i.bytes)) = some (some (.agg #[.int .i64 0, .string ByteArray.empty, .int .i64 0]), 3, 32) := by kernel_rfl
theorem cell_of_length {w : World} {B g n cap j : Nat} {xs : List Value} (h : w.ownsRow B 138 3 (.slice (some ⟨g, 0, none⟩) n cap) n xs) (hj : j < n * 3) : ∃ v, w.cell? ⟨g, j, none⟩ = some v := by
  have hl := h.1
  exact ⟨xs[j]'(by omega), by rw [h.cellAt j hj]; exact List.getElem?_eq_getElem _⟩
theorem setCell_below {w w1 : World} {b j : Nat} (h : Below w.heap.size w w1) (hb : w.heap.size <= b) (v : Value) : Below w.heap.size w (w1.setCell ⟨b, j, none⟩ v) := h.setCell hb v
theorem eqIns_same (i : I3) (w : World) :
    Calls Tryz.prog 118 #[.agg #[.int .i64 i.op, .string i.text, .int .i64 i.n], .agg #[.int .i64 i.op, .string i.text, .int .i64 i.n]] w fun e w' => Below w.heap.size w w' /\ e = .returned (.bool true) := by
  have e1 := str_eq (rfl : i.text = i.text)
  go_enter Tryz.func118, Tryz.ntmps118
  go_wp2
  go_ret
  exact ⟨((Below.refl _ _).alloc (Nat.le_refl _) _).alloc (by simp) _, rfl⟩
theorem eqInsS_same (a a' : Option Addr) (cap cap' : Nat) (is : List I3) (w : World) (hc : Row3 w a is) (hc' : Row3 w a' is) (hl : is.length <= 1048576) :
    Calls Tryz.prog 100 #[.slice a is.length cap, .slice a' is.length cap'] w fun e w' => Below w.heap.size w w' /\ e = .returned (.bool true) := by
  go_enter Tryz.func100, Tryz.ntmps100
  go_wp2
  go_loopw [5] (fun i wr => ∃ k : Nat, k <= is.length /\ i = .int .i64 k /\ Below w.heap.size w wr) (fun i _ => is.length - (intOf i).toNat)
  case atStart => exact ⟨0, Nat.zero_le _, rfl, Below.refl _ _⟩
  case round =>
    obtain ⟨k, hk, rfl, hbel⟩ := hrel
    by_cases hlt : k < is.length
    · obtain ⟨b, off, rfl, c1, c2, c3⟩ := (hc.below hbel) k hlt
      obtain ⟨b', off', rfl, d1, d2, d3⟩ := (hc'.below hbel) k hlt
      generalize ix is k = i at *
      clear hc hc'
      have hkI : (k : Int) < (is.length : Int) := by omega
      have hk0 : (0 : Int) <= (k : Int) := by omega
      go_wp2_with fail
      go_region_held3 (fun w' => (w'.cell? ⟨b, off + k * 3, none⟩ = some (.int .i64 i.op) /\ w'.cell? ⟨b, off + k * 3 + 1, none⟩ = some (.string i.text) /\ w'.cell? ⟨b, off + k * 3 + 2, none⟩ = some (.int .i64 i.n)) /\ (w'.cell? ⟨b', off' + k * 3, none⟩ = some (.int .i64 i.op) /\ w'.cell? ⟨b', off' + k * 3 + 1, none⟩ = some (.string i.text) /\ w'.cell? ⟨b', off' + k * 3 + 2, none⟩ = some (.int .i64 i.n)))
        (first | assumption | (simp [*]; done) | exact ⟨⟨cell_below hb1 (by simp [*]), cell_below hb1 (by simp [*]), cell_below hb1 (by simp [*])⟩, cell_below hb1 (by simp [*]), cell_below hb1 (by simp [*]), cell_below hb1 (by simp [*])⟩)
        (first | (go_at_call 118; refine (eqIns_same i _).mono ?_; rintro e w1 ⟨hb1, rfl⟩))
      all_goals
        go_wp2
        go_roundw
        case rel => exact ⟨k + 1, by omega, by go_num, hbel.trans (Below.trans (Below.drew (Below.refl _ _)) (hb1.mono (by simpa using hbel.size)))⟩
        case measure => simp [intOf]; omega
    · go_wp2
      go_ret
      exact ⟨hbel, rfl⟩
theorem eqProgram_same (a a' : Option Addr) (cap cap' : Nat) (is : List I3) (w : World) (hc : Row3 w a is) (hc' : Row3 w a' is) (hl : is.length <= 1048576) :
    Calls Tryz.prog 80 #[.agg #[.slice a is.length cap], .agg #[.slice a' is.length cap']] w fun e w' => Below w.heap.size w w' /\ e = .returned (.bool true) := by
  go_enter Tryz.func80, Tryz.ntmps80
  go_wp2_with fail
  have hb0 : Below w.heap.size w ((w.alloc (.cells #[.slice a is.length cap] 83)).alloc (.cells #[.slice a' is.length cap'] 83)) := ((Below.refl _ _).alloc (Nat.le_refl _) _).alloc (by simp) _
  refine (eqInsS_same a a' cap cap' is _ (hc.below hb0) (hc'.below hb0) hl).mono ?_
  rintro e w1 ⟨hb1, rfl⟩
  go_wp2
  go_ret
  exact ⟨hb0.trans (hb1.mono hb0.size), rfl⟩
def kindOf (op : Int) : Int := if op = 1 then 1 else if op = 3 \/ op = 4 \/ op = 5 then 2 else if op = 10 \/ op = 11 then 3 else 0
def mostT (k : Int) : Int := if k = 1 then 2000 else 0
def mostN (k : Int) : Int := if k = 2 then 2000 else if k = 3 then 200 else 0
def insOk (i : I3) : Bool := decide (1 <= i.op) && decide (i.op <= 15) && decide ((i.text.size : Int) <= mostT (kindOf i.op)) && decide (0 <= i.n) && decide (i.n <= mostN (kindOf i.op))
def words : List (List UInt8) := [[], [108, 105, 116], [99, 97, 116], [99, 117, 116], [114, 101, 115, 116], [119, 111, 114, 100], [115, 97, 109, 101], [100, 117, 112], [115, 119, 97, 112], [100, 114, 111, 112], [106, 117, 109, 112], [117, 110, 108, 101, 115, 115], [97, 115, 107], [104, 97, 115], [102, 97, 105, 108], [101, 110, 100]]
def takesOf : List Int := [0, 0, 2, 1, 1, 1, 2, 1, 2, 1, 0, 1, 1, 1, 1, 1]
def wordB (o : Nat) : ByteArray := ⟨(words.getD o []).toArray⟩
def Tab (w : World) : Prop := ∀ o : Nat, o < 16 -> w.cell? ⟨0, o * 3, none⟩ = some (.string (wordB o)) /\ w.cell? ⟨0, o * 3 + 1, none⟩ = some (.int .i64 (kindOf o)) /\ w.cell? ⟨0, o * 3 + 2, none⟩ = some (.int .i64 (takesOf.getD o 0))
theorem Tab.below {w w' : World} (h : Tab w) (hb : Below w.heap.size w w') : Tab w' := fun o ho => ⟨cell_below hb (h o ho).1, cell_below hb (h o ho).2.1, cell_below hb (h o ho).2.2⟩
theorem kind_cases (o : Int) : kindOf o = 0 \/ kindOf o = 1 \/ kindOf o = 2 \/ kindOf o = 3 := by
  unfold kindOf
  split
  · simp
  · split
    · simp
    · split <;> simp
theorem mostText_any (k : Int) (w : World) : Calls Tryz.prog 108 #[.int .i64 k] w fun e w' => e = .returned (.int .i64 (mostT k)) /\ w' = w := by
  by_cases h : k = 1
  · subst h
    go_enter Tryz.func108, Tryz.ntmps108
    go_wp2
    go_ret
    exact ⟨rfl, rfl⟩
  · have h1 : (k == 1) = false := by simpa using h
    have e : mostT k = 0 := by simp [mostT, h]
    rw [e]
    clear h e
    go_enter Tryz.func108, Tryz.ntmps108
    go_wp2
    go_ret
    exact ⟨rfl, rfl⟩
theorem mostNumber_any (k : Int) (w : World) : Calls Tryz.prog 109 #[.int .i64 k] w fun e w' => e = .returned (.int .i64 (mostN k)) /\ w' = w := by
  by_cases h : k = 2
  · subst h
    go_enter Tryz.func109, Tryz.ntmps109
    go_wp2
    go_ret
    exact ⟨rfl, rfl⟩
  · by_cases h' : k = 3
    · subst h'
      go_enter Tryz.func109, Tryz.ntmps109
      go_wp2
      go_ret
      exact ⟨rfl, rfl⟩
    · have h1 : (k == 2) = false := by simpa using h
      have h2 : (k == 3) = false := by simpa using h'
      have e : mostN k = 0 := by simp [mostN, h, h']
      rw [e]
      clear h h' e
      go_enter Tryz.func109, Tryz.ntmps109
      go_wp2
      go_ret
      exact ⟨rfl, rfl⟩
theorem validIns_out (i : I3) (w : World) (h : i.op < 1 \/ 15 < i.op) :
    Calls Tryz.prog 94 #[.agg #[.int .i64 i.op, .string i.text, .int .i64 i.n]] w fun e w' => Below w.heap.size w w' /\ e = .returned (.bool false) := by
  rcases h with h | h
  · have h1 : decide (i.op < 1) = true := by simpa using h
    go_enter Tryz.func94, Tryz.ntmps94
    go_wp2
    go_ret
    exact ⟨(Below.refl _ _).alloc (Nat.le_refl _) _, rfl⟩
  · have h1 : decide (i.op < 1) = false := by simp; omega
    have h2 : decide (15 < i.op) = true := by simpa using h
    go_enter Tryz.func94, Tryz.ntmps94
    go_wp2
    go_ret
    exact ⟨(Below.refl _ _).alloc (Nat.le_refl _) _, rfl⟩
theorem validIns_in (o : Nat) (t : ByteArray) (n : Int) (w : World) (k : Int) (h1 : 1 <= o) (h2 : o <= 15) (ht : t.size <= 9223372036854775807) (hk : w.cell? ⟨0, o * 3 + 1, none⟩ = some (.int .i64 k)) :
    Calls Tryz.prog 94 #[.agg #[.int .i64 o, .string t, .int .i64 n]] w fun e w' => Below w.heap.size w w' /\ e = .returned (.bool (decide ((t.size : Int) <= mostT k) && decide (0 <= n) && decide (n <= mostN k))) := by
  have d1 : decide ((o : Int) < 1) = false := by simp; omega
  have d2 : decide (15 < (o : Int)) = false := by simp; omega
  have h0 : 0 < w.heap.size := World.block_lt_of_cell? w _ hk
  have hka : ∀ x, (w.alloc x).cell? ⟨0, o * 3 + 1, none⟩ = some (.int .i64 k) := fun x => by rw [World.cell?_alloc_lt _ _ _ h0]; exact hk
  by_cases c1 : (t.size : Int) <= mostT k
  · have e1 : decide ((t.size : Int) <= mostT k) = true := by simpa using c1
    by_cases c2 : 0 <= n
    · have e2 : decide (0 <= n) = true := by simpa using c2
      go_enter Tryz.func94, Tryz.ntmps94
      go_wp2_with fail
      go_quiet (first | (go_at_call 108; exact Calls.quiet_of_same (mostText_any _ _)) | (go_at_call 109; exact Calls.quiet_of_same (mostNumber_any _ _)))
      go_wp2
      go_ret
      exact ⟨below_drewN ((Below.refl _ _).alloc (Nat.le_refl _) _) _, by simp [e1, e2]; try rfl⟩
    · have e2 : decide (0 <= n) = false := by simpa using c2
      go_enter Tryz.func94, Tryz.ntmps94
      go_wp2_with fail
      go_quiet (first | (go_at_call 108; exact Calls.quiet_of_same (mostText_any _ _)) | (go_at_call 109; exact Calls.quiet_of_same (mostNumber_any _ _)))
      go_wp2
      go_ret
      exact ⟨below_drewN ((Below.refl _ _).alloc (Nat.le_refl _) _) _, by simp [e1, e2]; try rfl⟩
  · have e1 : decide ((t.size : Int) <= mostT k) = false := by simpa using c1
    go_enter Tryz.func94, Tryz.ntmps94
    go_wp2_with fail
    go_quiet (first | (go_at_call 108; exact Calls.quiet_of_same (mostText_any _ _)) | (go_at_call 109; exact Calls.quiet_of_same (mostNumber_any _ _)))
    go_wp2
    go_ret
    exact ⟨below_drewN ((Below.refl _ _).alloc (Nat.le_refl _) _) _, by simp [e1]; try rfl⟩
theorem l2Word_1 (w : World) : Calls Tryz.prog 84 #[.int .i64 1] w fun e w' => e = .returned (.tuple #[.string ⟨#[108, 105, 116]⟩, .int .i64 1]) /\ w = w' := by
  go_enter Tryz.func84, Tryz.ntmps84
  go_wp2
  go_ret2
  exact ⟨rfl, rfl⟩
theorem l2Word_2 (w : World) : Calls Tryz.prog 84 #[.int .i64 2] w fun e w' => e = .returned (.tuple #[.string ⟨#[99, 97, 116]⟩, .int .i64 0]) /\ w = w' := by
  go_enter Tryz.func84, Tryz.ntmps84
  go_wp2
  go_ret2
  exact ⟨rfl, rfl⟩
theorem l2Word_3 (w : World) : Calls Tryz.prog 84 #[.int .i64 3] w fun e w' => e = .returned (.tuple #[.string ⟨#[99, 117, 116]⟩, .int .i64 2]) /\ w = w' := by
  go_enter Tryz.func84, Tryz.ntmps84
  go_wp2
  go_ret2
  exact ⟨rfl, rfl⟩
theorem l2Word_4 (w : World) : Calls Tryz.prog 84 #[.int .i64 4] w fun e w' => e = .returned (.tuple #[.string ⟨#[114, 101, 115, 116]⟩, .int .i64 2]) /\ w = w' := by
  go_enter Tryz.func84, Tryz.ntmps84
  go_wp2
  go_ret2
  exact ⟨rfl, rfl⟩
theorem l2Word_5 (w : World) : Calls Tryz.prog 84 #[.int .i64 5] w fun e w' => e = .returned (.tuple #[.string ⟨#[119, 111, 114, 100]⟩, .int .i64 2]) /\ w = w' := by
  go_enter Tryz.func84, Tryz.ntmps84
  go_wp2
  go_ret2
  exact ⟨rfl, rfl⟩
theorem l2Word_6 (w : World) : Calls Tryz.prog 84 #[.int .i64 6] w fun e w' => e = .returned (.tuple #[.string ⟨#[115, 97, 109, 101]⟩, .int .i64 0]) /\ w = w' := by
  go_enter Tryz.func84, Tryz.ntmps84
  go_wp2
  go_ret2
  exact ⟨rfl, rfl⟩
theorem l2Word_7 (w : World) : Calls Tryz.prog 84 #[.int .i64 7] w fun e w' => e = .returned (.tuple #[.string ⟨#[100, 117, 112]⟩, .int .i64 0]) /\ w = w' := by
  go_enter Tryz.func84, Tryz.ntmps84
  go_wp2
  go_ret2
  exact ⟨rfl, rfl⟩
theorem l2Word_8 (w : World) : Calls Tryz.prog 84 #[.int .i64 8] w fun e w' => e = .returned (.tuple #[.string ⟨#[115, 119, 97, 112]⟩, .int .i64 0]) /\ w = w' := by
  go_enter Tryz.func84, Tryz.ntmps84
  go_wp2
  go_ret2
  exact ⟨rfl, rfl⟩
theorem l2Word_9 (w : World) : Calls Tryz.prog 84 #[.int .i64 9] w fun e w' => e = .returned (.tuple #[.string ⟨#[100, 114, 111, 112]⟩, .int .i64 0]) /\ w = w' := by
  go_enter Tryz.func84, Tryz.ntmps84
  go_wp2
  go_ret2
  exact ⟨rfl, rfl⟩
theorem l2Word_10 (w : World) : Calls Tryz.prog 84 #[.int .i64 10] w fun e w' => e = .returned (.tuple #[.string ⟨#[106, 117, 109, 112]⟩, .int .i64 3]) /\ w = w' := by
  go_enter Tryz.func84, Tryz.ntmps84
  go_wp2
  go_ret2
  exact ⟨rfl, rfl⟩
theorem l2Word_11 (w : World) : Calls Tryz.prog 84 #[.int .i64 11] w fun e w' => e = .returned (.tuple #[.string ⟨#[117, 110, 108, 101, 115, 115]⟩, .int .i64 3]) /\ w = w' := by
  go_enter Tryz.func84, Tryz.ntmps84
  go_wp2
  go_ret2
  exact ⟨rfl, rfl⟩
theorem l2Word_12 (w : World) : Calls Tryz.prog 84 #[.int .i64 12] w fun e w' => e = .returned (.tuple #[.string ⟨#[97, 115, 107]⟩, .int .i64 0]) /\ w = w' := by
  go_enter Tryz.func84, Tryz.ntmps84
  go_wp2
  go_ret2
  exact ⟨rfl, rfl⟩
theorem l2Word_13 (w : World) : Calls Tryz.prog 84 #[.int .i64 13] w fun e w' => e = .returned (.tuple #[.string ⟨#[104, 97, 115]⟩, .int .i64 0]) /\ w = w' := by
  go_enter Tryz.func84, Tryz.ntmps84
  go_wp2
  go_ret2
  exact ⟨rfl, rfl⟩
theorem l2Word_14 (w : World) : Calls Tryz.prog 84 #[.int .i64 14] w fun e w' => e = .returned (.tuple #[.string ⟨#[102, 97, 105, 108]⟩, .int .i64 0]) /\ w = w' := by
  go_enter Tryz.func84, Tryz.ntmps84
  go_wp2
  go_ret2
  exact ⟨rfl, rfl⟩
theorem l2Word_15 (w : World) : Calls Tryz.prog 84 #[.int .i64 15] w fun e w' => e = .returned (.tuple #[.string ⟨#[101, 110, 100]⟩, .int .i64 0]) /\ w = w' := by
  go_enter Tryz.func84, Tryz.ntmps84
  go_wp2
  go_ret2
  exact ⟨rfl, rfl⟩
theorem l2Word_out (op : Int) (w : World) (h : op < 1 \/ 15 < op) : Calls Tryz.prog 84 #[.int .i64 op] w fun e w' => e = .returned (.tuple #[.string ⟨#[]⟩, .int .i64 0]) /\ w = w' := by
  rcases h with h | h
  · go_enter Tryz.func84, Tryz.ntmps84
    go_wp2
    go_ret2
    exact ⟨rfl, rfl⟩
  · go_enter Tryz.func84, Tryz.ntmps84
    go_wp2
    go_ret2
    exact ⟨rfl, rfl⟩
theorem l2Word_in (o : Nat) (w : World) (h1 : 1 <= o) (h2 : o <= 15) : Calls Tryz.prog 84 #[.int .i64 o] w fun e w' => e = .returned (.tuple #[.string (wordB o), .int .i64 (kindOf o)]) /\ w = w' := by
  rcases (show o = 1 \/ o = 2 \/ o = 3 \/ o = 4 \/ o = 5 \/ o = 6 \/ o = 7 \/ o = 8 \/ o = 9 \/ o = 10 \/ o = 11 \/ o = 12 \/ o = 13 \/ o = 14 \/ o = 15 from by omega) with rfl | rfl | rfl | rfl | rfl | rfl | rfl | rfl | rfl | rfl | rfl | rfl | rfl | rfl | rfl
  · exact l2Word_1 w
  · exact l2Word_2 w
  · exact l2Word_3 w
  · exact l2Word_4 w
  · exact l2Word_5 w
  · exact l2Word_6 w
  · exact l2Word_7 w
  · exact l2Word_8 w
  · exact l2Word_9 w
  · exact l2Word_10 w
  · exact l2Word_11 w
  · exact l2Word_12 w
  · exact l2Word_13 w
  · exact l2Word_14 w
  · exact l2Word_15 w
theorem word_nonempty (o : Nat) (h1 : 1 <= o) (h2 : o <= 15) : (wordB o).toList.isEmpty = false := by
  rw [ByteArray.toList_eq]
  rcases (show o = 1 \/ o = 2 \/ o = 3 \/ o = 4 \/ o = 5 \/ o = 6 \/ o = 7 \/ o = 8 \/ o = 9 \/ o = 10 \/ o = 11 \/ o = 12 \/ o = 13 \/ o = 14 \/ o = 15 from by omega) with rfl | rfl | rfl | rfl | rfl | rfl | rfl | rfl | rfl | rfl | rfl | rfl | rfl | rfl | rfl <;> rfl
theorem empty_iff (t : ByteArray) : t.toList.isEmpty = decide (t.size = 0) := by
  rw [ByteArray.toList_eq, Bool.eq_iff_iff]
  simp only [List.isEmpty_iff, decide_eq_true_eq]
  constructor
  · intro h; show t.data.size = 0; rw [<- Array.length_toList, h]; rfl
  · intro h; apply List.eq_nil_of_length_eq_zero; rw [Array.length_toList]; exact h
theorem l2InsOk_out (i : I3) (w : World) (h : i.op < 1 \/ 15 < i.op) :
    Calls Tryz.prog 66 #[.agg #[.int .i64 i.op, .string i.text, .int .i64 i.n]] w fun e w' => Below w.heap.size w w' /\ e = .returned (.bool false) := by
  go_enter Tryz.func66, Tryz.ntmps66
  go_wp2_with (first | (go_at_call 84; refine (l2Word_out _ _ h).mono ?_; rintro e w' ⟨rfl, rfl⟩))
  go_ret
  exact ⟨(Below.refl _ _).alloc (Nat.le_refl _) _, rfl⟩
end Go.Proofs.YtbbfboikigmghaaGreatDoor
