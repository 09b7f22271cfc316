/-
  Fits in plain words; the walk of impl.Fits.
-/
import Derived.Test.YtmeojnaoljgieabFBehind
namespace Go.Proofs.Ytmeojnaoljgieab
open Go.RowKit Go.Maps
set_option linter.unusedVariables false

def sumB (n : Nat) (s : ByteArray) : ByteArray := ⟨(digs (hash s.data.toList) n).toArray⟩
def same (n : Nat) (x y : G3) : Prop := x.name = y.name ∧ x.ask = y.ask ∧ x.sum = sumB n y.sum
open Classical in
noncomputable def fitP (n : Nat) : List G3 → List G3 → Nat
  | x :: r, y :: t => if same n x y then fitP n r t + 1 else 0
  | _, _ => 0

theorem drop_g {gs : List G3} {k : Nat} (h : k < gs.length) : gs.drop k = gx gs k :: gs.drop (k + 1) := by
  rw [List.drop_eq_getElem_cons h]
  unfold gx
  rw [List.getD_eq_getElem?_getD, List.getElem?_eq_getElem h]
  rfl
theorem fit_go {n k : Nat} {gs ss : List G3} (hf : k + fitP n (gs.drop k) (ss.drop k) = fitP n gs ss) (h1 : k < gs.length) (h2 : k < ss.length) (h3 : same n (gx gs k) (gx ss k)) : k + 1 + fitP n (gs.drop (k + 1)) (ss.drop (k + 1)) = fitP n gs ss := by
  rw [drop_g h1, drop_g h2] at hf
  simp only [fitP, h3, if_true] at hf
  omega
theorem fit_no {n k : Nat} {gs ss : List G3} (hf : k + fitP n (gs.drop k) (ss.drop k) = fitP n gs ss) (h1 : k < gs.length) (h2 : k < ss.length) (h3 : ¬ same n (gx gs k) (gx ss k)) : fitP n gs ss = k := by
  rw [drop_g h1, drop_g h2] at hf
  simp only [fitP, h3, if_false] at hf
  omega
theorem fit_end1 {n k : Nat} {gs ss : List G3} (hf : k + fitP n (gs.drop k) (ss.drop k) = fitP n gs ss) (h1 : gs.length ≤ k) : fitP n gs ss = k := by
  rw [List.drop_eq_nil_of_le h1] at hf
  simp only [fitP] at hf
  omega
theorem fit_end2 {n k : Nat} {gs ss : List G3} (hf : k + fitP n (gs.drop k) (ss.drop k) = fitP n gs ss) (h1 : ss.length ≤ k) : fitP n gs ss = k := by
  rw [List.drop_eq_nil_of_le h1] at hf
  cases h : gs.drop k <;> rw [h] at hf <;> simp only [fitP] at hf <;> omega
theorem sumB_size (n : Nat) (s : ByteArray) : (sumB n s).size = n := by
  unfold sumB
  simp [ByteArray.size, digs_length]

theorem behind_yes {w : World} {g h : Nat} {x : G3} {r : List G3} (c : ChainTo w g (x :: r) h) {nm : ByteArray} {ask : Bool} {s : ByteArray} (e1 : x.name = nm) (e2 : x.ask = ask) (e3 : x.sum = s) (hs : s.size ≤ maxLen) :
    Calls Try.prog 22 #[.pointer (some ⟨g, 0, none⟩), .agg #[.string nm, .bool ask], .string s] w fun e w' => Below w.heap.size w w' ∧ ∃ g', e = .returned (.pointer (some ⟨g', 0, none⟩)) ∧ ChainTo w' g' r h := by
  obtain ⟨mb, g', c1, c2, c3⟩ := c
  refine (behind_node g mb g' x nm ask s w hs c1 c2).mono ?_
  rintro e w' ⟨hb, ⟨_, _, _, rfl⟩ | ⟨hn, _⟩⟩
  · exact ⟨hb, g', rfl, c3.below hb⟩
  · exact absurd ⟨e1, e2, e3⟩ hn
theorem behind_no {w : World} {g h : Nat} {l : List G3} (c : ChainTo w g l h) {nm : ByteArray} {ask : Bool} {s : ByteArray} (hn : ∀ x r, l = x :: r → ¬ (x.name = nm ∧ x.ask = ask ∧ x.sum = s)) (hs : s.size ≤ maxLen) :
    Calls Try.prog 22 #[.pointer (some ⟨g, 0, none⟩), .agg #[.string nm, .bool ask], .string s] w fun e w' => Below w.heap.size w w' ∧ e = .returned (.pointer none) := by
  cases l with
  | nil => exact behind_zero g nm ask s w hs c.2
  | cons x r =>
    obtain ⟨mb, g', c1, c2, c3⟩ := c
    refine (behind_node g mb g' x nm ask s w hs c1 c2).mono ?_
    rintro e w' ⟨hb, ⟨h1, h2, h3, _⟩ | ⟨_, rfl⟩⟩
    · exact absurd ⟨h1, h2, h3⟩ (hn x r rfl)
    · exact ⟨hb, rfl⟩

set_option maxRecDepth 10000 in
set_option maxHeartbeats 2000000 in
theorem implFits_yes (a la sa : Option Addr) (cap lc sc : Nat) (is : List I3) (gs ss : List G3) (out : ByteArray) (n : Nat) (w : World) (hg : RowG w la gs) (hss : RowG w sa ss) (h1 : 1 ≤ n) (h2 : n ≤ 8) (hlg : gs.length ≤ 200) (hls : ss.length ≤ 200) (hsg : ∀ i, (gx gs i).sum.size ≤ maxLen) (hsz : ∀ i, i < ss.length → (gx ss i).sum.size ≤ 1048576) :
    Calls Try.prog 9 #[.agg #[.slice a is.length cap, .slice la gs.length lc, .string out], .slice sa ss.length sc, .int .i64 n] w fun e w' => Below w.heap.size w w' ∧ e = .returned (.int .i64 (fitP n gs ss : Nat)) := by
  have hb0 : Below w.heap.size w (w.alloc (.cells #[.slice a is.length cap, .slice la gs.length lc, .string out] 37)) := (Below.refl _ _).alloc (Nat.le_refl _) _
  have d1 : decide ((200 : Int) < (gs.length : Int)) = false := by simp; omega
  have d2 : decide ((200 : Int) < (ss.length : Int)) = false := by simp; omega
  have HG : Hid (RowG w la gs) := hg
  have HS : Hid (RowG w sa ss) := hss
  have HZ : Hid (∀ i, i < ss.length → (gx ss i).sum.size ≤ 1048576) := hsz
  clear hg hss hsz
  go_enter Try.func9, Try.ntmps9
  go_wp2_with (first | (go_at_call 20; refine (validWidth_yes _ _ (by omega) (by omega)).mono ?_; rintro e w9 ⟨rfl, rfl⟩) | (go_at_call 21; refine (plant_any la lc gs _ (HG.out.below hb0) (by omega) hsg).mono ?_; rintro e w1 ⟨hb1, h, rfl, hc1⟩; have hB1 := bt hb0 hb1; rw [show (w.alloc (.cells #[.slice a is.length cap, .slice la gs.length lc, .string out] 37)).heap.size = w.heap.size + 1 from (by simp)] at hc1; have HC1 : Hid (ChainTo w1 (w.heap.size + 1) gs h) := hc1; clear hc1 hb1 hb0))
  go_loopw [7, 29] (fun at1 i wr => ∃ k g h : Nat, k ≤ ss.length ∧ k ≤ gs.length ∧ i = .int .i64 k ∧ at1 = .pointer (some ⟨g, 0, none⟩) ∧ Hid (ChainTo wr g (gs.drop k) h) ∧ Hid (k + fitP n (gs.drop k) (ss.drop k) = fitP n gs ss) ∧ Below w.heap.size w wr) (fun _ i _ => ss.length - (intOf i).toNat)
  case atStart => exact ⟨0, _, h, Nat.zero_le _, Nat.zero_le _, rfl, rfl, HC1, (show 0 + fitP n gs ss = fitP n gs ss by omega), hB1⟩
  case round =>
    obtain ⟨k, g, h', hk, hkg, rfl, rfl, HC, HF, hbr⟩ := hrel
    clear HC1 hB1
    by_cases hlt : k < ss.length
    · obtain ⟨b, off, rfl, c1, c2, c3⟩ := (HS.out.below hbr) k hlt
      have hzk := HZ.out k hlt
      have hbA : ∀ o, Below wr.heap.size wr (wr.alloc o).drew := fun o => ((Below.refl _ _).alloc (Nat.le_refl _) _).drew
      obtain ⟨y, ey⟩ : ∃ y, gx ss k = y := ⟨_, rfl⟩
      rw [ey] at c1 c2 c3 hzk
      have EY : Hid (gx ss k = y) := ey
      obtain ⟨q, eq⟩ : ∃ q, sumB n y.sum = q := ⟨_, rfl⟩
      have EQ : Hid (sumB n y.sum = q) := eq
      have hq : q.size ≤ maxLen := by rw [← eq, sumB_size]; unfold maxLen; omega
      have HSUM : Hid (∀ W : World, Calls Try.prog 23 #[.string y.sum, .int .i64 n] W fun e w' => e = .returned (.string q) ∧ Below W.heap.size W w') := fun W => by rw [← eq]; exact implSum_yes y.sum n W hzk h1 h2
      clear ey eq
      by_cases hsame : k < gs.length ∧ same n (gx gs k) y
      · have HSM : Hid (k < gs.length ∧ same n (gx gs k) y) := hsame
        have HC' : Hid (ChainTo wr g (gx gs k :: gs.drop (k + 1)) h') := by have := HC.out; rw [drop_g hsame.1] at this; exact this
        have HBE : Hid (∀ W : World, Below wr.heap.size wr W → Calls Try.prog 22 #[.pointer (some ⟨g, 0, none⟩), .agg #[.string y.name, .bool y.ask], .string q] W fun e w' => Below W.heap.size W w' ∧ ∃ g', e = .returned (.pointer (some ⟨g', 0, none⟩)) ∧ ChainTo w' g' (gs.drop (k + 1)) h') := fun W hW => behind_yes (HC'.out.below hW) HSM.out.2.1 HSM.out.2.2.1 (by rw [← EQ.out]; exact HSM.out.2.2.2) hq
        clear hsame HC'
        go_wp2_with fail
        go_region_held3 (fun w' => w'.cell? ⟨wr.heap.size, 0, none⟩ = some (.string y.name) ∧ w'.cell? ⟨wr.heap.size, 1, none⟩ = some (.bool y.ask) ∧ w'.cell? ⟨wr.heap.size, 2, none⟩ = some (.string y.sum))
          (first | assumption | exact ⟨cell_below hb2 (by simp [go_sem]), cell_below hb2 (by simp [go_sem]), cell_below hb2 (by simp [go_sem])⟩ | exact ⟨cell_below hb3 (cell_below hb2 (by simp [go_sem])), cell_below hb3 (cell_below hb2 (by simp [go_sem])), cell_below hb3 (cell_below hb2 (by simp [go_sem]))⟩ | (simp [go_sem]; done))
          (first | (go_at_call 23; refine (HSUM.out _).mono ?_; rintro e w2 ⟨rfl, hb2⟩) | (go_at_call 22; refine (HBE.out _ (bt (hbA _) hb2)).mono ?_; rintro e w3 ⟨hb3, g', rfl, hc3⟩))
        all_goals
          have HC3 : Hid (ChainTo w3 g' (gs.drop (k + 1)) h') := hc3
          clear hc3
          go_wp2
          go_roundw
          case rel => exact ⟨k + 1, g', h', by omega, by have := HSM.out.1; omega, by go_num, rfl, HC3.out, fit_go HF.out HSM.out.1 hlt (by rw [EY.out]; exact HSM.out.2), bt hbr (bt (bt (hbA _) hb2) hb3)⟩
          case measure => simp [intOf]; omega
      · have HSM : Hid (¬ (k < gs.length ∧ same n (gx gs k) y)) := hsame
        have HBE : Hid (∀ W : World, Below wr.heap.size wr W → Calls Try.prog 22 #[.pointer (some ⟨g, 0, none⟩), .agg #[.string y.name, .bool y.ask], .string q] W fun e w' => Below W.heap.size W w' ∧ e = .returned (.pointer none)) := fun W hW => behind_no (HC.out.below hW) (fun x r e hx => by
          have hkl : k < gs.length := by
            rcases Nat.lt_or_ge k gs.length with h | h
            · exact h
            · rw [List.drop_eq_nil_of_le h] at e; cases e
          rw [drop_g hkl] at e
          injection e with e1 e2
          subst e1
          exact HSM.out ⟨hkl, hx.1, hx.2.1, by rw [EQ.out]; exact hx.2.2⟩) hq
        have HRES : Hid (fitP n gs ss = k) := by
          rcases Nat.lt_or_ge k gs.length with h | h
          · exact fit_no HF.out h hlt (fun hx => HSM.out ⟨h, by rw [← EY.out]; exact hx⟩)
          · exact fit_end1 HF.out h
        clear hsame
        go_wp2_with fail
        go_region_held3 (fun w' => w'.cell? ⟨wr.heap.size, 0, none⟩ = some (.string y.name) ∧ w'.cell? ⟨wr.heap.size, 1, none⟩ = some (.bool y.ask) ∧ w'.cell? ⟨wr.heap.size, 2, none⟩ = some (.string y.sum))
          (first | assumption | exact ⟨cell_below hb2 (by simp [go_sem]), cell_below hb2 (by simp [go_sem]), cell_below hb2 (by simp [go_sem])⟩ | exact ⟨cell_below hb3 (cell_below hb2 (by simp [go_sem])), cell_below hb3 (cell_below hb2 (by simp [go_sem])), cell_below hb3 (cell_below hb2 (by simp [go_sem]))⟩ | (simp [go_sem]; done))
          (first | (go_at_call 23; refine (HSUM.out _).mono ?_; rintro e w2 ⟨rfl, hb2⟩) | (go_at_call 22; refine (HBE.out _ (bt (hbA _) hb2)).mono ?_; rintro e w3 ⟨hb3, rfl⟩))
        all_goals
          go_wp2
          go_ret
          exact ⟨bt hbr (bt (bt (hbA _) hb2) hb3), by rw [HRES.out]; rfl⟩
    · have HRES : Hid (fitP n gs ss = ss.length) := by
        have := fit_end2 HF.out (by omega)
        show fitP n gs ss = ss.length
        omega
      go_wp2
      go_ret
      exact ⟨hbr, by rw [HRES.out]; rfl⟩

end Go.Proofs.Ytmeojnaoljgieab
