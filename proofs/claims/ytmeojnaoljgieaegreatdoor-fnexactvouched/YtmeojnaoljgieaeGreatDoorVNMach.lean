import Derived.Test.YtmeojnaoljgieaeGreatDoorVBytes
import Derived.Test.YtmeojnaoljgieaeGreatDoorVStRow
import Derived.Test.YtmeojnaoljgieaeGreatDoorVValidS
import Derived.Test.YtmeojnaoljgieaeGreatDoorVSum
import Derived.Test.YtmeojnaoljgieaeGreatDoorVShelf
import Derived.Lib.SmallJoins
namespace Go.Proofs.YtmeojnaoljgieaeGreatDoor
open Go.RowKit
set_option linter.unusedVariables false
set_option maxHeartbeats 8000000
set_option maxRecDepth 100000
theorem slice8 (n : Nat) (h2 : n <= 8) (a : Addr) (w : World) : (Instr.sliceAt 272 (.pointer (some a)) none (some (.int .i64 n)) none).run Tryz.prog w = .ok (.slice (some a) n 8) w := by
  have hl : Tryz.prog.arrayLen 272 = 8 := by kernel_rfl
  rw [run_sliceAt_array_h w 272 a (by kernel_rfl) .i64 n (by omega) (by rw [hl]; omega), hl]
  simp [go_sem]
theorem sumBytes_lit (s : ByteArray) (n : Nat) (V : Int) (w : World) (HV : Hid (hash s.data.toList = V)) (hs : s.size <= 1048576) (h1 : 1 <= n) (h2 : n <= 8) :
    Calls Tryz.prog 203 #[.string s, .int .i64 n] w fun e w' => e = .returned (.agg #[.int .u8 (cell8 V n 0), .int .u8 (cell8 V n 1), .int .u8 (cell8 V n 2), .int .u8 (cell8 V n 3), .int .u8 (cell8 V n 4), .int .u8 (cell8 V n 5), .int .u8 (cell8 V n 6), .int .u8 (cell8 V n 7)]) ∧
      (w.alloc (.cells #[.int .u8 (cell8 V n 0), .int .u8 (cell8 V n 1), .int .u8 (cell8 V n 2), .int .u8 (cell8 V n 3), .int .u8 (cell8 V n 4), .int .u8 (cell8 V n 5), .int .u8 (cell8 V n 6), .int .u8 (cell8 V n 7)] 272)).alloc (.cells #[.int .u8 (cell8 V n 0), .int .u8 (cell8 V n 1), .int .u8 (cell8 V n 2), .int .u8 (cell8 V n 3), .int .u8 (cell8 V n 4), .int .u8 (cell8 V n 5), .int .u8 (cell8 V n 6), .int .u8 (cell8 V n 7)] 272) = w' := by
  have h := sumBytes_any s n w hs h1 h2
  rw [HV.out] at h
  exact h
theorem implSum_yes (s : ByteArray) (n : Nat) (w : World) (hs : s.size <= 1048576) (h1 : 1 <= n) (h2 : n <= 8) :
    Calls Tryz.prog 175 #[.string s, .int .i64 n] w fun e w' => e = .returned (.string ⟨(digs (hash s.data.toList) n).toArray⟩) /\ Below w.heap.size w w' := by
  obtain ⟨hV1, hV2⟩ := hash_bd s.data.toList
  generalize hV : hash s.data.toList = V at *
  have HV : Hid (hash s.data.toList = V) := hV
  clear hV
  have hcv : (convert 22 9 (.slice (some ⟨w.heap.size + 1 + 1, 0, none⟩) n 8)).run Tryz.prog (((w.alloc (.cells (cells8 V n) 272)).alloc (.cells (cells8 V n) 272)).alloc (.cells (cells8 V n) 272)) = .ok (.string ⟨(digs V n).toArray⟩) (((w.alloc (.cells (cells8 V n) 272)).alloc (.cells (cells8 V n) 272)).alloc (.cells (cells8 V n) 272)) := by
    have := run_convert_bytes_back (P := Tryz.prog) (((w.alloc (.cells (cells8 V n) 272)).alloc (.cells (cells8 V n) 272)).alloc (.cells (cells8 V n) 272)) 22 9 5 ⟨w.heap.size + 1 + 1, 0, none⟩ 8 (digs V n) Tryz.underlying22 Tryz.underlying5 Tryz.underlying9 (fun t ht => by
      rw [<- cell8_digs V hV1 n t ht]
      have hn : t < n := by simpa [digs_length] using ht
      rcases (show t = 0 \/ t = 1 \/ t = 2 \/ t = 3 \/ t = 4 \/ t = 5 \/ t = 6 \/ t = 7 from by omega) with rfl | rfl | rfl | rfl | rfl | rfl | rfl | rfl <;> simp [cells8, Addr.add, go_sem])
    rwa [digs_length] at this
  simp only [cells8] at hcv
  have hsl := slice8 n h2
  go_enter Tryz.func175, Tryz.ntmps175
  go_wp2_with (first | (go_at_call 121; refine (validWidth_yes _ _ (by omega) (by omega)).mono ?_; rintro e w' ⟨rfl, rfl⟩) | (go_at_call 203; refine (sumBytes_lit s n V _ HV hs h1 h2).mono ?_; rintro e w' ⟨rfl, rfl⟩))
  go_ret
  exact ⟨rfl, (((Below.refl _ _).alloc (Nat.le_refl _) _).alloc (by simp) _).alloc (by simp; omega) _⟩
def sumB (n : Nat) (s : ByteArray) : ByteArray := ⟨(digs (hash s.data.toList) n).toArray⟩
def GlOk (n : Nat) (g : G3) : Prop := NameOk g.name /\ g.sum.size = n
def RcOk (n : Nat) (r : T3) : Prop := progOk r.code = true /\ r.out.size = n /\ r.looks.length <= 200 /\ ∀ i, i < r.looks.length -> GlOk n (gx r.looks i)
def TxOk (n : Nat) (ts : List ByteArray) : Prop := ts.length <= 5000 /\ (∀ i, i < ts.length -> (nx ts i).size <= 2002) /\ Asc (ts.map (sumB n))
def StoOk (n : Nat) (ts : List ByteArray) (rs : List T3) : Prop := TxOk n ts /\ rs.length <= 2000 /\ ∀ i, i < rs.length -> RcOk n (qx rs i)
theorem nx_sums (n : Nat) (ts : List ByteArray) (i : Nat) (h : i < ts.length) : nx (ts.map (sumB n)) i = sumB n (nx ts i) := by
  unfold nx
  rw [List.getD_eq_getElem?_getD, List.getD_eq_getElem?_getD, List.getElem?_map, List.getElem?_eq_getElem h]
  rfl
theorem b_iff {b : Bool} {P : Prop} (h : b = true ↔ P) : (P /\ b = true) \/ (¬ P /\ b = false) := by
  cases b
  · exact Or.inr ⟨fun p => absurd (h.2 p) (by simp), rfl⟩
  · exact Or.inl ⟨h.1 rfl, rfl⟩
theorem l4GlanceOk_any (g : G3) (n : Nat) (w : World) (h8 : n <= 8) (hn : g.name.size <= maxLen) (hs : g.sum.size <= maxLen) :
    Calls Tryz.prog 114 #[.agg #[.string g.name, .bool g.ask, .string g.sum], .int .i64 n] w fun e w' => Below w.heap.size w w' /\ ∃ b, e = .returned (.bool b) /\ (b = true ↔ GlOk n g) := by
  unfold maxLen at hn hs
  have hb0 : Below w.heap.size w (w.alloc (.cells #[.string g.name, .bool g.ask, .string g.sum] 170)) := (Below.refl _ _).alloc (Nat.le_refl _) _
  by_cases h1 : NameOk g.name
  · have e1 := nameB_true h1
    by_cases h2 : g.sum.size = n
    · have d2 : ((g.sum.size : Int) == (n : Int)) = true := by simp; omega
      have HH : Hid (GlOk n g) := ⟨h1, h2⟩
      clear h2
      go_enter Tryz.func114, Tryz.ntmps114
      go_wp2_with (first | (go_at_call 47; refine (l2NameOk_any g.name _ hn).mono ?_; rintro e w9 ⟨rfl, rfl⟩; rw [e1]))
      go_ret
      exact ⟨hb0, true, rfl, iff_yes HH.out⟩
    · have d2 : ((g.sum.size : Int) == (n : Int)) = false := by simp; omega
      have HH : Hid (¬ GlOk n g) := fun h => h2 h.2
      clear h2
      go_enter Tryz.func114, Tryz.ntmps114
      go_wp2_with (first | (go_at_call 47; refine (l2NameOk_any g.name _ hn).mono ?_; rintro e w9 ⟨rfl, rfl⟩; rw [e1]))
      go_ret
      exact ⟨hb0, false, rfl, iff_no HH.out⟩
  · have e1 := nameB_false h1
    have HH : Hid (¬ GlOk n g) := fun h => h1 h.1
    go_enter Tryz.func114, Tryz.ntmps114
    go_wp2_with (first | (go_at_call 47; refine (l2NameOk_any g.name _ hn).mono ?_; rintro e w9 ⟨rfl, rfl⟩; rw [e1]))
    go_ret
    exact ⟨hb0, false, rfl, iff_no HH.out⟩
/-- A record as a valid-record function is handed it. -/
structure RcIn (w : World) (a : Option Addr) (is : List I3) (la : Option Addr) (gs : List G3) : Prop where
  rc : Row3 w a is
  rg : RowG w la gs
  lc : is.length <= 1048576
  lg : gs.length <= 1048576
  xc : ∀ i, (ix is i).text.size <= maxLen
  ng : ∀ i, (gx gs i).name.size <= maxLen
  sg : ∀ i, (gx gs i).sum.size <= maxLen
theorem l4RecordOk_any (a la : Option Addr) (cap lc : Nat) (is : List I3) (gs : List G3) (out : ByteArray) (n : Nat) (w : World) (h8 : n <= 8) (h : RcIn w a is la gs) (ho : out.size <= maxLen) :
    Calls Tryz.prog 58 #[.agg #[.slice a is.length cap, .slice la gs.length lc, .string out], .int .i64 n] w fun e w' => Below w.heap.size w w' /\ ∃ b, e = .returned (.bool b) /\ (b = true ↔ RcOk n ⟨is, gs, out⟩) := by
  have hb0 : Below w.heap.size w (w.alloc (.cells #[.slice a is.length cap, .slice la gs.length lc, .string out] 63)) := (Below.refl _ _).alloc (Nat.le_refl _) _
  have k1 : (w.alloc (.cells #[.slice a is.length cap, .slice la gs.length lc, .string out] 63)).cell? ⟨w.heap.size, 1, none⟩ = some (.slice la gs.length lc) := by simp [go_sem]
  have k2 : (w.alloc (.cells #[.slice a is.length cap, .slice la gs.length lc, .string out] 63)).cell? ⟨w.heap.size, 2, none⟩ = some (.string out) := by simp [go_sem]
  unfold maxLen at ho
  have hlg := h.lg
  have HRG : Hid (RowG w la gs) := h.rg
  have HNG : Hid (∀ i, (gx gs i).name.size <= maxLen) := h.ng
  have HSG : Hid (∀ i, (gx gs i).sum.size <= maxLen) := h.sg
  obtain ⟨v, ev⟩ : ∃ v, progOk is = v := ⟨_, rfl⟩
  have EV : Hid (progOk is = v) := ev
  go_enter Tryz.func58, Tryz.ntmps58
  go_wp2_with fail
  refine (specValid_any a cap is _ (h.rc.below hb0) h.lc h.xc).mono ?_
  rintro e w1 ⟨hb1, rfl⟩
  rw [ev]
  have hB1 := bt hb0 hb1
  have k11 := cell_below hb1 k1
  have k12 := cell_below hb1 k2
  clear hb0 hb1 k1 k2 h ev
  cases v
  · go_wp2
    go_ret
    exact ⟨hB1, false, rfl, iff_no (fun k => by have := k.1; rw [EV.out] at this; cases this)⟩
  · by_cases h2 : out.size = n
    · have d2 : ((out.size : Int) != (n : Int)) = false := by simp; omega
      have H2 : Hid (out.size = n) := h2
      clear h2
      by_cases h3 : 200 < gs.length
      · have d3 : decide ((200 : Int) < (gs.length : Int)) = true := by simp; omega
        go_wp2
        go_ret
        exact ⟨hB1, false, rfl, iff_no (fun k => by have := k.2.2.1; simp only at this; omega)⟩
      · have d3 : decide ((200 : Int) < (gs.length : Int)) = false := by simp; omega
        go_wp2
        go_loopw [5] (fun i wr => ∃ k : Nat, k <= gs.length /\ i = .int .i64 k /\ Hid (∀ i, i < k -> GlOk n (gx gs i)) /\ wr.cell? ⟨w.heap.size, 1, none⟩ = some (.slice la gs.length lc) /\ Below w.heap.size w wr) (fun i _ => gs.length - (intOf i).toNat)
        case atStart => exact ⟨0, Nat.zero_le _, rfl, (fun i hi => by omega : ∀ i, i < 0 -> GlOk n (gx gs i)), k11, hB1⟩
        case round =>
          obtain ⟨k, hk, rfl, HK, hx, hbr⟩ := hrel
          by_cases hlt : k < gs.length
          · obtain ⟨b, off, rfl, c1, c2, c3⟩ := (HRG.out.below hbr) k hlt
            have hnk := HNG.out k
            have hsk := HSG.out k
            have HG1 : Hid (GlOk n (gx gs k) -> ∀ i, i < k + 1 -> GlOk n (gx gs i)) := fun hg => ext_succ HK.out hg
            have HG0 : Hid (¬ GlOk n (gx gs k) -> ¬ RcOk n ⟨is, gs, out⟩) := fun hg h => hg (h.2.2.2 k hlt)
            generalize gx gs k = g at *
            clear k11 k12
            go_wp2_with fail
            refine (l4GlanceOk_any g n _ h8 hnk hsk).mono ?_
            rintro e w2 ⟨hb2, b, rfl, hb⟩
            have hx2 := cell_below hb2 hx
            rcases b_iff hb with ⟨hg, rfl⟩ | ⟨hg, rfl⟩
            · have HO : Hid (∀ i, i < k + 1 -> GlOk n (gx gs i)) := HG1.out hg
              clear hb hg
              go_wp2
              go_roundw
              case rel => exact ⟨k + 1, by omega, by go_num, HO.out, hx2, bt hbr hb2⟩
              case measure => simp [intOf]; omega
            · have HO : Hid (¬ RcOk n ⟨is, gs, out⟩) := HG0.out hg
              clear hb hg
              go_wp2
              go_ret
              exact ⟨bt hbr hb2, false, rfl, iff_no HO.out⟩
          · have HO : Hid (RcOk n ⟨is, gs, out⟩) := ⟨EV.out, H2.out, by show gs.length <= 200; omega, fun i hi => HK.out i (by simp only at hi; omega)⟩
            go_wp2
            go_ret
            exact ⟨hbr, true, rfl, iff_yes HO.out⟩
    · have d2 : ((out.size : Int) != (n : Int)) = true := by simp; omega
      go_wp2
      go_ret
      exact ⟨hB1, false, rfl, iff_no (fun k => h2 k.2.1)⟩
theorem validRecord_any (a la : Option Addr) (cap lc : Nat) (is : List I3) (gs : List G3) (out : ByteArray) (n : Nat) (w : World) (hT : Tab w) (h8 : n <= 8) (h : RcIn w a is la gs) (ho : out.size <= maxLen) :
    Calls Tryz.prog 65 #[.agg #[.slice a is.length cap, .slice la gs.length lc, .string out], .int .i64 n] w fun e w' => Below w.heap.size w w' /\ ∃ b, e = .returned (.bool b) /\ (b = true ↔ RcOk n ⟨is, gs, out⟩) := by
  have hb0 : Below w.heap.size w (w.alloc (.cells #[.slice a is.length cap, .slice la gs.length lc, .string out] 63)) := (Below.refl _ _).alloc (Nat.le_refl _) _
  have k1 : (w.alloc (.cells #[.slice a is.length cap, .slice la gs.length lc, .string out] 63)).cell? ⟨w.heap.size, 1, none⟩ = some (.slice la gs.length lc) := by simp [go_sem]
  have k2 : (w.alloc (.cells #[.slice a is.length cap, .slice la gs.length lc, .string out] 63)).cell? ⟨w.heap.size, 2, none⟩ = some (.string out) := by simp [go_sem]
  unfold maxLen at ho
  have hlg := h.lg
  have HRG : Hid (RowG w la gs) := h.rg
  have HNG : Hid (∀ i, (gx gs i).name.size <= maxLen) := h.ng
  have HSG : Hid (∀ i, (gx gs i).sum.size <= maxLen) := h.sg
  obtain ⟨v, ev⟩ : ∃ v, progOk is = v := ⟨_, rfl⟩
  have EV : Hid (progOk is = v) := ev
  go_enter Tryz.func65, Tryz.ntmps65
  go_wp2_with fail
  refine (implValid_any a cap is _ (hT.below hb0) (h.rc.below hb0) h.lc h.xc).mono ?_
  rintro e w1 ⟨hb1, rfl⟩
  rw [ev]
  have hB1 := bt hb0 hb1
  have k11 := cell_below hb1 k1
  have k12 := cell_below hb1 k2
  clear hb0 hb1 k1 k2 h ev
  cases v
  · go_wp2
    go_ret
    exact ⟨hB1, false, rfl, iff_no (fun k => by have := k.1; rw [EV.out] at this; cases this)⟩
  · by_cases h2 : out.size = n
    · have d2 : ((out.size : Int) != (n : Int)) = false := by simp; omega
      have H2 : Hid (out.size = n) := h2
      clear h2
      by_cases h3 : 200 < gs.length
      · have d3 : decide ((200 : Int) < (gs.length : Int)) = true := by simp; omega
        go_wp2
        go_ret
        exact ⟨hB1, false, rfl, iff_no (fun k => by have := k.2.2.1; simp only at this; omega)⟩
      · have d3 : decide ((200 : Int) < (gs.length : Int)) = false := by simp; omega
        go_wp2
        go_loopw [27] (fun i wr => ∃ k : Nat, k <= gs.length /\ i = .int .i64 k /\ Hid (∀ i, i < k -> GlOk n (gx gs i)) /\ Below w.heap.size w wr) (fun i _ => gs.length - (intOf i).toNat)
        case atStart => exact ⟨0, Nat.zero_le _, rfl, (fun i hi => by omega : ∀ i, i < 0 -> GlOk n (gx gs i)), hB1⟩
        case round =>
          obtain ⟨k, hk, rfl, HK, hbr⟩ := hrel
          by_cases hlt : k < gs.length
          · obtain ⟨b, off, rfl, c1, c2, c3⟩ := (HRG.out.below hbr) k hlt
            have hnk := HNG.out k
            have hsk := HSG.out k
            have HG1 : Hid (GlOk n (gx gs k) -> ∀ i, i < k + 1 -> GlOk n (gx gs i)) := fun hg => ext_succ HK.out hg
            have HG0 : Hid (¬ GlOk n (gx gs k) -> ¬ RcOk n ⟨is, gs, out⟩) := fun hg h => hg (h.2.2.2 k hlt)
            generalize gx gs k = g at *
            unfold maxLen at hnk hsk
            clear k11 k12
            by_cases g1 : NameOk g.name
            · have e1 := nameB_true g1
              by_cases g2 : g.sum.size = n
              · have d4 : ((g.sum.size : Int) != (n : Int)) = false := by simp; omega
                have HO : Hid (∀ i, i < k + 1 -> GlOk n (gx gs i)) := HG1.out ⟨g1, g2⟩
                clear g2
                go_wp2_with (first | (go_at_call 104; refine (validName_any g.name _ hnk).mono ?_; rintro e w9 ⟨rfl, rfl⟩; rw [e1]))
                go_roundw
                case rel => exact ⟨k + 1, by omega, by go_num, HO.out, hbr.alloc hbr.size _⟩
                case measure => simp [intOf]; omega
              · have d4 : ((g.sum.size : Int) != (n : Int)) = true := by simp; omega
                have HO : Hid (¬ RcOk n ⟨is, gs, out⟩) := HG0.out (fun h => g2 h.2)
                clear g2
                go_wp2_with (first | (go_at_call 104; refine (validName_any g.name _ hnk).mono ?_; rintro e w9 ⟨rfl, rfl⟩; rw [e1]))
                go_ret
                exact ⟨hbr.alloc hbr.size _, false, rfl, iff_no HO.out⟩
            · have e1 := nameB_false g1
              have HO : Hid (¬ RcOk n ⟨is, gs, out⟩) := HG0.out (fun h => g1 h.1)
              go_wp2_with (first | (go_at_call 104; refine (validName_any g.name _ hnk).mono ?_; rintro e w9 ⟨rfl, rfl⟩; rw [e1]))
              go_ret
              exact ⟨hbr.alloc hbr.size _, false, rfl, iff_no HO.out⟩
          · have HO : Hid (RcOk n ⟨is, gs, out⟩) := ⟨EV.out, H2.out, by show gs.length <= 200; omega, fun i hi => HK.out i (by simp only at hi; omega)⟩
            go_wp2
            go_ret
            exact ⟨hbr, true, rfl, iff_yes HO.out⟩
    · have d2 : ((out.size : Int) != (n : Int)) = true := by simp; omega
      go_wp2
      go_ret
      exact ⟨hB1, false, rfl, iff_no (fun k => h2 k.2.1)⟩
def Mach (w : World) (m : Nat) (tx cd : Value) (pl st lk : Int) : Prop := w.heap[m]? = some (.cells #[tx, cd, .int .i64 pl, .int .i64 st, .int .i64 lk] 245 (0, 0))
def strV (ss : List ByteArray) : List Value := ss.map .string
/-- The machine at block m, the texts ss on its stack. -/
def MOk (B : Nat) (w : World) (m : Nat) (ss : List ByteArray) (cd : Value) (pl st lk : Int) : Prop :=
  B <= m /\ ∃ v, Mach w m v cd pl st lk /\ w.ownsRow B 9 1 v ss.length (strV ss)
theorem heap_new (w : World) (o : Obj) : (w.alloc o).heap[w.heap.size]? = some o := by unfold World.alloc; simp
theorem Mach.lt {w : World} {m : Nat} {tx cd : Value} {pl st lk : Int} (h : Mach w m tx cd pl st lk) : m < w.heap.size := by
  rcases Nat.lt_or_ge m w.heap.size with h' | h'
  · exact h'
  · unfold Mach at h; rw [Array.getElem?_eq_none h'] at h; cases h
theorem Mach.ne {w : World} {m B g n cap : Nat} {tx cd : Value} {pl st lk : Int} {xs : List Value} (h : Mach w m tx cd pl st lk) (ho : w.ownsRow B 9 1 (.slice (some ⟨g, 0, none⟩) n cap) n xs) : m ≠ g := by
  rintro rfl
  rcases ho.2 with ⟨h0, _⟩ | ⟨g', cap', cur, hv, hg, hh, _⟩
  · simp at h0
  · simp only [Value.slice.injEq, Option.some.injEq, Addr.mk.injEq, and_true, true_and] at hv
    rw [<- hv.1] at hh
    unfold Mach at h
    rw [h] at hh
    simp at hh
theorem MOk.below {B : Nat} {w w' : World} {m : Nat} {ss : List ByteArray} {cd : Value} {pl st lk : Int} (h : MOk B w m ss cd pl st lk) (hb : Below w.heap.size w w') : MOk B w' m ss cd pl st lk := by
  obtain ⟨hB, v, hm, ho⟩ := h
  exact ⟨hB, v, by have := hm.lt; unfold Mach at *; rw [hb.block m this]; exact hm, ownsRow_below ho hb⟩
theorem Mach.cell {w : World} {m : Nat} {tx cd : Value} {pl st lk : Int} (h : Mach w m tx cd pl st lk) : (∀ x, (w.alloc x).cell? ⟨m, 0, none⟩ = some tx) /\ (∀ x, (w.alloc x).cell? ⟨m, 2, none⟩ = some (.int .i64 pl)) /\ (∀ x, (w.alloc x).cell? ⟨m, 3, none⟩ = some (.int .i64 st)) /\ (∀ x, (w.alloc x).cell? ⟨m, 4, none⟩ = some (.int .i64 lk)) := by
  have hl := h.lt
  have e : ∀ j x, (w.alloc x).cell? ⟨m, j, none⟩ = w.cell? ⟨m, j, none⟩ := fun j x => World.cell?_alloc_lt _ _ _ hl
  exact ⟨fun x => by rw [e, Lib.cell_of_heap h]; rfl, fun x => by rw [e, Lib.cell_of_heap h]; rfl, fun x => by rw [e, Lib.cell_of_heap h]; rfl, fun x => by rw [e, Lib.cell_of_heap h]; rfl⟩
theorem over_any (m : Nat) (tx cd : Value) (pl st lk c : Int) (t : ByteArray) (w : World) (hM : Mach w m tx cd pl st lk) :
    Calls Tryz.prog 206 #[.pointer (some ⟨m, 0, none⟩), .int .i64 c, .string t] w fun e w' => e = .returned (turnV true c t false ⟨#[]⟩ st) /\ Below w.heap.size w w' := by
  have c3 := hM.cell.2.2.1
  clear hM
  go_enter Tryz.func206, Tryz.ntmps206
  go_wp2
  exact bodyPost_ret (v := turnV true c t false ⟨#[]⟩ st) (by simp [results, Tryz.results206, go_sem, turnV]) rfl ⟨rfl, (Below.refl _ _).alloc (Nat.le_refl _) _⟩
theorem stuck_any (m : Nat) (tx cd : Value) (pl st lk : Int) (w : World) (hM : Mach w m tx cd pl st lk) (hP : P10 w) (h0 : 0 <= pl) (h1 : pl <= 2000) :
    Calls Tryz.prog 207 #[.pointer (some ⟨m, 0, none⟩)] w fun e w' => e = .returned (turnV true 2 ⟨(Lib.decDigits pl.toNat).toArray⟩ false ⟨#[]⟩ st) /\ Below w.heap.size w w' := by
  have c2 := hM.cell.2.1
  have hi : Lib.itoa pl = Lib.decDigits pl.toNat := by unfold Lib.itoa; rw [if_neg (by omega)]
  rw [<- hi]
  clear hi
  generalize hq : (⟨(Lib.itoa pl).toArray⟩ : ByteArray) = q
  have HQ : Hid ((⟨(Lib.itoa pl).toArray⟩ : ByteArray) = q) := hq
  clear hq
  go_enter Tryz.func207, Tryz.ntmps207
  go_wp2_with fail
  have hb0 : Below w.heap.size w (w.alloc (.cells #[.bool false, .int .i64 0, .string ⟨#[]⟩, .bool false, .string ⟨#[]⟩, .int .i64 0] 173)) := (Below.refl _ _).alloc (Nat.le_refl _) _
  refine (Tryz.strconv_Itoa pl (by omega) (by omega) _ (hP.below hb0)).mono ?_
  rintro e w1 ⟨rfl, k', os', hw1⟩
  have hb1 := Lib.below_grow _ (w.alloc (.cells #[.bool false, .int .i64 0, .string ⟨#[]⟩, .bool false, .string ⟨#[]⟩, .int .i64 0] 173)) (Nat.le_refl _) k' os'
  rw [<- hw1] at hb1
  clear hw1
  rw [HQ.out]
  have hB1 : Below w.heap.size w w1 := hb0.trans (hb1.mono hb0.size)
  have hM1 : Mach w1 m tx cd pl st lk := by have := hM.lt; unfold Mach at *; rw [hB1.block m this]; exact hM
  go_wp2_with fail
  refine (over_any m tx cd pl st lk 2 q w1 hM1).mono ?_
  rintro e w2 ⟨rfl, hb2⟩
  have hB2 : Below w.heap.size w w2 := hB1.trans (hb2.mono hB1.size)
  unfold turnV
  have hs1 : w.heap.size < w1.heap.size := by have := hb1.size; simp at this; omega
  have hblk : w2.heap[w.heap.size]? = some (.cells #[.bool false, .int .i64 0, .string ⟨#[]⟩, .bool false, .string ⟨#[]⟩, .int .i64 0] 173 (0, 0)) := by
    rw [hb2.block _ hs1, hb1.block _ (by simp), heap_new]
  have k0 := Lib.cell_of_heap hblk 0
  have k1 := Lib.cell_of_heap hblk 1
  have k2 := Lib.cell_of_heap hblk 2
  have k3 := Lib.cell_of_heap hblk 3
  have k4 := Lib.cell_of_heap hblk 4
  have k5 := Lib.cell_of_heap hblk 5
  simp only [List.getElem?_toArray, List.getElem?_cons_zero, List.getElem?_cons_succ] at k0 k1 k2 k3 k4 k5
  have f0 : ∀ j, w2.frozen? ⟨w.heap.size, j, none⟩ = false := fun j => Lib.frozen_of_heap hblk j
  clear hb0 hb1 hB1 hM hM1 hb2 hP hblk
  go_wp2
  exact bodyPost_ret (v := turnV true 2 q false ⟨#[]⟩ st) (by simp [results, Tryz.results207, go_sem, turnV, k0, k1, k2, k3, k4, k5]) rfl ⟨rfl, (((((hB2.setCell (Nat.le_refl _) _).setCell (Nat.le_refl _) _).setCell (Nat.le_refl _) _).setCell (Nat.le_refl _) _).setCell (Nat.le_refl _) _).setCell (Nat.le_refl _) _⟩
theorem Tryz.info9b : (Tryz.prog.info? 9).map (fun i => (i.zero, i.size, i.bytes)) = some (some (.string ⟨#[]⟩), 1, 16) := by kernel_rfl
theorem own_lt {w : World} {B n : Nat} {v : Value} {xs : List Value} (h : w.ownsRow B 9 1 v n xs) : ∀ k, v.ownBlock = some k -> B <= k /\ k < w.heap.size := fun k hk => h.lt k hk
theorem Mach.ne' {w : World} {m B n : Nat} {v tx cd : Value} {pl st lk : Int} {xs : List Value} (h : Mach w m tx cd pl st lk) (ho : w.ownsRow B 9 1 v n xs) : some m ≠ v.ownBlock := by
  intro e
  rcases ho.2 with ⟨rfl, _⟩ | ⟨g, cap, cur, rfl, _⟩
  · simp [Value.ownBlock] at e
  · simp [Value.ownBlock] at e
    exact h.ne ho e
/-- The machine's slice of texts is set anew. -/
theorem MOk.put {B : Nat} {w : World} {m : Nat} {ss : List ByteArray} {tx v cd : Value} {pl st lk : Int} (hB : B <= m) (hm : Mach w m tx cd pl st lk) (ho : w.ownsRow B 9 1 v ss.length (strV ss)) : MOk B (w.setCell ⟨m, 0, none⟩ v) m ss cd pl st lk := by
  refine ⟨hB, v, ?_, ?_⟩
  · unfold Mach at *
    rw [Joins.block_setCell hm]
    rfl
  · have hne := hm.ne' ho
    refine ⟨ho.1, ?_⟩
    rcases ho.2 with h0 | ⟨g, cap, cur, hv, hg, hh, r⟩
    · exact Or.inl h0
    · refine Or.inr ⟨g, cap, cur, hv, hg, ?_, r⟩
      rw [Below.heap_setCell w ⟨m, 0, none⟩ v g (by rintro e; apply hne; rw [hv]; simp [Value.ownBlock, e])]
      exact hh
theorem put_no (B m : Nat) (ss : List ByteArray) (cd : Value) (pl st lk : Int) (t : ByteArray) (w : World) (hM : MOk B w m ss cd pl st lk) (hs : t.size <= 9223372036854775807) (h2 : ss.length <= 50) (h : 2000 < t.size \/ ss.length = 50) :
    Calls Tryz.prog 211 #[.pointer (some ⟨m, 0, none⟩), .string t] w fun e w' => e = .returned (.bool false) /\ w = w' := by
  obtain ⟨hBm, v, hm, hown⟩ := hM
  obtain ⟨ao, cap, rfl⟩ : ∃ ao cap, v = .slice ao ss.length cap := by
    rcases hown.2 with ⟨hv, h0⟩ | ⟨g, cap, cur, hv, _⟩
    · exact ⟨none, 0, by rw [hv, h0]⟩
    · exact ⟨_, _, hv⟩
  have c0 : w.cell? ⟨m, 0, none⟩ = some (.slice ao ss.length cap) := by rw [Lib.cell_of_heap hm]; rfl
  by_cases h1 : 2000 < t.size
  · have d1 : decide ((2000 : Int) < t.size) = true := by simp; omega
    clear h
    go_enter Tryz.func211, Tryz.ntmps211
    go_wp2
    go_ret
    exact ⟨rfl, rfl⟩
  · have d1 : decide ((2000 : Int) < t.size) = false := by simp; omega
    have d2 : ((ss.length : Int) == 50) = true := by simp; omega
    clear h
    go_enter Tryz.func211, Tryz.ntmps211
    go_wp2
    go_ret
    exact ⟨rfl, rfl⟩
theorem own_shrink {w : World} {B g cap : Nat} {ss : List ByteArray} {x : ByteArray} (h : w.ownsRow B 9 1 (.slice (some ⟨g, 0, none⟩) (ss.length + 1) cap) (ss.length + 1) (strV (ss ++ [x]))) : w.ownsRow B 9 1 (.slice (some ⟨g, 0, none⟩) ss.length cap) ss.length (strV ss) := by
  refine ⟨by simp [strV], ?_⟩
  rcases h.2 with ⟨h0, _⟩ | ⟨g', cap', cur, hv, hg, hh, h1, h2, h3, h4⟩
  · simp at h0
  · simp only [Value.slice.injEq, Option.some.injEq, Addr.mk.injEq, and_true, true_and] at hv
    obtain ⟨rfl, rfl⟩ := hv
    refine Or.inr ⟨g, cap, cur, rfl, hg, hh, by omega, h2, h3, ?_⟩
    have := congrArg (List.take ss.length) h4
    rw [List.take_take, Nat.mul_one] at this
    rw [Nat.mul_one]
    rw [show min ss.length (ss.length + 1) = ss.length by omega] at this
    rw [this]
    simp [strV]
end Go.Proofs.YtmeojnaoljgieaeGreatDoor
