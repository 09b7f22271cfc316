import Derived.Test.YtllhbgmadiclcaaGreatDoorSoA
import Derived.Deep.AppendLies
import Derived.Deep.RegionHeld3
import Derived.Lib.SmallJoins
import Derived.Deep.DeepCutAuto
namespace Go.Proofs.YtllhbgmadiclcaaGreatDoor
open Go.RowKit Go.Deep
set_option linter.unusedVariables false

theorem blkW_lt {w : World} {b : Nat} {o : Obj} (h : w.heap[b]? = some o) : b < w.heap.size := by
  rcases Nat.lt_or_ge b w.heap.size with h' | h'
  · exact h'
  · rw [Array.getElem?_eq_none h'] at h; cases h
theorem heapW_new (w : World) (o : Obj) : (w.alloc o).heap[w.heap.size]? = some o := by unfold World.alloc; simp
theorem heapW_new2 (w : World) (o o2 : Obj) : ((w.alloc o).alloc o2).heap[w.heap.size + 1]? = some o2 := by
  have h := heapW_new (w.alloc o) o2
  rw [show (w.alloc o).heap.size = w.heap.size + 1 from by simp] at h
  exact h
theorem heapW_old2 (w : World) (o o2 : Obj) : ((w.alloc o).alloc o2).heap[w.heap.size]? = some o := by
  rw [Lib.alloc_old _ _ _ (by simp)]; exact heapW_new _ _
theorem cellW {w : World} {p : Addr} {v : Value} {o : Obj} (h : w.cell? p = some v) : (w.alloc o).cell? p = some v := by rw [World.cell?_alloc_lt _ _ _ (World.block_lt_of_cell? _ _ h)]; exact h
theorem blk_below {w w' : World} {b : Nat} {o : Obj} (h : w.heap[b]? = some o) (hb : Below w.heap.size w w') : w'.heap[b]? = some o := by rw [hb.block _ (blkW_lt h)]; exact h
theorem blk_keepR {w w' : World} {b lo hi : Nat} {o : Obj} (h : w.heap[b]? = some o) (hk : KeepR lo hi w w') (hb : b < lo ∨ hi ≤ b) : w'.heap[b]? = some o := by rw [hk b (blkW_lt h) hb]; exact h
theorem blk_c3 {w : World} {b T : Nat} {v1 v2 v3 : Value} (h : w.heap[b]? = some (.cells #[v1, v2, v3] T (0, 0))) : w.cell? ⟨b, 0, none⟩ = some v1 ∧ w.cell? ⟨b, 1, none⟩ = some v2 ∧ w.cell? ⟨b, 2, none⟩ = some v3 :=
  ⟨by rw [Lib.cell_of_heap h]; rfl, by rw [Lib.cell_of_heap h]; rfl, by rw [Lib.cell_of_heap h]; rfl⟩
/-- A block of this type. -/
def HasT (w : World) (b T : Nat) : Prop := ∃ cs, w.heap[b]? = some (.cells cs T (0, 0))
theorem HasT.set {w : World} {b T c j : Nat} (h : HasT w b T) (u : Value) : HasT (w.setCell ⟨c, j, none⟩ u) b T := by
  obtain ⟨cs, h⟩ := h
  by_cases e : b = c
  · subst e
    exact ⟨_, by rw [Joins.block_setCell h]⟩
  · exact ⟨cs, by rw [Below.heap_setCell w ⟨c, j, none⟩ u b e]; exact h⟩
theorem HasT.below {w w' : World} {b T : Nat} (h : HasT w b T) (hb : Below w.heap.size w w') : HasT w' b T := by
  obtain ⟨cs, h⟩ := h; exact ⟨cs, blk_below h hb⟩
theorem HasT.ne {w : World} {b T B e sz n : Nat} {v : Value} {xs : List Value} (h : HasT w b T) (ho : w.ownsRow B e sz v n xs) (hne : T ≠ e) : v.ownBlock ≠ some b := by
  obtain ⟨cs, h⟩ := h
  intro eb
  rcases ho.2 with ⟨rfl, _⟩ | ⟨g, cap, cur, rfl, hg, hh, _⟩
  · simp [Value.ownBlock] at eb
  · simp only [Value.ownBlock, Option.some.injEq] at eb
    rw [eb, h] at hh
    simp at hh
    exact hne hh.2
theorem own_setT {w : World} {b T B e sz n j : Nat} {v : Value} {xs : List Value} (ho : w.ownsRow B e sz v n xs) (h : HasT w b T) (hne : T ≠ e) (u : Value) : (w.setCell ⟨b, j, none⟩ u).ownsRow B e sz v n xs :=
  own_same ho fun c ec => Below.heap_setCell w ⟨b, j, none⟩ u c (fun e' => h.ne ho hne (by rw [ec, e']))
theorem OwnX.setT {w : World} {b lo hi j T : Nat} {v : Value} {ts : List ByteArray} (ho : OwnX w lo hi v ts) (h : HasT w b T) (h9 : T ≠ 9) (u : Value) : OwnX (w.setCell ⟨b, j, none⟩ u) lo hi v ts := ⟨own_setT (RowO.own ho) h h9 u, RowO.top ho⟩
theorem OwnQ.setT {w : World} {b lo hi j T : Nat} {v : Value} {rs : List T3} (ho : OwnQ w lo hi v rs) (h : HasT w b T) (h66 : T ≠ 50) (h98 : T ≠ 98) (h88 : T ≠ 90) (u : Value) : OwnQ (w.setCell ⟨b, j, none⟩ u) lo hi v rs := by
  obtain ⟨xs, cv, lv, k⟩ := ho
  exact ⟨xs, cv, lv, ⟨own_setT k.row.own h h66 u, k.row.top⟩, k.fil, fun i hi => by
    obtain ⟨ys, k1, k2⟩ := k.code i hi
    exact ⟨ys, ⟨own_setT k1.own h h98 u, k1.top⟩, k2⟩, fun i hi => by
    obtain ⟨ys, k1, k2⟩ := k.look i hi
    exact ⟨ys, ⟨own_setT k1.own h h88 u, k1.top⟩, k2⟩, k.apc, k.apl, k.som⟩
theorem PartQ.setT {w : World} {lo b j T : Nat} {is : List T3} {k : Nat} {xs : List Value} {cv lv : Nat → Value} (h : PartQ w lo is k xs cv lv) (ht : HasT w b T) (h98 : T ≠ 98) (h88 : T ≠ 90) (u : Value) : PartQ (w.setCell ⟨b, j, none⟩ u) lo is k xs cv lv :=
  ⟨h.fil, fun i hi => by
    obtain ⟨ys, k1, k2⟩ := h.code i hi
    exact ⟨ys, own_setT k1 ht h98 u, k2⟩, fun i hi => by
    obtain ⟨ys, k1, k2⟩ := h.look i hi
    exact ⟨ys, own_setT k1 ht h88 u, k2⟩, h.apc, h.apl, h.som⟩

/-- The cells of a row of looks. -/
def gloC (gs : List G3) (j : Nat) : Value := if j % 3 = 0 then .string (gx gs (j / 3)).name else if j % 3 = 1 then .bool (gx gs (j / 3)).ask else .string (gx gs (j / 3)).sum
def gloV (gs : List G3) : List Value := (List.range (gs.length * 3)).map (gloC gs)
theorem gloV_length (gs : List G3) : (gloV gs).length = gs.length * 3 := by simp [gloV]
theorem gloV_get (gs : List G3) (j : Nat) (h : j < gs.length * 3) : (gloV gs)[j]? = some (gloC gs j) := by
  unfold gloV
  rw [List.getElem?_map, List.getElem?_range h]; rfl
theorem gloV_filled (gs : List G3) : FilledG gs gs.length (gloV gs) := by
  intro i hi
  rw [gloV_get gs _ (by omega), gloV_get gs _ (by omega), gloV_get gs _ (by omega)]
  unfold gloC
  rw [if_pos (by omega), if_neg (by omega), if_pos (by omega), if_neg (by omega), if_neg (by omega), show i * 3 / 3 = i by omega, show (i * 3 + 1) / 3 = i by omega, show (i * 3 + 2) / 3 = i by omega]
  exact ⟨rfl, rfl, rfl⟩
theorem gloV_one (gs : List G3) : ∀ u ∈ gloV gs, u.oneCell' = true := by
  intro u hu
  obtain ⟨j, _, rfl⟩ := List.mem_map.mp hu
  unfold gloC
  split
  · rfl
  · split <;> rfl
theorem gloV_news {w : World} {b off : Nat} {gs : List G3} (h : RowG w (some ⟨b, off, none⟩) gs) : ∀ j u, (gloV gs)[j]? = some u → w.cell? ((⟨b, off, none⟩ : Addr).add j) = some u := by
  intro j u hu
  rw [Addr.add_lit]
  have hj : j < gs.length * 3 := by
    rcases Nat.lt_or_ge j (gs.length * 3) with h | h
    · exact h
    · rw [List.getElem?_eq_none (by rw [gloV_length]; exact h)] at hu; cases hu
  rw [gloV_get gs j hj] at hu
  obtain rfl := Option.some.inj hu
  obtain ⟨b', off', ha, c1, c2, c3⟩ := h (j / 3) (by omega)
  cases ha
  unfold gloC
  split
  · rename_i hm
    rw [show off + j = off + j / 3 * 3 by omega]; exact c1
  · split
    · rename_i hm
      rw [show off + j = off + j / 3 * 3 + 1 by omega]; exact c2
    · rw [show off + j = off + j / 3 * 3 + 2 by omega]; exact c3
theorem txV_one (ss : List ByteArray) : ∀ u ∈ ss.map Value.string, u.oneCell' = true := by
  intro u hu
  obtain ⟨s, _, rfl⟩ := List.mem_map.mp hu
  rfl
theorem txV_news {w : World} {b off : Nat} {ss : List ByteArray} (h : Strs w (some ⟨b, off, none⟩) ss) : ∀ j u, (ss.map Value.string)[j]? = some u → w.cell? ((⟨b, off, none⟩ : Addr).add j) = some u := by
  intro j u hu
  rw [Addr.add_lit]
  have hj : j < ss.length := by
    rcases Nat.lt_or_ge j ss.length with h | h
    · exact h
    · rw [List.getElem?_eq_none (by simpa using h)] at hu; cases hu
  rw [map_str ss j hj] at hu
  obtain rfl := Option.some.inj hu
  obtain ⟨b', off', ha, c1⟩ := h j hj
  cases ha
  exact c1
theorem own_some {w : World} {B e sz n : Nat} {v : Value} {xs : List Value} (h : w.ownsRow B e sz v n xs) (hn : v ≠ .slice none 0 0) : ∃ g cp, v = .slice (some ⟨g, 0, none⟩) n cp := by
  rcases own_casesM h with ⟨h0, _⟩ | h
  · exact absurd h0 hn
  · exact h
theorem Tryz.info88b : (Tryz.prog.info? 90).map (fun i => (i.zero, i.size, i.bytes)) = some (some (.agg #[.string ⟨#[]⟩, .bool false, .string ⟨#[]⟩]), 3, 40) := by kernel_rfl
theorem Tryz.info66b : (Tryz.prog.info? 50).map (fun i => (i.zero, i.size, i.bytes)) = some (some (.agg #[.slice none 0 0, .slice none 0 0, .string ⟨#[]⟩]), 3, 64) := by kernel_rfl

set_option maxHeartbeats 1000000 in
set_option maxRecDepth 100000 in
theorem cloneX_any (b off cap : Nat) (is : List ByteArray) (w : World) (hc : Strs w (some ⟨b, off, none⟩) is) (hl : is.length ≤ 1048576) :
    Calls Tryz.prog 68 #[.slice (some ⟨b, off, none⟩) is.length cap] w fun e w' => Below w.heap.size w w' ∧ ∃ g cp, e = .returned (.slice (some ⟨g, 0, none⟩) is.length cp) ∧ w'.ownsRow w.heap.size 9 1 (.slice (some ⟨g, 0, none⟩) is.length cp) is.length (is.map Value.string) := by
  obtain ⟨i0, hi, hz0, hz1, hz2⟩ := info_parts Tryz.info9b
  have hown0 : (w.alloc (.cells #[] 9)).ownsRow w.heap.size 9 1 (.slice (some ⟨w.heap.size, 0, none⟩) 0 0) 0 [] := World.ownsRow_lit (base := w.heap.size) (e := 9) (size := 1) w #[] 0 (Nat.le_refl _) (by unfold maxLen; omega) (by simp)
  have hn := txV_news (hc.below ((Below.refl w.heap.size w).alloc (Nat.le_refl _) (.cells #[] 9)))
  have HL : Hid ((is.map Value.string).length = is.length * 1) := by show _ = _; simp
  have HO : Hid (∀ u ∈ is.map Value.string, u.oneCell' = true) := txV_one is
  generalize is.map Value.string = xs at *
  clear hc
  have hq : ∀ W : World, (binOp .eql 22 (.slice (some ⟨b, off, none⟩) is.length cap) (.slice none 0 0)).run Tryz.prog W = .ok (.bool false) W := fun W => Lib.run_eql_slice_nil W 22 9 _ _ _ 0 0 Tryz.underlying22
  go_enter Tryz.func68, Tryz.ntmps68
  go_wp2_with (at_builtin; refine wpList_append_own _ rfl (.tmp 5) (.tmp 6) 22 rfl w.heap.size 9 i0 (.string ⟨#[]⟩) 1 16 Tryz.underlying22 hi hz0 hz1 hz2 rfl (by decide) _ 0 [] rfl hown0 ⟨b, off, none⟩ is.length cap xs rfl HL.out hn HO.out (by unfold maxLen; omega) (by omega) (by simp) ?_; intro v' w2 hown' hgrow hnil)
  have hbB : Below w.heap.size w w2 := ((Below.refl _ _).alloc (Nat.le_refl _) _).grown hgrow (by simp) (fun k hk => (hown0.lt k hk).1)
  rw [Nat.zero_add, List.nil_append] at hown'
  obtain ⟨g, cp, rfl⟩ := own_some hown' (fun e => by have := (hnil.1 e).1; cases this)
  clear hgrow hown0 hn hnil
  go_wp2
  go_ret
  exact ⟨hbB, g, cp, rfl, hown'⟩

set_option maxHeartbeats 1000000 in
set_option maxRecDepth 100000 in
theorem cloneG_any (b off cap : Nat) (is : List G3) (w : World) (hc : RowG w (some ⟨b, off, none⟩) is) (hl : is.length ≤ 1048576) :
    Calls Tryz.prog 50 #[.slice (some ⟨b, off, none⟩) is.length cap] w fun e w' => Below w.heap.size w w' ∧ ∃ g cp, e = .returned (.slice (some ⟨g, 0, none⟩) is.length cp) ∧ w'.ownsRow w.heap.size 90 3 (.slice (some ⟨g, 0, none⟩) is.length cp) is.length (gloV is) := by
  obtain ⟨i0, hi, hz0, hz1, hz2⟩ := info_parts Tryz.info88b
  have hown0 : (w.alloc (.cells #[] 90)).ownsRow w.heap.size 90 3 (.slice (some ⟨w.heap.size, 0, none⟩) 0 0) 0 [] := World.ownsRow_lit (base := w.heap.size) (e := 90) (size := 3) w #[] 0 (Nat.le_refl _) (by unfold maxLen; omega) (by simp)
  have hn := gloV_news (hc.below ((Below.refl w.heap.size w).alloc (Nat.le_refl _) (.cells #[] 90)))
  have HL : Hid ((gloV is).length = is.length * 3) := gloV_length is
  have HO : Hid (∀ u ∈ gloV is, u.oneCell' = true) := gloV_one is
  generalize gloV is = xs at *
  clear hc
  have hq : ∀ W : World, (binOp .eql 48 (.slice (some ⟨b, off, none⟩) is.length cap) (.slice none 0 0)).run Tryz.prog W = .ok (.bool false) W := fun W => Lib.run_eql_slice_nil W 48 90 _ _ _ 0 0 Tryz.underlying48
  go_enter Tryz.func50, Tryz.ntmps50
  go_wp2_with (at_builtin; refine wpList_append_own _ rfl (.tmp 5) (.tmp 6) 48 rfl w.heap.size 90 i0 (.agg #[.string ⟨#[]⟩, .bool false, .string ⟨#[]⟩]) 3 40 Tryz.underlying48 hi hz0 hz1 hz2 rfl (by decide) _ 0 [] rfl hown0 ⟨b, off, none⟩ is.length cap xs rfl HL.out hn HO.out (by unfold maxLen; omega) (by omega) (by simp) ?_; intro v' w2 hown' hgrow hnil)
  have hbB : Below w.heap.size w w2 := ((Below.refl _ _).alloc (Nat.le_refl _) _).grown hgrow (by simp) (fun k hk => (hown0.lt k hk).1)
  rw [Nat.zero_add, List.nil_append] at hown'
  obtain ⟨g, cp, rfl⟩ := own_some hown' (fun e => by have := (hnil.1 e).1; cases this)
  clear hgrow hown0 hn hnil
  go_wp2
  go_ret
  exact ⟨hbB, g, cp, rfl, hown'⟩

/-- A record that a copy hands out. -/
def RecOut (lo : Nat) (w : World) (e : Ending) (is : List I3) (gs : List G3) (out : ByteArray) : Prop := ∃ g1 p1 g2 p2, e = .returned (.agg #[.slice (some ⟨g1, 0, none⟩) is.length p1, .slice (some ⟨g2, 0, none⟩) gs.length p2, .string out]) ∧ w.ownsRow lo 98 3 (.slice (some ⟨g1, 0, none⟩) is.length p1) is.length (insV is) ∧ w.ownsRow lo 90 3 (.slice (some ⟨g2, 0, none⟩) gs.length p2) gs.length (gloV gs)

set_option maxRecDepth 100000 in
set_option maxHeartbeats 4000000 in
theorem copyRecord_any (a : Option Addr) (cap lb lf lc : Nat) (is : List I3) (gs : List G3) (out : ByteArray) (w : World) (rc : Row3 w a is) (rg : RowG w (some ⟨lb, lf, none⟩) gs) (h1 : 1 ≤ is.length) (hl : is.length ≤ 1048576) (hg : gs.length ≤ 1048576) :
    Calls Tryz.prog 29 #[.agg #[.slice a is.length cap, .slice (some ⟨lb, lf, none⟩) gs.length lc, .string out]] w fun e w' => Below w.heap.size w w' ∧ RecOut w.heap.size w' e is gs out := by
  obtain ⟨W, eW⟩ : ∃ W, (w.alloc (.cells #[.slice a is.length cap, .slice (some ⟨lb, lf, none⟩) gs.length lc, .string out] 50)).alloc (.cells #[.slice none 0 0, .slice none 0 0, .string ⟨#[]⟩] 50) = W := ⟨_, rfl⟩
  have hb0 : Below w.heap.size w W := by rw [← eW]; exact ((Below.refl _ _).alloc (Nat.le_refl _) _).alloc (by simp) _
  have hk0 : W.heap[w.heap.size]? = some (.cells #[.slice a is.length cap, .slice (some ⟨lb, lf, none⟩) gs.length lc, .string out] 50 (0, 0)) := by rw [← eW]; exact heapW_old2 _ _ _
  have hk1 : W.heap[w.heap.size + 1]? = some (.cells #[.slice none 0 0, .slice none 0 0, .string ⟨#[]⟩] 50 (0, 0)) := by rw [← eW]; exact heapW_new2 _ _ _
  have hWs : w.heap.size + 1 + 1 ≤ W.heap.size := by rw [← eW]; simp
  obtain ⟨c0, c1, c2⟩ := blk_c3 hk0
  have HK1 : Hid (W.heap[w.heap.size + 1]? = some (.cells #[.slice none 0 0, .slice none 0 0, .string ⟨#[]⟩] 50 (0, 0))) := hk1
  have HA : Hid (∀ W' : World, Below W.heap.size W W' → Calls Tryz.prog 49 #[.agg #[.slice a is.length cap]] W' fun e w' => Below W'.heap.size W' w' ∧ ∃ g cp, e = .returned (.agg #[.slice (some ⟨g, 0, none⟩) is.length cp]) ∧ w'.ownsRow W'.heap.size 98 3 (.slice (some ⟨g, 0, none⟩) is.length cp) is.length (insV is)) := fun W' hW => copyProgram_any a cap is W' (rc.below (bt hb0 hW)) h1 hl
  have HG : Hid (∀ W' : World, Below W.heap.size W W' → Calls Tryz.prog 50 #[.slice (some ⟨lb, lf, none⟩) gs.length lc] W' fun e w' => Below W'.heap.size W' w' ∧ ∃ g cp, e = .returned (.slice (some ⟨g, 0, none⟩) gs.length cp) ∧ w'.ownsRow W'.heap.size 90 3 (.slice (some ⟨g, 0, none⟩) gs.length cp) gs.length (gloV gs)) := fun W' hW => cloneG_any lb lf lc gs W' (rg.below (bt hb0 hW)) hg
  have hbd : Below W.heap.size W W.drew := (Below.refl _ _).drew
  clear rc rg hk0 hk1
  go_enter Tryz.func29, Tryz.ntmps29
  go_wp2_with fail
  clear eW
  go_region_held3 (fun w' => w'.cell? ⟨w.heap.size, 0, none⟩ = some (.slice a is.length cap) ∧ w'.cell? ⟨w.heap.size, 1, none⟩ = some (.slice (some ⟨lb, lf, none⟩) gs.length lc) ∧ w'.cell? ⟨w.heap.size, 2, none⟩ = some (.string out))
    (first | exact ⟨c0, c1, c2⟩ | (with_reducible exact ⟨t0, t1, t2⟩) | (with_reducible exact ⟨s0, s1, s2⟩) | (refine ⟨?_, ?_, ?_⟩ <;> (rw [World.cell?_setCell_far _ _ _ _ (by simp), World.cell?_setCell_far _ _ _ _ (by simp), World.cell?_setCell_far _ _ _ _ (by simp)]; assumption)))
    (first | (go_at_call 49; refine (HA.out _ hbd).mono ?_; rintro e w2 ⟨hb2, g1, p1, rfl, ho1⟩; have hB2 := bt hbd hb2; have s0 := cell_below hB2 c0; have s1 := cell_below hB2 c1; have s2 := cell_below hB2 c2; have HO1 : Hid (w2.ownsRow W.heap.size 98 3 (.slice (some ⟨g1, 0, none⟩) is.length p1) is.length (insV is)) := ho1) | (go_at_call 50; refine (HG.out _ hB2).mono ?_; rintro e w3 ⟨hb3, g2, p2, rfl, ho2⟩; have hB3 := bt hB2 hb3; have t0 := cell_below hB3 c0; have t1 := cell_below hB3 c1; have t2 := cell_below hB3 c2; have HO13 : Hid (w3.ownsRow W.heap.size 98 3 (.slice (some ⟨g1, 0, none⟩) is.length p1) is.length (insV is)) := ownsRow_below HO1.out hb3; have HO2 : Hid (w3.ownsRow W.heap.size 90 3 (.slice (some ⟨g2, 0, none⟩) gs.length p2) gs.length (gloV gs)) := own_base ho2 hB2.size; have kr3 := blk_below HK1.out hB3; obtain ⟨r0, r1, r2⟩ := blk_c3 kr3; have rf := (fun j => Lib.frozen_of_heap kr3 j)))
  have hg1 := (HO13.out.lt g1 rfl).1
  have hg2 := (HO2.out.lt g2 rfl).1
  have hB := bt hb0 hB3
  go_wp2_with fail
  refine bodyPost_ret (v := .agg #[.slice (some ⟨g1, 0, none⟩) is.length p1, .slice (some ⟨g2, 0, none⟩) gs.length p2, .string out]) (by simp [results, Tryz.results29, go_sem, r0, r1, r2]) rfl ⟨?_, g1, p1, g2, p2, rfl, ?_, ?_⟩
  · exact ((hB.setCell (p := ⟨w.heap.size + 1, 0, none⟩) (by simp) _).setCell (p := ⟨w.heap.size + 1, 1, none⟩) (by simp) _).setCell (p := ⟨w.heap.size + 1, 2, none⟩) (by simp) _
  · exact own_set (own_set (own_set (own_base HO13.out (by omega)) (by omega) _) (by omega) _) (by omega) _
  · exact own_set (own_set (own_set (own_base HO2.out (by omega)) (by omega) _) (by omega) _) (by omega) _

end Go.Proofs.YtllhbgmadiclcaaGreatDoor
