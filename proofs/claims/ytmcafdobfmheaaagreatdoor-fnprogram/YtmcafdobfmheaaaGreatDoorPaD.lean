/-
  impl.readCode.
-/
import Derived.Test.YtmcafdobfmheaaaGreatDoorPaC
import Derived.Deep.AppendLies
namespace Go.Proofs.YtmcafdobfmheaaaGreatDoor
open Go.RowKit
set_option linter.unusedVariables false

def insC1 (i : I3) : List Value := [.int .i64 i.op, .string i.text, .int .i64 i.n]
def insC (is : List I3) : List Value := is.flatMap insC1
theorem insC_length (is : List I3) : (insC is).length = is.length * 3 := by
  unfold insC
  induction is with
  | nil => rfl
  | cons e r ih => rw [List.flatMap_cons, List.length_append, ih]; simp [insC1]; omega
theorem insC_app (is js : List I3) : insC (is ++ js) = insC is ++ insC js := by simp [insC]
theorem insC_one (is : List I3) : ∀ u ∈ insC is, u.oneCell' = true := by
  intro u hu
  unfold insC at hu
  rw [List.mem_flatMap] at hu
  obtain ⟨i, _, hi⟩ := hu
  simp [insC1] at hi
  rcases hi with rfl | rfl | rfl <;> rfl
theorem insC_get : ∀ (is : List I3) (i j : Nat), i < is.length → j < 3 → (insC is)[i * 3 + j]? = (insC1 (ix is i))[j]?
  | [], i, j, h, _ => by simp at h
  | e :: r, 0, j, h, hj => by
    unfold insC
    rw [List.flatMap_cons, Nat.zero_mul, Nat.zero_add, List.getElem?_append_left (by simp [insC1]; omega)]
    rfl
  | e :: r, i + 1, j, h, hj => by
    have := insC_get r i j (by simpa using h) hj
    unfold insC at this ⊢
    rw [List.flatMap_cons, List.getElem?_append_right (by simp [insC1]; omega)]
    have e1 : (i + 1) * 3 + j - (insC1 e).length = i * 3 + j := by simp [insC1]; omega
    rw [e1, this]
    rfl
theorem own_keepD {w w' : World} {B e sz n : Nat} {v : Value} {xs : List Value} (h : w.ownsRow B e sz v n xs) (hk : ∀ b, B ≤ b → b < w.heap.size → w'.heap[b]? = w.heap[b]?) : w'.ownsRow B e sz v n xs := by
  refine ⟨h.1, ?_⟩
  rcases h.2 with k | ⟨g, cap, cur, e1, hg, hh, r⟩
  · exact Or.inl k
  · have hlt : g < w.heap.size := by
      rcases Nat.lt_or_ge g w.heap.size with q | q
      · exact q
      · rw [Array.getElem?_eq_none q] at hh; cases hh
    exact Or.inr ⟨g, cap, cur, e1, hg, by rw [hk g hg hlt]; exact hh, r⟩
theorem heap_newD (w : World) (o : Obj) : (w.alloc o).heap[w.heap.size]? = some o := alloc_here w o
/-- A list of instructions in memory of our own. -/
def RowI (B : Nat) (v : Value) (is : List I3) (w : World) : Prop := w.ownsRow B 47 3 v is.length (insC is)
theorem RowI.below {B : Nat} {v : Value} {is : List I3} {w w' : World} (h : RowI B v is w) (hb : Below w.heap.size w w') : RowI B v is w' := own_keepD h (fun b _ hb' => hb.block b hb')
theorem RowI.shape {B : Nat} {v : Value} {is : List I3} {w : World} (h : RowI B v is w) (h0 : is ≠ []) : ∃ g cap, v = .slice (some ⟨g, 0, none⟩) is.length cap ∧ B ≤ g := by
  rcases h.2 with ⟨_, h2⟩ | ⟨g, cap, cur, hv, hg, _⟩
  · exact absurd (List.eq_nil_of_length_eq_zero h2) h0
  · exact ⟨g, cap, hv, hg⟩
theorem RowI.nil {B : Nat} {v : Value} {w : World} (h : RowI B v [] w) : (v = .slice none 0 0) ∨ ∃ g cap, v = .slice (some ⟨g, 0, none⟩) 0 cap ∧ B ≤ g := by
  rcases h.2 with ⟨h1, _⟩ | ⟨g, cap, cur, hv, hg, _⟩
  · exact Or.inl h1
  · exact Or.inr ⟨g, cap, hv, hg⟩

/-- What readCode gives. -/
def CodeP (p : Nat → Addr) (B : Nat) : PO → Value → World → Prop
  | .good is, v, w => ∃ x, v = .tuple #[x, .nilIface] ∧ RowI B x is w ∧ is ≠ [] ∧ is.length ≤ 200
  | .bad c l, v, w => (c = 1 ∧ l = 0 ∧ v = .tuple #[.slice none 0 0, .iface 171 (.pointer (some (p 1)))]) ∨ (c = 2 ∧ l ≤ 1500000 ∧ ∃ a, v = .tuple #[.slice none 0 0, .iface 84 (.agg #[.int .i64 l, .iface 171 (.pointer (some a))])]) ∨ (c = 3 ∧ l = 0 ∧ v = .tuple #[.slice none 0 0, .iface 171 (.pointer (some (p 3)))])
theorem Tryz.info47b : (Tryz.prog.info? 47).map (fun i => (i.zero, i.size, i.bytes)) = some (some (.agg #[.int .i64 0, .string ⟨#[]⟩, .int .i64 0]), 3, 32) := by kernel_rfl
theorem insC_snoc (is : List I3) (i : I3) : insC is ++ [.int .i64 i.op, .string i.text, .int .i64 i.n] = insC (is ++ [i]) := by rw [insC_app]; simp [insC, insC1]
theorem take_snoc200 (is : List I3) (i : I3) (h : is.length < 200) : (is ++ [i]).take 200 = is.take 200 ++ [i] := by
  rw [List.take_of_length_le (by simp; omega), List.take_of_length_le (by omega)]
theorem take_far (is : List I3) (i : I3) (h : 200 ≤ is.length) : (is ++ [i]).take 200 = is.take 200 := by
  rw [List.take_append_of_le_length h]

set_option maxRecDepth 100000 in
set_option maxHeartbeats 4000000 in
theorem readCode_any (p : Nat → Addr) (s : ByteArray) (w : World) (hE : Env p w) (hs : s.size ≤ 1500000) :
    Calls Tryz.prog 24 #[.string s] w fun e w' => Below w.heap.size w w' ∧ ∃ v, e = .returned v ∧ CodeP p w.heap.size (parseP s.data.toList) v w' := by
  have HE : Hid (Env p w) := hE
  obtain ⟨i0, hi, hz0, hz1, hz2⟩ := info_parts Tryz.info47b
  by_cases h0 : s.size = 0
  · have e0 : s.toList.isEmpty = true := by rw [empty_iff]; simp [h0]
    have HP : Hid (parseP s.data.toList = .bad 1 0) := by
      show _ = _
      have e2 : s.data.toList = [] := List.eq_nil_of_length_eq_zero (by rw [toList_len]; exact h0)
      unfold parseP; rw [if_pos e2]
    have c1 := hE.er 1 (by omega)
    clear hE
    go_enter Tryz.func24, Tryz.ntmps24
    go_wp2_with fail
    go_region_held3 (fun w' => w'.cell? ⟨1, 0, none⟩ = some (.iface 171 (.pointer (some (p 1))))) (first | assumption | (simp [*]; done)) (fail)
    all_goals
      go_wp2
      go_ret2
      exact ⟨(Below.refl _ _).drew, _, rfl, by rw [HP.out]; exact Or.inl ⟨rfl, rfl, rfl⟩⟩
  · have e0 : s.toList.isEmpty = false := by rw [empty_iff]; simp [h0]
    have HP : Hid (parseP s.data.toList = capP (parseK (splitL s.data.toList) 0)) := by
      show _ = _
      unfold parseP; rw [if_neg]
      intro e; exact h0 (by rw [← toList_len, e]; rfl)
    have d1 : decide ((1500000 : Int) < (s.size : Int)) = false := by simp; omega
    clear hE
    generalize parseP s.data.toList = PP at *
    generalize hL : splitL s.data.toList = L at *
    have HS0 : Hid (splitL s.data.toList = L ∧ s.size ≤ 1500000 ∧ 0 < s.size) := ⟨hL, hs, by omega⟩
    clear hL
    go_enter Tryz.func24, Tryz.ntmps24
    go_wp2_with fail
    clear e0 d1 h0 hs
    go_loopw [0, 4, 5] (fun vs vc vk wr => ∃ (s : ByteArray) (is : List I3) (k : Nat), vs = .string s ∧ vk = .int .i64 k ∧ Hid (k = is.length) ∧ Hid (parseK L 0 = prep is (parseK (splitL s.data.toList) k)) ∧ s.size + k ≤ 1500000 ∧ Hid (is ≠ [] ∨ 0 < s.size) ∧ Hid (RowI w.heap.size vc (is.take 200) wr) ∧ Below w.heap.size w wr) (fun vs _ _ _ => strLen vs)
    case atStart => exact ⟨s, [], 0, rfl, rfl, rfl, by show _ = _; rw [prep_nil, HS0.out.1], by have := HS0.out.2.1; omega, Or.inr HS0.out.2.2, World.ownsRow_nil _ _ _ _, Below.refl _ _⟩
    case round =>
      clear HS0
      obtain ⟨s, is, k, rfl, rfl, Hk, HK, hsz, HZ, HO, hB⟩ := hrel
      have hbs := hB.size
      have HEr : Hid (Env p wr) := HE.out.below hB
      by_cases h0 : s.size = 0
      · have e0 : s.toList.isEmpty = true := by rw [empty_iff]; simp [h0]
        have hsn : s.data.toList = [] := List.eq_nil_of_length_eq_zero (by rw [toList_len]; exact h0)
        have HG : Hid (parseK L 0 = .good is) := by
          show _ = _
          rw [HK.out, hsn]; simp [splitL, parseK, prep]
        have HN : Hid (is ≠ []) := by
          rcases HZ.out with h | h
          · exact h
          · omega
        clear hsn
        by_cases h2 : k ≤ 200
        · have d2 : decide ((200 : Int) < (k : Int)) = false := by simp; omega
          have HQ : Hid (PP = .good is) := by
            show _ = _
            rw [HP.out, HG.out]; show (if is.length ≤ 200 then PO.good is else PO.bad 3 0) = _; rw [if_pos (by have := Hk.out; omega)]
          have HR : Hid (RowI w.heap.size u4 is wr) := by
            have := HO.out
            rwa [List.take_of_length_le (by have := Hk.out; omega)] at this
          go_wp2
          go_ret2
          exact ⟨hB, _, rfl, by rw [HQ.out]; exact ⟨_, rfl, HR.out, HN.out, by have := Hk.out; omega⟩⟩
        · have d2 : decide ((200 : Int) < (k : Int)) = true := by simp; omega
          have HQ : Hid (PP = .bad 3 0) := by
            show _ = _
            rw [HP.out, HG.out]; show (if is.length ≤ 200 then PO.good is else PO.bad 3 0) = _; rw [if_neg (by have := Hk.out; omega)]
          have c3 := HEr.out.er 3 (by omega)
          go_wp2_with fail
          go_region_held3 (fun w' => w'.cell? ⟨3, 0, none⟩ = some (.iface 171 (.pointer (some (p 3))))) (first | assumption | (simp [*]; done)) (fail)
          all_goals
            go_wp2
            go_ret2
            exact ⟨hB.drew, _, rfl, by rw [HQ.out]; exact Or.inr (Or.inr ⟨rfl, rfl, rfl⟩)⟩
      · have e0 : s.toList.isEmpty = false := by rw [empty_iff]; simp [h0]
        have HC : Hid (Calls Tryz.prog 43 #[.string s, .string ⟨#[10]⟩] wr fun e w' => e = .returned (.tuple #[.string ⟨(cutL 10 s.data.toList).1.toArray⟩, .string ⟨(cutL 10 s.data.toList).2.1.toArray⟩, .bool (cutL 10 s.data.toList).2.2]) ∧ Below wr.heap.size wr w') := cut_any p s 10 wr HEr.out (by omega)
        obtain ⟨l1, l2, l3⟩ := cutL_len 10 s.data.toList
        rw [toList_len] at l1 l2 l3
        by_cases hf : (cutL 10 s.data.toList).2.2 = true
        · have HY := split_yes hf
          have l3' := l3 hf
          rw [hf] at HC
          rw [HY] at HK
          have ea : ((⟨(cutL 10 s.data.toList).1.toArray⟩ : ByteArray)).data.toList = (cutL 10 s.data.toList).1 := by simp
          have eb : ((⟨(cutL 10 s.data.toList).2.1.toArray⟩ : ByteArray)).data.toList = (cutL 10 s.data.toList).2.1 := by simp
          rw [← ea, ← eb] at HK
          have sa := bytes_size (cutL 10 s.data.toList).1
          have sb := bytes_size (cutL 10 s.data.toList).2.1
          generalize (⟨(cutL 10 s.data.toList).1.toArray⟩ : ByteArray) = ln at *
          generalize (⟨(cutL 10 s.data.toList).2.1.toArray⟩ : ByteArray) = bh at *
          have hln : ln.size ≤ 1500000 := by omega
          have hbh : bh.size < s.size := by omega
          clear HY hf l1 l2 l3 l3' ea eb sa sb
          go_wp2_with fail
          refine HC.out.mono ?_
          rintro e w1 ⟨rfl, hb1⟩
          have hB1 := hB.trans (hb1.mono hB.size)
          have HE1 : Hid (Env p w1) := HEr.out.below hb1
          have HO1 : Hid (RowI w.heap.size u4 (is.take 200) w1) := HO.out.below hb1
          clear HC HEr HO hb1 hB
          go_wp2_with fail
          refine (readIns_any p ln _ HE1.out hln).mono ?_
          rintro e w2 ⟨hb2, ⟨i, hi2, rfl⟩ | ⟨hi2, a, rfl⟩⟩
          · have HK2 : Hid (parseK L 0 = prep (is ++ [i]) (parseK (splitL bh.data.toList) (k + 1))) := by
              show _ = _
              rw [HK.out, parseK_cons _ (split_ne _), hi2]
              exact prep_prep _ _ _
            have hB2 := hB1.trans (hb2.mono hB1.size)
            have hs2 := hB2.size
            have HO2 : Hid (RowI w.heap.size u4 (is.take 200) w2) := HO1.out.below hb2
            clear hi2 hb2 HO1 hB1 HE1 HK
            dsimp only
            by_cases hk2 : k < 200
            · have d3 : decide ((k : Int) < 200) = true := by simp; omega
              have HT : Hid ((is ++ [i]).take 200 = is.take 200 ++ [i]) := take_snoc200 is i (by have := Hk.out; omega)
              have htl : (is.take 200).length ≤ 200 := List.length_take_le _ _
              obtain ⟨W, eW⟩ : ∃ W, w2.alloc (.cells #[.int .i64 i.op, .string i.text, .int .i64 i.n] 47) = W := ⟨_, rfl⟩
              have hBW : Below w.heap.size w W := eW ▸ hB2.alloc hs2 _
              have HOW : Hid (RowI w.heap.size u4 (is.take 200) W) := (eW ▸ HO2.out.below ((Below.refl _ _).alloc (Nat.le_refl _) _) : RowI w.heap.size u4 (is.take 200) W)
              have hc1 : W.cell? ⟨w2.heap.size, 0, none⟩ = some (.int .i64 i.op) := by rw [← eW]; simp [go_sem]
              have hc2 : W.cell? ⟨w2.heap.size, 1, none⟩ = some (.string i.text) := by rw [← eW]; simp [go_sem]
              have hc3 : W.cell? ⟨w2.heap.size, 2, none⟩ = some (.int .i64 i.n) := by rw [← eW]; simp [go_sem]
              have hsW := hBW.size
              clear HO2 hB2
              obtain ⟨op, tx, nn⟩ := i
              go_wp2_with (first | (at_builtin; refine wpList_append_own _ rfl _ _ 23 rfl w.heap.size 47 i0 (.agg #[.int .i64 0, .string ⟨#[]⟩, .int .i64 0]) 3 32 Tryz.underlying23 hi hz0 hz1 hz2 rfl (by decide) _ _ _ ?_ ((HOW.out : W.ownsRow w.heap.size 47 3 u4 (is.take 200).length (insC (is.take 200))).alloc _) ⟨W.heap.size, 0, none⟩ 1 1 [.int .i64 op, .string tx, .int .i64 nn] ?_ rfl (World.news_of_block (cs := #[.int .i64 op, .string tx, .int .i64 nn]) (t := 47) (fr := (0, 0)) (heap_newD _ _)) (fun u hu => insC_one ([⟨op, tx, nn⟩] : List I3) u hu) (by unfold maxLen; omega) (by omega) (by simp; omega) ?_; (focus (first | rfl | (simp [Act.eval]; done))); (focus (first | rfl | (simp [Act.eval]; done))); intro v8 w8 hown8 hgrow8 hnil8; have HO8 : Hid (RowI w.heap.size v8 (is.take 200 ++ [⟨op, tx, nn⟩]) w8) := (show RowI w.heap.size v8 (is.take 200 ++ [⟨op, tx, nn⟩]) w8 from (by unfold RowI; rw [← insC_snoc, List.length_append]; exact hown8)); have hB8 : Below w.heap.size w w8 := (hBW.alloc hsW _).grown hgrow8 (by simp; omega) (fun b hb => (World.ownsRow.lt (HOW.out : W.ownsRow w.heap.size 47 3 u4 (is.take 200).length (insC (is.take 200))) b hb).1); clear hown8 hgrow8 hnil8))
              go_roundw
              case rel => exact ⟨bh, is ++ [(⟨op, tx, nn⟩ : I3)], k + 1, rfl, by go_num, by show _ = _; rw [List.length_append, ← Hk.out]; rfl, HK2.out, by omega, Or.inl (by simp), (by show RowI _ _ _ _; rw [HT.out]; exact HO8.out), hB8⟩
              case measure => simp [strLen]; omega
            · have d3 : decide ((k : Int) < 200) = false := by simp; omega
              have HT : Hid ((is ++ [i]).take 200 = is.take 200) := take_far is i (by have := Hk.out; omega)
              go_wp2
              go_roundw
              case rel => exact ⟨bh, is ++ [i], k + 1, rfl, by go_num, by show _ = _; rw [List.length_append, ← Hk.out]; rfl, HK2.out, by omega, Or.inl (by simp), (by show RowI _ _ _ _; rw [HT.out]; exact HO2.out.below ((Below.refl _ _).alloc (Nat.le_refl _) _)), hB2.alloc hs2 _⟩
              case measure => simp [strLen]; omega
          · have HQ : Hid (PP = .bad 2 k) := by
              show _ = _
              rw [HP.out, HK.out, parseK_cons _ (split_ne _), hi2]; rfl
            have hB2 := hB1.trans (hb2.mono hB1.size)
            clear hb2 hi2 HK HO1 HE1
            dsimp only
            go_wp2
            go_ret2
            exact ⟨hB2.alloc hB2.size _, _, rfl, by rw [HQ.out]; exact Or.inr (Or.inl ⟨rfl, by omega, a, rfl⟩)⟩
        · have hf' : (cutL 10 s.data.toList).2.2 = false := by simpa using hf
          have HQ : Hid (PP = .bad 2 k) := by
            show _ = _
            rw [HP.out, HK.out, split_no hf']
            unfold parseK
            rw [if_neg]; rfl
            intro e; exact h0 (by rw [← toList_len, e]; rfl)
          rw [hf'] at HC
          generalize (⟨(cutL 10 s.data.toList).1.toArray⟩ : ByteArray) = ln at *
          generalize (⟨(cutL 10 s.data.toList).2.1.toArray⟩ : ByteArray) = bh at *
          clear hf hf' l1 l2 l3
          go_wp2_with fail
          refine HC.out.mono ?_
          rintro e w1 ⟨rfl, hb1⟩
          have hB1 := hB.trans (hb1.mono hB.size)
          have c2 := (HEr.out.below hb1).er 2 (by omega)
          clear HC HEr HO hb1 hB
          go_wp2_with fail
          go_region_held3 (fun w' => w'.cell? ⟨2, 0, none⟩ = some (.iface 171 (.pointer (some (p 2))))) (first | assumption | (simp [*]; done)) (fail)
          all_goals
            go_wp2
            go_ret2
            exact ⟨hB1.drew, _, rfl, by rw [HQ.out]; exact Or.inr (Or.inl ⟨rfl, by omega, _, rfl⟩)⟩

end Go.Proofs.YtmcafdobfmheaaaGreatDoor
