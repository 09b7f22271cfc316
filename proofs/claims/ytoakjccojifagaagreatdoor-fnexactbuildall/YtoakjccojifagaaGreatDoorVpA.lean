import Derived.Test.YtoakjccojifagaaGreatDoorVsP
namespace Go.Proofs.YtoakjccojifagaaGreatDoor
open _root_.Go.Proofs.Tryz Go.RowKit
open _root_ renaming List->L,Nat->X
set_option linter.unusedVariables false
set_option linter.unusedSimpArgs false
section
variable {s:By→ByteArray}
theorem Ut:∀(a b:L UInt8),Op.bytesLess a b=false→a≠b→Op.bytesLess b a=true
 | [],[]=>qg
 | [],_::_=>by simp[Op.bytesLess]
 | _::_,[]=>by simp[Op.bytesLess]
 | a::ar,b::bs=>by
   have ih:=Ut ar bs
   by_cases h1:a<b
   ·simp[Op.bytesLess,h1]
   ·by_cases h2:b<a
    ·intro _ _
     simp[Op.bytesLess,h2]
    ·have he:a=b:=UInt8.le_antisymm (UInt8.not_lt.mp h2) (UInt8.not_lt.mp h1)
     subst he;intro k1 k2;simp only[Op.bytesLess,h1]at k1 ⊢;simp at k1 k2 ⊢
     first
      | exact ih k1 k2
      | exact Or.inr (ih k1 k2)
theorem lessB_total{a b:By}(h:Au a b=false)(hne:a≠b):Au b a=true:=by
 unfold Au at *;refine Ut _ _ h (λe=>hne ?_);rw[ByteArray.toList_eq,ByteArray.toList_eq]at e;exact WideShapes.bytes_inj e
def Lt1(s:By→ByteArray)(x y:By):Prop:=Au (s x) (s y)=true
theorem Lt1.tot{x y:By}(h:Au (s x) (s y)=false)(hne:s x≠s y):Lt1 s y x:=lessB_total h hne
def So(s:By→ByteArray)(l:L By):Prop:=l.Pairwise (Lt1 s)
theorem So.of_asc{l:L By}(h:Fu (l.map s)):So s l:=by
 refine List.pairwise_iff_getElem.2 λi j hi hj t7=>?_;have:=h.pair t7 qce;unfold nx at this;rw[gG,List.getElem?_map,Jr hi,gG,List.getElem?_map,Jr hj]at this;exact this
theorem So.asc{l:L By}(h:So s l):Fu (l.map s):=by
 intro i h1 h2;rw[List.length_map]at h2;have:=List.pairwise_iff_getElem.1 h (i-1) i qb h2 qb;unfold nx;rw[gG,List.getElem?_map,Jr (show i-1<l.length from qb),gG,List.getElem?_map,Jr h2];exact this
end
theorem Pa{l:L By}{i:X}(h:i<l.length):nx l i=l[i]:=by simp[nx,gG,h]
theorem Vk.none{n:X}{AL:L By}{y:By}{r:X}(hL:So (Aq n) AL)(hp:Vk n AL (Aq n y) r)(ht:¬ Hu n AL y r):∀x∈AL,Aq n x≠Aq n y:=λx hx e=>by
 obtain⟨i,hi,rfl⟩:=List.mem_iff_getElem.1 hx
 rcases Nat.lt_trichotomy i r with q|q|q
 ·have:=hp.lo i q
  rw[Pa hi,e,Et]at this;cases this
 ·subst q
  exact ht ⟨hi,by rw[Pa hi];exact e⟩
 ·have h1:Lt1 (Aq n) AL[r] AL[i]:=List.pairwise_iff_getElem.1 hL r i qb hi q
  have h2:=hp.hi qb;rw[Pa qb]at h2;unfold Lt1 at h1;rw[e,h2]at h1;cases h1
theorem Vk.ins{n:X}{AL:L By}{y:By}{r:X}(hL:So (Aq n) AL)(hp:Vk n AL (Aq n y) r)(ht:¬ Hu n AL y r):So (Aq n) (Ha AL y r)∧(∀x,x∈Ha AL y r↔x∈AL∨x=y)∧(Ha AL y r).length=AL.length+1:=by
 have hn:=hp.none hL ht
 have uq:∀x∈AL.take r,Lt1 (Aq n) x y:=λx hx=>by
  obtain⟨i,hi,rfl⟩:=List.mem_iff_getElem.1 hx;rw[List.length_take]at hi;rw[List.getElem_take];have:=hp.lo i qb;rw[Pa qb]at this;exact this
 have hhi:∀z∈AL.drop r,Lt1 (Aq n) y z:=λz hz=>by
  have hzL:=List.mem_of_mem_drop hz;obtain⟨i,hi,rfl⟩:=List.mem_iff_getElem.1 hz;rw[List.length_drop]at hi;rw[List.getElem_drop]at hzL ⊢;refine Lt1.tot ?_ (hn _ hzL);have h2:=hp.hi qb;rw[Pa qb]at h2
  rcases Nat.eq_zero_or_pos i with q|q
  ·subst q;exact h2
  ·have h1:Lt1 (Aq n) AL[r] AL[r+i]:=List.pairwise_iff_getElem.1 hL r (r+i) qb qb qb
   cases hb:Au (Aq n AL[r+i]) (Aq n y) with
   | false=>rfl
   | true=>have:=Kq h1 hb;rw[h2]at this;cases this
 have hL':=hL;rw[←List.take_append_drop r AL]at hL';obtain⟨p1,p2,p3⟩:=List.pairwise_append.1 hL';refine⟨?_,λx=>?_,Ix _ _ _ hp.le⟩
 ·unfold Ha
  refine List.pairwise_append.2 ⟨List.pairwise_append.2 ⟨p1,List.pairwise_singleton _ _,λa ha b hb=>?_⟩,p2,λa ha b hb=>?_⟩
  ·rw[List.mem_singleton]at hb;subst hb;exact uq a ha
  ·rcases List.mem_append.1 ha with q|q
   ·exact p3 a q b hb
   ·rw[List.mem_singleton]at q;subst q;exact hhi b hb
 ·unfold Ha
  rw[List.mem_append,List.mem_append,List.mem_singleton];constructor
  ·rintro((q|q)|q)
   ·exact Or.inl (List.mem_of_mem_take q)
   ·exact Or.inr q
   ·exact Or.inl (List.mem_of_mem_drop q)
  ·rintro(q|q)
   ·rw[←List.take_append_drop r AL]at q
    rcases List.mem_append.1 q with p|p
    ·exact Or.inl (Or.inl p)
    ·exact Or.inr p
   ·exact Or.inl (Or.inr q)
theorem Qav(n:X)(x:By):(Aq n x).size=n:=by
 have:∀(V:Int)(n:X),(Ij V n).length=n:=λV n=>by induction n with|zero=>rfl|succ n ih=>simp[Ij,ih]
 show((Ij _ n).toArray).size=n;simp[this]
end Go.Proofs.YtoakjccojifagaaGreatDoor
