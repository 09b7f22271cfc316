import Derived.Test.YtoakjccojifagaaGreatDoorBdB
namespace Go.Proofs.YtoakjccojifagaaGreatDoor
open _root_.Go.Proofs.Tryz Go.RowKit
open _root_ renaming List->L
set_option linter.unusedVariables false
set_option linter.unusedSimpArgs false
variable {ms ms':Mm} {ts:L T2} {st:L By} {ss:L S2} {n:Nat} {s s':Sb} {j:BJ} {a:BA}
open Classical in
noncomputable def Dh (ts:L T2) (ms:Mm) (st:L By):Nat:=(ts.filter λt=>decide ((fd ms t.name).isSome=true\/Eg st t.name)).length
theorem Pn(ts:L T2)(ms:Mm)(st:L By):Dh ts ms st<=ts.length:=List.length_filter_le _ _
theorem Kt{p q:T2->Bool}:∀(l:L T2),(∀t∈l,p t=true->q t=true)->(l.filter p).length<=(l.filter q).length
 | [],_=>Nat.le_refl _
 | a::l,h=>by
   have ih:=Kt l (λt ht=>h t (List.mem_cons_of_mem _ ht));rw[List.filter_cons,List.filter_cons]
   by_cases hp:p a=true
   ·rw[if_pos hp,if_pos (h a (List.mem_cons_self ..) hp)];simp;exact ih
   ·rw[if_neg hp]
    split
    ·simp;omega
    ·exact ih
theorem Sa{p q:T2->Bool}:∀(l:L T2),(∀t∈l,p t=true->q t=true)->(∃t∈l,p t=false/\q t=true)->(l.filter p).length+1<=(l.filter q).length
 | [],_,⟨t,ht,_⟩=>by simp at ht
 | a::l,h,⟨t,ht,h1,h2⟩=>by
   have hm:=Kt l (λt ht=>h t (List.mem_cons_of_mem _ ht));rw[List.filter_cons,List.filter_cons]
   rcases List.mem_cons.1 ht with e|ht
   ·subst e
    rw[if_neg (by rw[h1];decide),if_pos h2];simp;exact hm
   ·have ih:=Sa l (λt ht=>h t (List.mem_cons_of_mem _ ht)) ⟨t,ht,h1,h2⟩
    by_cases hp:p a=true
    ·rw[if_pos hp,if_pos (h a (List.mem_cons_self ..) hp)];simp;omega
    ·rw[if_neg hp]
     split
     ·simp;omega
     ·exact ih
theorem Sc{e:By×Md}{nm:By}(h:(fd ms nm).isSome=true):(fd (ms++[e]) nm).isSome=true:=by
 cases hf:fd ms nm with
 | none=>rw[hf]at h;cases h
 | some d=>rw[show fd (ms++[e]) nm=some d from fd_app_some (nm:=e.1) (d:=e.2) hf];rfl
theorem Uc(ts:L T2)(ms:Mm)(e:By×Md)(st:L By):Dh ts ms st<=Dh ts (ms++[e]) st:=Kt ts λt _ h=>by
 simp only[decide_eq_true_eq]at h ⊢
 rcases h with h|h
 ·exact Or.inl (Sc h)
 ·exact Or.inr h
theorem tc_pop(ts:L T2)(ms:Mm)(nm:By)(d:Md)(st:L By)(hn:fd ms nm=none):Dh ts ms (st++[nm])<=Dh ts (ms++[(nm,d)]) st:=Kt ts λt _ h=>by
 simp only[decide_eq_true_eq]at h ⊢
 rcases h with h|h
 ·exact Or.inl (Sc h)
 ·rcases Ee.1 h with q|q
  ·exact Or.inr q
  ·left;rw[q,Ii hn];rfl
theorem Yk{i:Nat}(hi:i<ts.length)(h1:fd ms (tx ts i).name=none)(h2:¬ Eg st (tx ts i).name):Dh ts ms st+1<=Dh ts ms (st++[(tx ts i).name]):=by
 refine Sa ts (λt _ h=>?_) ⟨tx ts i,?_,?_,?_⟩
 ·simp only[decide_eq_true_eq]at h ⊢
  rcases h with h|h
  ·exact Or.inl h
  ·exact Or.inr (Ee.2 (Or.inl h))
 ·unfold tx;rw[gG,Jr hi];exact List.getElem_mem _
 ·simp[h1,h2]
 ·simp only[decide_eq_true_eq];exact Or.inr (Ee.2 (Or.inr rfl))
def Pe:BJ->Nat
 | .make _=>1
 | .work _ _=>400200
 | .tri _ i m=>200*(m-i)
 | .holds gs k=>gs.length-k
 | .run _ ys _=>200-ys.length
theorem Ba.cost(hv:SpV ss ts)(h:Ba ss ts n ms s st j ms' s' a):Fy ss ts ms st->Gi n s->JobB s j->(∀b,a≠.bad b)->400200*Dh ts ms st+ms'.length<=ms.length+Pe j+400200*Dh ts ms' st:=by
 induction h with
 | known h1=>intro hi hs _ _;simp only[Pe];omega
 | circle=>intro _ _ _ ha;exact absurd rfl (ha _)
 | @source ms s st nm i h1 h0 h2 h3=>intro hi hs _ _;have:=Uc ts ms (nm,⟨0,(sx ss i).text,[]⟩) st;simp only[Pe,List.length_append,List.length_singleton];omega
 | @missing ms s st nm h1 h0 h2=>intro hi hs _ _;have:=Uc ts ms (nm,⟨4,nm,[]⟩) st;simp only[Pe,List.length_append,List.length_singleton];omega
 | deep=>intro _ _ _ ha;exact absurd rfl (ha _)
 | @made ms s st nm i ms' s' d h1 h0 h2 h3 h4 h5 hw ih=>
   intro hi hs hj _;have hth:=h4▸Iu h3;have hp:=hi.push h1 hth;obtain⟨k1,_,_,_⟩:=Ba.inv hv hw hp hs (hv.pr _ h3) (λb e=>qt);have k:=ih hp hs (hv.pr _ h3) (λb e=>qt);have q1:=tc_pop ts ms' nm d st (k1.nst _ (Ee.2 (Or.inr rfl)))
   have q2:Dh ts ms st+1<=Dh ts ms (st++[nm]):=by
    exact qlc
   simp only[Pe,List.length_append,List.length_singleton]at k ⊢;omega
 | fell=>intro _ _ _ ha;exact absurd rfl (ha _)
 | held _ ih=>
   intro hi hs hj _;have k:=ih hi hs (Nat.le_refl _) (λb e=>qt);have:=hs.2.1;simp only[Pe]at k ⊢;omega
 | tfell=>intro _ _ _ ha;exact absurd rfl (ha _)
 | ran h1 h2 ih ih2=>
   intro hi hs hj _;have k:=ih hi hs (Nat.le_refl _) (λb e=>qt);obtain⟨k1,k2,k3,k4⟩:=Ba.inv hv h1 hi hs (Nat.le_refl _) (λb e=>qt);have l:=ih2 k1 k2 ⟨⟨hj,λi hi=>qai,rfl⟩,qg,λg hg=>by simp at hg⟩ (λb e=>qt);have:=hs.2.1;simp only[Pe,List.length_nil]at k l ⊢;omega
 | rfell=>intro _ _ _ ha;exact absurd rfl (ha _)
 | tend=>intro hi hs _ _;simp only[Pe];omega
 | tother h1 h2 _ ih=>intro hi hs hj ha;have:=ih hi hs hj ha;simp only[Pe]at this ⊢;omega
 | thit h1 h2 _ ih=>
   intro hi hs hj _;have hq:=hs.2.2 _ (Nat.lt_of_lt_of_le h1 hj);have k:=ih hi hs ⟨hq.2.2.1,λj hj=>(hq.2.2.2 j hj).1⟩ (λb e=>qt);have:=hq.2.2.1;simp only[Pe]at k ⊢;omega
 | tno h1 h2 hh _ ih ih2=>
   intro hi hs hj ha;have hq:=hs.2.2 _ (Nat.lt_of_lt_of_le h1 hj);have k:=ih hi hs ⟨hq.2.2.1,λj hj=>(hq.2.2.2 j hj).1⟩ (λb e=>qt);obtain⟨k1,k2,k3,_⟩:=Ba.inv hv hh hi hs ⟨hq.2.2.1,λj hj=>(hq.2.2.2 j hj).1⟩ (λb e=>qt);have l:=ih2 k1 k2 (Nat.le_trans hj k3.len) ha;have:=hq.2.2.1;simp only[Pe]at k l ⊢;omega
 | tbad=>intro _ _ _ ha;exact absurd rfl (ha _)
 | hend=>intro hi hs _ _;simp only[Pe];omega
 | hhas h1 h2 h3 _ ih=>intro hi hs hj ha;have:=ih hi hs hj ha;simp only[Pe]at this ⊢;omega
 | hhasno=>intro hi hs _ _;simp only[Pe];omega
 | hask h1 h2 hm h4 _ ih ih2=>
   intro hi hs hj ha;have k:=ih hi hs (hj.2 _ h1) (λb e=>qt);obtain⟨k1,k2,k3,_⟩:=Ba.inv hv hm hi hs (hj.2 _ h1) (λb e=>qt);have l:=ih2 k1 k2 hj ha;simp only[Pe]at k l ⊢;omega
 | haskno h1 h2 _ h4 ih=>
   intro hi hs hj _;have k:=ih hi hs (hj.2 _ h1) (λb e=>qt);simp only[Pe]at k ⊢;omega
 | haskbad=>intro _ _ _ ha;exact absurd rfl (ha _)
 | over h1 h2=>intro hi hs hj _;simp only[Pe];omega
 | overbad=>intro _ _ _ ha;exact absurd rfl (ha _)
 | has h1 _ ih=>
   intro hi hs hj ha;obtain⟨k1,k2⟩:=hj.1.wait h1;have k:=ih hi hs ⟨hj.1.has _ _,qh,hj.2.2.snoc k2 (Ih _)⟩ ha;simp only[Pe,List.length_append,List.length_singleton]at k ⊢;omega
 | asked h1 hm _ ih ih2=>
   intro hi hs hj ha;obtain⟨k1,k2⟩:=hj.1.wait h1;have k:=ih hi hs k2 (λb e=>qt);obtain⟨i1,i2,i3,i4⟩:=Ba.inv hv hm hi hs k2 (λb e=>qt);have hd:=i1.done _ _ i4;have l:=ih2 i1 i2 ⟨hj.1.asked hd _,qh,hj.2.2.snoc k2 (Dt hd.t2)⟩ ha;simp only[Pe,List.length_append,List.length_singleton]at k l ⊢;omega
 | askbad=>intro _ _ _ ha;exact absurd rfl (ha _)
def Pf(ts:L T2)(ms:Mm)(s:Sb)(st:L By):Prop:=s.ran.length+s.held.length+st.length<=Dh ts ms st
theorem Ba.cnt(o:Nat)(hv:SpV ss ts)(h:Ba ss ts n ms s st j ms' s' a):Fy ss ts ms st->Gi n s->JobB s j->(∀b,a≠.bad b)->∀e,s.ran.length+s.held.length+e<=Dh ts ms st+o->s'.ran.length+s'.held.length+e<=Dh ts ms' st+o+Vo j:=by
 induction h with
 | known h1=>intro hi hs _ _ e he;simp only[Vo];omega
 | circle=>intro _ _ _ ha;exact absurd rfl (ha _)
 | @source ms s st nm i h1 h0 h2 h3=>intro hi hs _ _ e he;have:=Uc ts ms (nm,⟨0,(sx ss i).text,[]⟩) st;simp only[Vo];omega
 | @missing ms s st nm h1 h0 h2=>intro hi hs _ _ e he;have:=Uc ts ms (nm,⟨4,nm,[]⟩) st;simp only[Vo];omega
 | deep=>intro _ _ _ ha;exact absurd rfl (ha _)
 | @made ms s st nm i ms' s' d h1 h0 h2 h3 h4 h5 hw ih=>
   intro hi hs hj _ e he;have hth:=h4▸Iu h3;have hp:=hi.push h1 hth;obtain⟨k1,_,_,_⟩:=Ba.inv hv hw hp hs (hv.pr _ h3) (λb e=>qt);have q1:=tc_pop ts ms' nm d st (k1.nst _ (Ee.2 (Or.inr rfl)))
   have q2:Dh ts ms st+1<=Dh ts ms (st++[nm]):=by
    exact qlc
   have k:=ih hp hs (hv.pr _ h3) (λb e=>qt) (e+1) qb;simp only[Vo]at k ⊢;omega
 | fell=>intro _ _ _ ha;exact absurd rfl (ha _)
 | held _ ih=>
   intro hi hs hj _ e he;have k:=ih hi hs (Nat.le_refl _) (λb e=>qt) e he;simp only[Vo,List.length_append,List.length_singleton]at k ⊢;omega
 | tfell=>intro _ _ _ ha;exact absurd rfl (ha _)
 | ran h1 h2 ih ih2=>
   intro hi hs hj _ e he;have k:=ih hi hs (Nat.le_refl _) (λb e=>qt) e he;obtain⟨k1,k2,k3,k4⟩:=Ba.inv hv h1 hi hs (Nat.le_refl _) (λb e=>qt);have l:=ih2 k1 k2 ⟨⟨hj,λi hi=>qai,rfl⟩,qg,λg hg=>by simp at hg⟩ (λb e=>qt) e qet;simp only[Vo,List.length_append,List.length_singleton]at k l ⊢;omega
 | rfell=>intro _ _ _ ha;exact absurd rfl (ha _)
 | tend=>intro hi hs _ _ e he;simp only[Vo];omega
 | tother h1 h2 _ ih=>intro hi hs hj ha e he;exact ih hi hs hj ha e he
 | thit h1 h2 _ ih=>
   intro hi hs hj _ e he;have hq:=hs.2.2 _ (Nat.lt_of_lt_of_le h1 hj);exact ih hi hs ⟨hq.2.2.1,λj hj=>(hq.2.2.2 j hj).1⟩ (λb e=>qt) e he
 | tno h1 h2 hh _ ih ih2=>
   intro hi hs hj ha e he;have hq:=hs.2.2 _ (Nat.lt_of_lt_of_le h1 hj);have k:=ih hi hs ⟨hq.2.2.1,λj hj=>(hq.2.2.2 j hj).1⟩ (λb e=>qt) e he;obtain⟨k1,k2,k3,_⟩:=Ba.inv hv hh hi hs ⟨hq.2.2.1,λj hj=>(hq.2.2.2 j hj).1⟩ (λb e=>qt);exact ih2 k1 k2 (Nat.le_trans hj k3.len) ha e qet
 | tbad=>intro _ _ _ ha;exact absurd rfl (ha _)
 | hend=>intro hi hs _ _ e he;simp only[Vo];omega
 | hhas h1 h2 h3 _ ih=>intro hi hs hj ha e he;exact ih hi hs hj ha e he
 | hhasno=>intro hi hs _ _ e he;simp only[Vo];omega
 | hask h1 h2 hm h4 _ ih ih2=>
   intro hi hs hj ha e he;have k:=ih hi hs (hj.2 _ h1) (λb e=>qt) e he;obtain⟨k1,k2,k3,_⟩:=Ba.inv hv hm hi hs (hj.2 _ h1) (λb e=>qt);exact ih2 k1 k2 hj ha e qet
 | haskno h1 h2 _ h4 ih=>intro hi hs hj _ e he;exact ih hi hs (hj.2 _ h1) (λb e=>qt) e he
 | haskbad=>intro _ _ _ ha;exact absurd rfl (ha _)
 | over h1 h2=>
   intro hi hs hj _ e he
   cases h2 with
   | ok=>simp only[Vo];exact he
 | overbad=>intro _ _ _ ha;exact absurd rfl (ha _)
 | has h1 _ ih=>
   intro hi hs hj ha e he;obtain⟨k1,k2⟩:=hj.1.wait h1;exact ih hi hs ⟨hj.1.has _ _,qh,hj.2.2.snoc k2 (Ih _)⟩ ha e he
 | asked h1 hm _ ih ih2=>
   intro hi hs hj ha e he;obtain⟨k1,k2⟩:=hj.1.wait h1;have k:=ih hi hs k2 (λb e=>qt) e he;obtain⟨i1,i2,i3,i4⟩:=Ba.inv hv hm hi hs k2 (λb e=>qt);have hd:=i1.done _ _ i4;exact ih2 i1 i2 ⟨hj.1.asked hd _,qh,hj.2.2.snoc k2 (Dt hd.t2)⟩ ha e qet
 | askbad=>intro _ _ _ ha;exact absurd rfl (ha _)
theorem Ba.cntM(hv:SpV ss ts)(h:Ba ss ts n ms s st j ms' s' a)(hi:Fy ss ts ms st)(hs:Gi n s)(hj:JobB s j)(ha:∀b,a≠.bad b)(hz:Vo j=0)(hc:Pf ts ms s st):Pf ts ms' s' st:=by
 have:=h.cnt 0 hv hi hs hj ha st.length hc;rw[hz]at this;exact this
def cntO(ts:L T2)(ms:Mm)(s:Sb)(st:L By):Prop:=s.ran.length+s.held.length+st.length<=Dh ts ms st+40000
theorem Ba.cntOM(hv:SpV ss ts)(h:Ba ss ts n ms s st j ms' s' a)(hi:Fy ss ts ms st)(hs:Gi n s)(hj:JobB s j)(ha:∀b,a≠.bad b)(hz:Vo j=0)(hc:cntO ts ms s st):cntO ts ms' s' st:=by
 have:=h.cnt 40000 hv hi hs hj ha st.length hc;rw[hz]at this;exact this
end Go.Proofs.YtoakjccojifagaaGreatDoor
