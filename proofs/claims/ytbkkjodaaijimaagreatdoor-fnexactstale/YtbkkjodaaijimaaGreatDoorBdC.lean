import Derived.Test.YtbkkjodaaijimaaGreatDoorBdB
namespace Go.Proofs.YtbkkjodaaijimaaGreatDoor
open _root_.Go.Proofs.Tryz Go.RowKit
open _root_ renaming List->L
set_option linter.unusedVariables false
set_option linter.unusedSimpArgs false
variable {ms ms':Mm} {ts:L T2} {st:L By} {ss:L S2} {n:Nat} {s s':Sb} {j:BJ} {a:BA}
open Classical in
noncomputable def Db (ts:L T2) (ms:Mm) (st:L By):Nat:=(ts.filter λt=>decide ((fd ms t.name).isSome=true\/Ed st t.name)).length
theorem Mq(ts:L T2)(ms:Mm)(st:L By):Db ts ms st<=ts.length:=List.length_filter_le _ _
theorem Km{p q:T2->Bool}:∀(l:L T2),(∀t∈l,p t=true->q t=true)->(l.filter p).length<=(l.filter q).length
 | [],_=>Nat.le_refl _
 | a::l,h=>by
   have ih:=Km l (λt ht=>h t (List.mem_cons_of_mem _ ht));rw[List.filter_cons,List.filter_cons]
   by_cases hp:p a=true
   ·rw[if_pos hp,if_pos (h a (List.mem_cons_self ..) hp)];simp;exact ih
   ·rw[if_neg hp]
    split
    ·simp;omega
    ·exact ih
theorem Rj{p q:T2->Bool}:∀(l:L T2),(∀t∈l,p t=true->q t=true)->(∃t∈l,p t=false/\q t=true)->(l.filter p).length+1<=(l.filter q).length
 | [],_,⟨t,ht,_⟩=>by simp at ht
 | a::l,h,⟨t,ht,h1,h2⟩=>by
   have hm:=Km l (λt ht=>h t (List.mem_cons_of_mem _ ht));rw[List.filter_cons,List.filter_cons]
   rcases List.mem_cons.1 ht with e|ht
   ·subst e
    rw[if_neg (by rw[h1];decide),if_pos h2];simp;exact hm
   ·have ih:=Rj l (λt ht=>h t (List.mem_cons_of_mem _ ht)) ⟨t,ht,h1,h2⟩
    by_cases hp:p a=true
    ·rw[if_pos hp,if_pos (h a (List.mem_cons_self ..) hp)];simp;omega
    ·rw[if_neg hp]
     split
     ·simp;omega
     ·exact ih
theorem Rk{e:By×Md}{nm:By}(h:(fd ms nm).isSome=true):(fd (ms++[e]) nm).isSome=true:=by
 cases hf:fd ms nm with
 | none=>rw[hf]at h;cases h
 | some d=>rw[show fd (ms++[e]) nm=some d from fd_app_some (nm:=e.1) (d:=e.2) hf];rfl
theorem Tf(ts:L T2)(ms:Mm)(e:By×Md)(st:L By):Db ts ms st<=Db ts (ms++[e]) st:=Km ts λt _ h=>by
 simp only[decide_eq_true_eq]at h ⊢
 rcases h with h|h
 ·exact Or.inl (Rk h)
 ·exact Or.inr h
theorem tc_pop(ts:L T2)(ms:Mm)(nm:By)(d:Md)(st:L By)(hn:fd ms nm=none):Db ts ms (st++[nm])<=Db ts (ms++[(nm,d)]) st:=Km ts λt _ h=>by
 simp only[decide_eq_true_eq]at h ⊢
 rcases h with h|h
 ·exact Or.inl (Rk h)
 ·rcases Eb.1 h with q|q
  ·exact Or.inr q
  ·left;rw[q,Ia hn];rfl
theorem Xq{i:Nat}(hi:i<ts.length)(h1:fd ms (tx ts i).name=none)(h2:¬ Ed st (tx ts i).name):Db ts ms st+1<=Db ts ms (st++[(tx ts i).name]):=by
 refine Rj ts (λt _ h=>?_) ⟨tx ts i,?_,?_,?_⟩
 ·simp only[decide_eq_true_eq]at h ⊢
  rcases h with h|h
  ·exact Or.inl h
  ·exact Or.inr (Eb.2 (Or.inl h))
 ·unfold tx;rw[gG,Ix hi];exact List.getElem_mem _
 ·simp[h1,h2]
 ·simp only[decide_eq_true_eq];exact Or.inr (Eb.2 (Or.inr rfl))
def Ot:BJ->Nat
 | .make _=>1
 | .work _ _=>400200
 | .tri _ i m=>200*(m-i)
 | .holds gs k=>gs.length-k
 | .run _ ys _=>200-ys.length
theorem Bc.cost(hv:SpV ss ts)(h:Bc ss ts n ms s st j ms' s' a):Fv ss ts ms st->Jz n s->JobB s j->(∀b,a≠.bad b)->400200*Db ts ms st+ms'.length<=ms.length+Ot j+400200*Db ts ms' st:=by
 induction h with
 | known h1=>intro hi hs _ _;simp only[Ot];omega
 | circle=>intro _ _ _ ha;exact absurd rfl (ha _)
 | @source ms s st nm i h1 h0 h2 h3=>intro hi hs _ _;have:=Tf ts ms (nm,⟨0,(sx ss i).text,[]⟩) st;simp only[Ot,List.length_append,List.length_singleton];omega
 | @missing ms s st nm h1 h0 h2=>intro hi hs _ _;have:=Tf ts ms (nm,⟨4,nm,[]⟩) st;simp only[Ot,List.length_append,List.length_singleton];omega
 | deep=>intro _ _ _ ha;exact absurd rfl (ha _)
 | @made ms s st nm i ms' s' d h1 h0 h2 h3 h4 h5 hw ih=>
   intro hi hs hj _;have hth:=h4▸Il h3;have hp:=hi.push h1 hth;obtain⟨k1,_,_,_⟩:=Bc.inv hv hw hp hs (hv.pr _ h3) (λb e=>qu);have k:=ih hp hs (hv.pr _ h3) (λb e=>qu);have q1:=tc_pop ts ms' nm d st (k1.nst _ (Eb.2 (Or.inr rfl)))
   have q2:Db ts ms st+1<=Db ts ms (st++[nm]):=by
    exact qkp
   simp only[Ot,List.length_append,List.length_singleton]at k ⊢;omega
 | fell=>intro _ _ _ ha;exact absurd rfl (ha _)
 | held _ ih=>
   intro hi hs hj _;have k:=ih hi hs (Nat.le_refl _) (λb e=>qu);have:=hs.2.1;simp only[Ot]at k ⊢;omega
 | tfell=>intro _ _ _ ha;exact absurd rfl (ha _)
 | ran h1 h2 ih ih2=>
   intro hi hs hj _;have k:=ih hi hs (Nat.le_refl _) (λb e=>qu);obtain⟨k1,k2,k3,k4⟩:=Bc.inv hv h1 hi hs (Nat.le_refl _) (λb e=>qu);have l:=ih2 k1 k2 ⟨⟨hj,λi hi=>qaa,rfl⟩,qg,λg hg=>by simp at hg⟩ (λb e=>qu);have:=hs.2.1;simp only[Ot,List.length_nil]at k l ⊢;omega
 | rfell=>intro _ _ _ ha;exact absurd rfl (ha _)
 | tend=>intro hi hs _ _;simp only[Ot];omega
 | tother h1 h2 _ ih=>intro hi hs hj ha;have:=ih hi hs hj ha;simp only[Ot]at this ⊢;omega
 | thit h1 h2 _ ih=>
   intro hi hs hj _;have hq:=hs.2.2 _ (Nat.lt_of_lt_of_le h1 hj);have k:=ih hi hs ⟨hq.2.2.1,λj hj=>(hq.2.2.2 j hj).1⟩ (λb e=>qu);have:=hq.2.2.1;simp only[Ot]at k ⊢;omega
 | tno h1 h2 hh _ ih ih2=>
   intro hi hs hj ha;have hq:=hs.2.2 _ (Nat.lt_of_lt_of_le h1 hj);have k:=ih hi hs ⟨hq.2.2.1,λj hj=>(hq.2.2.2 j hj).1⟩ (λb e=>qu);obtain⟨k1,k2,k3,_⟩:=Bc.inv hv hh hi hs ⟨hq.2.2.1,λj hj=>(hq.2.2.2 j hj).1⟩ (λb e=>qu);have l:=ih2 k1 k2 (Nat.le_trans hj k3.len) ha;have:=hq.2.2.1;simp only[Ot]at k l ⊢;omega
 | tbad=>intro _ _ _ ha;exact absurd rfl (ha _)
 | hend=>intro hi hs _ _;simp only[Ot];omega
 | hhas h1 h2 h3 _ ih=>intro hi hs hj ha;have:=ih hi hs hj ha;simp only[Ot]at this ⊢;omega
 | hhasno=>intro hi hs _ _;simp only[Ot];omega
 | hask h1 h2 hm h4 _ ih ih2=>
   intro hi hs hj ha;have k:=ih hi hs (hj.2 _ h1) (λb e=>qu);obtain⟨k1,k2,k3,_⟩:=Bc.inv hv hm hi hs (hj.2 _ h1) (λb e=>qu);have l:=ih2 k1 k2 hj ha;simp only[Ot]at k l ⊢;omega
 | haskno h1 h2 _ h4 ih=>
   intro hi hs hj _;have k:=ih hi hs (hj.2 _ h1) (λb e=>qu);simp only[Ot]at k ⊢;omega
 | haskbad=>intro _ _ _ ha;exact absurd rfl (ha _)
 | over h1 h2=>intro hi hs hj _;simp only[Ot];omega
 | overbad=>intro _ _ _ ha;exact absurd rfl (ha _)
 | has h1 _ ih=>
   intro hi hs hj ha;obtain⟨k1,k2⟩:=hj.1.wait h1;have k:=ih hi hs ⟨hj.1.has _ _,qh,hj.2.2.snoc k2 (Hz _)⟩ ha;simp only[Ot,List.length_append,List.length_singleton]at k ⊢;omega
 | asked h1 hm _ ih ih2=>
   intro hi hs hj ha;obtain⟨k1,k2⟩:=hj.1.wait h1;have k:=ih hi hs k2 (λb e=>qu);obtain⟨i1,i2,i3,i4⟩:=Bc.inv hv hm hi hs k2 (λb e=>qu);have hd:=i1.done _ _ i4;have l:=ih2 i1 i2 ⟨hj.1.asked hd _,qh,hj.2.2.snoc k2 (Dp hd.t2)⟩ ha;simp only[Ot,List.length_append,List.length_singleton]at k l ⊢;omega
 | askbad=>intro _ _ _ ha;exact absurd rfl (ha _)
def Ku(ts:L T2)(ms:Mm)(s:Sb)(st:L By):Prop:=s.ran.length+s.held.length+st.length<=Db ts ms st
theorem Bc.cnt(hv:SpV ss ts)(h:Bc ss ts n ms s st j ms' s' a):Fv ss ts ms st->Jz n s->JobB s j->(∀b,a≠.bad b)->∀e,s.ran.length+s.held.length+e<=Db ts ms st->s'.ran.length+s'.held.length+e<=Db ts ms' st+Wl j:=by
 induction h with
 | known h1=>intro hi hs _ _ e he;simp only[Wl];omega
 | circle=>intro _ _ _ ha;exact absurd rfl (ha _)
 | @source ms s st nm i h1 h0 h2 h3=>intro hi hs _ _ e he;have:=Tf ts ms (nm,⟨0,(sx ss i).text,[]⟩) st;simp only[Wl];omega
 | @missing ms s st nm h1 h0 h2=>intro hi hs _ _ e he;have:=Tf ts ms (nm,⟨4,nm,[]⟩) st;simp only[Wl];omega
 | deep=>intro _ _ _ ha;exact absurd rfl (ha _)
 | @made ms s st nm i ms' s' d h1 h0 h2 h3 h4 h5 hw ih=>
   intro hi hs hj _ e he;have hth:=h4▸Il h3;have hp:=hi.push h1 hth;obtain⟨k1,_,_,_⟩:=Bc.inv hv hw hp hs (hv.pr _ h3) (λb e=>qu);have q1:=tc_pop ts ms' nm d st (k1.nst _ (Eb.2 (Or.inr rfl)))
   have q2:Db ts ms st+1<=Db ts ms (st++[nm]):=by
    exact qkp
   have k:=ih hp hs (hv.pr _ h3) (λb e=>qu) (e+1) qb;simp only[Wl]at k ⊢;omega
 | fell=>intro _ _ _ ha;exact absurd rfl (ha _)
 | held _ ih=>
   intro hi hs hj _ e he;have k:=ih hi hs (Nat.le_refl _) (λb e=>qu) e he;simp only[Wl,List.length_append,List.length_singleton]at k ⊢;omega
 | tfell=>intro _ _ _ ha;exact absurd rfl (ha _)
 | ran h1 h2 ih ih2=>
   intro hi hs hj _ e he;have k:=ih hi hs (Nat.le_refl _) (λb e=>qu) e he;obtain⟨k1,k2,k3,k4⟩:=Bc.inv hv h1 hi hs (Nat.le_refl _) (λb e=>qu);have l:=ih2 k1 k2 ⟨⟨hj,λi hi=>qaa,rfl⟩,qg,λg hg=>by simp at hg⟩ (λb e=>qu) e qdz;simp only[Wl,List.length_append,List.length_singleton]at k l ⊢;omega
 | rfell=>intro _ _ _ ha;exact absurd rfl (ha _)
 | tend=>intro hi hs _ _ e he;simp only[Wl];omega
 | tother h1 h2 _ ih=>intro hi hs hj ha e he;exact ih hi hs hj ha e he
 | thit h1 h2 _ ih=>
   intro hi hs hj _ e he;have hq:=hs.2.2 _ (Nat.lt_of_lt_of_le h1 hj);exact ih hi hs ⟨hq.2.2.1,λj hj=>(hq.2.2.2 j hj).1⟩ (λb e=>qu) e he
 | tno h1 h2 hh _ ih ih2=>
   intro hi hs hj ha e he;have hq:=hs.2.2 _ (Nat.lt_of_lt_of_le h1 hj);have k:=ih hi hs ⟨hq.2.2.1,λj hj=>(hq.2.2.2 j hj).1⟩ (λb e=>qu) e he;obtain⟨k1,k2,k3,_⟩:=Bc.inv hv hh hi hs ⟨hq.2.2.1,λj hj=>(hq.2.2.2 j hj).1⟩ (λb e=>qu);exact ih2 k1 k2 (Nat.le_trans hj k3.len) ha e qdz
 | tbad=>intro _ _ _ ha;exact absurd rfl (ha _)
 | hend=>intro hi hs _ _ e he;simp only[Wl];omega
 | hhas h1 h2 h3 _ ih=>intro hi hs hj ha e he;exact ih hi hs hj ha e he
 | hhasno=>intro hi hs _ _ e he;simp only[Wl];omega
 | hask h1 h2 hm h4 _ ih ih2=>
   intro hi hs hj ha e he;have k:=ih hi hs (hj.2 _ h1) (λb e=>qu) e he;obtain⟨k1,k2,k3,_⟩:=Bc.inv hv hm hi hs (hj.2 _ h1) (λb e=>qu);exact ih2 k1 k2 hj ha e qdz
 | haskno h1 h2 _ h4 ih=>intro hi hs hj _ e he;exact ih hi hs (hj.2 _ h1) (λb e=>qu) e he
 | haskbad=>intro _ _ _ ha;exact absurd rfl (ha _)
 | over h1 h2=>
   intro hi hs hj _ e he
   cases h2 with
   | ok=>simp only[Wl];exact he
 | overbad=>intro _ _ _ ha;exact absurd rfl (ha _)
 | has h1 _ ih=>
   intro hi hs hj ha e he;obtain⟨k1,k2⟩:=hj.1.wait h1;exact ih hi hs ⟨hj.1.has _ _,qh,hj.2.2.snoc k2 (Hz _)⟩ ha e he
 | asked h1 hm _ ih ih2=>
   intro hi hs hj ha e he;obtain⟨k1,k2⟩:=hj.1.wait h1;have k:=ih hi hs k2 (λb e=>qu) e he;obtain⟨i1,i2,i3,i4⟩:=Bc.inv hv hm hi hs k2 (λb e=>qu);have hd:=i1.done _ _ i4;exact ih2 i1 i2 ⟨hj.1.asked hd _,qh,hj.2.2.snoc k2 (Dp hd.t2)⟩ ha e qdz
 | askbad=>intro _ _ _ ha;exact absurd rfl (ha _)
theorem Bc.cntM(hv:SpV ss ts)(h:Bc ss ts n ms s st j ms' s' a)(hi:Fv ss ts ms st)(hs:Jz n s)(hj:JobB s j)(ha:∀b,a≠.bad b)(hz:Wl j=0)(hc:Ku ts ms s st):Ku ts ms' s' st:=by
 have:=h.cnt hv hi hs hj ha st.length hc;rw[hz]at this;exact this
end Go.Proofs.YtbkkjodaaijimaaGreatDoor
