import Derived.Test.YtoihflimijabjaaGreatDoorBsA
namespace Go.Proofs.YtoihflimijabjaaGreatDoor
open _root_.Go.Proofs.Tryz Go.RowKit
open Option renaming some->M,none->N
open _root_ renaming List->L,Nat->X
set_option linter.unusedVariables false
set_option linter.unusedSimpArgs false
variable {ms ms':Mm} {nm nm':By} {d:Md} {ss:L S2} {ts:L T2} {a:BA} {s s':Sb} {ls:L G3} {is is':L I3} {i n:X} {j:BJ}
theorem Iy(h:fd ms nm=N):fd (ms++[(nm,d)]) nm=M d:=by
 unfold fd at *;rw[List.find?_append]
 cases hf:ms.find? (λe=>decide (e.1=nm)) with
 | some x=>rw[hf]at h;cases h
 | none=>simp
theorem Ny(h:nm'≠nm):fd (ms++[(nm,d)]) nm'=fd ms nm':=by
 unfold fd;rw[List.find?_append];have:¬ nm=nm':=λe=>h e.symm
 cases hf:ms.find? (λe=>decide (e.1=nm')) with
 | some x=>simp
 | none=>simp[this]
theorem Xw{d':Md}(h:fd ms nm'=M d'):fd (ms++[(nm,d)]) nm'=M d':=by
 unfold fd at *;rw[List.find?_append]
 cases hf:ms.find? (λe=>decide (e.1=nm')) with
 | some x=>rw[hf]at h;simpa using h
 | none=>rw[hf]at h;cases h
theorem Fb{st:L By}{x:By}:Hs (st++[nm]) x↔Hs st x\/x=nm:=by
 constructor
 ·rintro⟨j,hj,e⟩
  rw[List.length_append,List.length_singleton]at hj
  rcases Nat.lt_or_ge j st.length with h|h
  ·left
   exact⟨j,h,by rw[←e];unfold nx;rw[gG,gG,List.getElem?_append_left h]⟩
  ·right
   obtain rfl:j=st.length:=qg;rw[←e];unfold nx;rw[gG,List.getElem?_append_right (Nat.le_refl _)];simp
 ·rintro(⟨j,hj,e⟩|rfl)
  ·exact⟨j,qgb,by rw[←e];unfold nx;rw[gG,gG,List.getElem?_append_left hj]⟩
  ·exact⟨st.length,qi,by unfold nx;rw[gG,List.getElem?_append_right (Nat.le_refl _)];simp⟩
structure Fj (ss:L S2) (ts:L T2) (ms:Mm) (st:L By):Prop where
 done:∀nm d,fd ms nm=M d->MdOk ss ts nm d
 tgt:∀nm,Hs st nm->Hs (Au ts) nm
 nst:∀nm,Hs st nm->fd ms nm=N
theorem Fj.nil(ss:L S2)(ts:L T2):Fj ss ts [] []:=⟨λnm d h=>by simp[fd]at h,λnm h=>by obtain⟨j,hj,_⟩:=h;simp at hj,λnm h=>by obtain⟨j,hj,_⟩:=h;simp at hj⟩
theorem Fj.add{st:L By}(h:Fj ss ts ms st)(h1:fd ms nm=N)(h2:¬ Hs st nm)(hd:MdOk ss ts nm d):Fj ss ts (ms++[(nm,d)]) st:=by
 refine⟨λx d' hx=>?_,h.tgt,λx hx=>?_⟩
 ·by_cases e:x=nm
  ·subst e;rw[Iy h1]at hx;cases hx;exact hd
  ·rw[Ny e]at hx;exact h.done x d' hx
 ·rw[Ny (λe=>by subst e;exact h2 hx)];exact h.nst x hx
theorem Fj.push{st:L By}(h:Fj ss ts ms st)(h1:fd ms nm=N)(ht:Hs (Au ts) nm):Fj ss ts ms (st++[nm]):=by
 refine⟨h.done,λx hx=>?_,λx hx=>?_⟩
 ·rcases Fb.1 hx with k|rfl
  ·exact h.tgt x k
  ·exact ht
 ·rcases Fb.1 hx with k|rfl
  ·exact h.nst x k
  ·exact h1
theorem Fj.pop{st:L By}(h:Fj ss ts ms (st++[nm]))(h2:¬ Hs st nm)(hd:MdOk ss ts nm d):Fj ss ts (ms++[(nm,d)]) st:=
 Fj.add ⟨h.done,λx hx=>h.tgt x (Fb.2 (Or.inl hx)),λx hx=>h.nst x (Fb.2 (Or.inl hx))⟩ (h.nst nm (Fb.2 (Or.inr rfl))) h2 hd
def Ka(n:X)(s:Sb):Prop:=Gu n s.T s.R
structure BGr (k:X) (ms:Mm) (s:Sb) (ms':Mm) (s':Sb):Prop where
 ex:∃r,ms'=ms++r
 recs:∃r,s'.R=s.R++r
 cnt:s'.ran.length+s'.held.length+ms.length<=s.ran.length+s.held.length+ms'.length+k
theorem BGr.refl(ms:Mm)(s:Sb):BGr 0 ms s ms s:=⟨⟨[],qi⟩,⟨[],qi⟩,Nat.le_refl _⟩
theorem BGr.trans{p q:X}{a b c:Mm}{x y z:Sb}(h:BGr p a x b y)(k:BGr q b y c z):BGr (p+q) a x c z:=by
 obtain⟨⟨r,rfl⟩,⟨q,e1⟩,h3⟩:=h;obtain⟨⟨r',rfl⟩,⟨q',e2⟩,k3⟩:=k;exact⟨⟨r++r',by rw[List.append_assoc]⟩,⟨q++q',by rw[e2,e1,List.append_assoc]⟩,qg⟩
theorem BGr.len{k0:X}(h:BGr k0 ms s ms' s'):s.R.length<=s'.R.length:=by
 obtain⟨_,⟨r,e⟩,_⟩:=h;rw[e,List.length_append];omega
def Qm(ls:L G3):Prop:=∀g∈ls,Ay g.name/\g.sum.size<=2002
theorem Qm.snoc{g:G3}(h:Qm ls)(h1:Ay g.name)(h2:g.sum.size<=2002):Qm (ls++[g]):=λx hx=>by
 rcases List.mem_append.1 hx with k|k
 ·exact h x k
 ·rw[List.mem_singleton]at k;subst k;exact⟨h1,h2⟩
def GsOk(gs:L G3):Prop:=gs.length<=200/\∀j,j<gs.length->Ay (gx gs j).name
def JobB(s:Sb):BJ->Prop
 | .make nm=>Ay nm
 | .work nm is=>Aq is=true
 | .tri is i m=>m<=s.R.length
 | .holds gs k=>GsOk gs
 | .run is ys ls=>Ig is ys ls/\ys.length<=200/\Qm ls
def MdB(d:Md):Prop:=0<=d.c/\d.c<=5/\d.t.size<=2000/\d.ls.length<=200
def Th(ms':Mm):BJ->BA->Prop
 | .make nm,.ok d=>fd ms' nm=M d
 | .work nm is,.ok d=>MdB d
 | .tri is i m,.hit c t=>0<=c/\c<=5/\t.size<=2000
 | .run is ys ls,.ok d=>MdB d
 | _,_=>True
theorem Th.tri{m i' m':X}(h:Th ms (.tri is i m) a):Th ms (.tri is' i' m') a:=by cases a<;>exact h
theorem Th.run{ys ys':L R3}{ls':L G3}(h:Th ms (.run is ys ls) a):Th ms (.run is' ys' ls') a:=by cases a<;>exact h
theorem Th.holds{gs V1:L G3}{k k':X}(h:Th ms (.holds gs k) a):Th ms (.holds V1 k') a:=by cases a<;>exact h
theorem Fd.ok{T xs T':L By}{a:Option He}(h:Fd n T xs T' a):Yd n T->(∀x∈xs,x.size<=2002)->Yd n T':=by
 induction h with
 | nil=>intro h _;exact h
 | @go T x xs r T' T'' a h1 h2 _ ih=>
   intro h hx;refine ih ?_ (λy hy=>hx y (List.mem_cons_of_mem _ hy))
   rcases h2 with⟨_,_,e,_⟩|⟨_,_,_,e,_⟩|⟨_,_,e,_⟩|⟨h3,h4,_,e,_⟩
   ·cases e
   ·rw[e];exact h
   ·cases e
   ·obtain⟨p1,p2,p3⟩:=h1.ins (So.of_asc h.2.2) h3
    rw[e];refine⟨by rw[p3];omega,λi hi=>?_,p1.asc⟩;rw[Mq hi]
    rcases(p2 _).1 (List.getElem_mem hi)with k|k
    ·obtain⟨j,hj,ej⟩:=List.mem_iff_getElem.1 k
     rw[←ej,←Mq hj];exact h.2.1 j hj
    ·rw[k];exact hx x (List.mem_cons_self ..)
 | clash=>intro h _;exact h
 | full=>intro h _;exact h
theorem askT_size(h:Qm ls):∀x∈Kq ls,x.size<=2002:=λx hx=>by
 unfold Kq at hx;obtain⟨g,hg,rfl⟩:=List.mem_map.1 hx;exact(h g (List.mem_filter.1 hg).1).2
theorem Rx(h:i<ls.length):gx ls i∈ls:=by
 unfold gx;rw[gG,gQ h];exact List.getElem_mem _
theorem Gv.good{c:Int}{t:By}(h:Gv n s is ls c t s' N)(hs:Ka n s)(hp:Aq is=true)(hl:ls.length<=200)(hls:Qm ls)(ht:t.size<=2000)(ms:Mm):Ka n s'/\BGr 0 ms s ms s':=by
 cases h with
 | ok h1 h2=>
   refine⟨⟨h1.ok hs.1 (λx hx=>?_),by simp only[List.length_append,List.length_singleton];omega,λi hi=>?_⟩,⟨⟨[],qi⟩,⟨_,rfl⟩,Nat.le_refl _⟩⟩
   ·rcases List.mem_append.1 hx with k|k
    ·exact askT_size hls x k
    ·rw[List.mem_singleton]at k;rw[k];exact Fc ht
   ·rw[List.length_append,List.length_singleton]at hi
    show Gq n (qx (s.R++[_]) i);unfold qx
    rcases Nat.lt_or_ge i s.R.length with k|k
    ·rw[gG,List.getElem?_append_left k,←gG];exact hs.2.2 i k
    ·obtain rfl:i=s.R.length:=qg
     rw[gG,List.getElem?_append_right (Nat.le_refl _)];simp only[Nat.sub_self,List.getElem?_cons_zero,Option.getD_some];refine⟨hp,Qx n _,by rw[List.length_map];exact hl,λj hj=>?_⟩;rw[List.length_map]at hj;show Kv n (gx (ls.map (Mr n)) j);rw[gx_map n ls j hj];exact⟨(hls _ (Rx hj)).1,Qx n _⟩
theorem Et(b:Bool):(De b).size<=2002:=by cases b<;>decide
def Tm:BJ->X
 | .work _ _=>1
 | _=>0
theorem Ca.inv(hv:SpV ss ts){st:L By}(h:Ca ss ts n ms s st j ms' s' a):Fj ss ts ms st->Ka n s->JobB s j->(∀b,a≠.bad b)->Fj ss ts ms' st/\Ka n s'/\BGr (Tm j) ms s ms' s'/\Th ms' j a:=by
 induction h with
 | known h1=>intro hi hs _ _;exact⟨hi,hs,BGr.refl _ _,h1⟩
 | circle=>intro _ _ _ ha;exact absurd rfl (ha _)
 | source h1 h0 h2 h3=>
   intro hi hs _ _;exact⟨hi.add h1 h0 ⟨qi,qi,hv.txt _ h2,qi,λhn=>absurd (Or.inl (h3▸Gm h2)) hn⟩,hs,⟨⟨_,rfl⟩,⟨[],qi⟩,by simp only[List.length_append,List.length_singleton,Tm];omega⟩,Iy h1⟩
 | missing h1 h0 h2=>
   intro hi hs hj _;have lj:_<=60:=hj.2.1;exact⟨hi.add h1 h0 ⟨qi,qi,qj,qi,λ_=>rfl⟩,hs,⟨⟨_,rfl⟩,⟨[],qi⟩,by simp only[List.length_append,List.length_singleton,Tm];omega⟩,Iy h1⟩
 | deep=>intro _ _ _ ha;exact absurd rfl (ha _)
 | made h1 h0 h2 h3 h4 h5 _ ih=>
   intro hi hs hj _;have hth:=h4▸Il h3;obtain⟨k1,k2,k3,k4⟩:=ih (hi.push h1 hth) hs (hv.pr _ h3) (λb e=>qt);refine⟨k1.pop h0 ⟨k4.1,k4.2.1,k4.2.2.1,k4.2.2.2,λhn=>absurd (Or.inr hth) hn⟩,k2,⟨by obtain⟨r,e⟩:=k3.ex;exact⟨r++[_],by rw[e,List.append_assoc]⟩,k3.recs,by have:=k3.cnt;simp only[List.length_append,List.length_singleton,Tm]at this ⊢;omega⟩,Iy (k1.nst _ (Fb.2 (Or.inr rfl)))⟩
 | fell=>intro _ _ _ ha;exact absurd rfl (ha _)
 | held _ ih=>
   intro hi hs hj _;obtain⟨k1,k2,k3,k4⟩:=ih hi hs (Nat.le_refl _) (λb e=>qt);exact⟨k1,k2,⟨k3.ex,k3.recs,by have:=k3.cnt;simp only[List.length_append,List.length_singleton,Tm]at this ⊢;omega⟩,⟨k4.1,k4.2.1,k4.2.2,qi⟩⟩
 | tfell=>intro _ _ _ ha;exact absurd rfl (ha _)
 | ran _ _ ih ih2=>
   intro hi hs hj _;obtain⟨k1,k2,k3,k4⟩:=ih hi hs (Nat.le_refl _) (λb e=>qt);obtain⟨l1,l2,l3,l4⟩:=ih2 k1 k2 ⟨⟨hj,λi hi=>Zk,rfl⟩,qi,λg hg=>by simp at hg⟩ (λb e=>qt);exact⟨l1,l2,⟨(k3.trans l3).ex,(k3.trans l3).recs,by have:=(k3.trans l3).cnt;simp only[List.length_append,List.length_singleton,Tm]at this ⊢;omega⟩,l4⟩
 | rfell=>intro _ _ _ ha;exact absurd rfl (ha _)
 | tend=>intro hi hs _ _;exact⟨hi,hs,BGr.refl _ _,trivial⟩
 | tother h1 h2 _ ih=>intro hi hs hj ha;obtain⟨l1,l2,l3,l4⟩:=ih hi hs hj ha;exact⟨l1,l2,l3,l4.tri⟩
 | thit h1 h2 _ ih=>
   intro hi hs hj _;have hq:=hs.2.2 _ (Nat.lt_of_lt_of_le h1 hj);obtain⟨k1,k2,k3,_⟩:=ih hi hs ⟨hq.2.2.1,λj hj=>(hq.2.2.2 j hj).1⟩ (λb e=>qt);exact⟨k1,k2,k3,(rr_code h2.2).1,(rr_code h2.2).2,rr_text h2.2⟩
 | tno h1 h2 _ _ ih ih2=>
   intro hi hs hj ha;have hq:=hs.2.2 _ (Nat.lt_of_lt_of_le h1 hj);obtain⟨k1,k2,k3,_⟩:=ih hi hs ⟨hq.2.2.1,λj hj=>(hq.2.2.2 j hj).1⟩ (λb e=>qt);obtain⟨l1,l2,l3,l4⟩:=ih2 k1 k2 (Nat.le_trans hj k3.len) ha;refine⟨l1,l2,k3.trans l3,l4.tri⟩
 | tbad=>intro _ _ _ ha;exact absurd rfl (ha _)
 | hend=>intro hi hs _ _;exact⟨hi,hs,BGr.refl _ _,trivial⟩
 | hhas h1 h2 h3 _ ih=>intro hi hs hj ha;obtain⟨l1,l2,l3,l4⟩:=ih hi hs hj ha;exact⟨l1,l2,l3,l4.holds⟩
 | hhasno=>intro hi hs _ _;exact⟨hi,hs,BGr.refl _ _,trivial⟩
 | hask h1 h2 _ h4 _ ih ih2=>
   intro hi hs hj ha;obtain⟨k1,k2,k3,_⟩:=ih hi hs (hj.2 _ h1) (λb e=>qt);obtain⟨l1,l2,l3,l4⟩:=ih2 k1 k2 hj ha;exact⟨l1,l2,k3.trans l3,l4.holds⟩
 | haskno h1 h2 _ h4 ih=>
   intro hi hs hj _;obtain⟨k1,k2,k3,_⟩:=ih hi hs (hj.2 _ h1) (λb e=>qt);exact⟨k1,k2,k3,trivial⟩
 | haskbad=>intro _ _ _ ha;exact absurd rfl (ha _)
 | over h1 h2=>
   intro hi hs hj _;obtain⟨k1,k2,k3⟩:=hj.1.over h1;have hl:=hj.1.eq;have hy:=hj.2.1;obtain⟨g1,g2⟩:=h2.good hs hj.1.pr qg hj.2.2 k1 _;exact⟨hi,g1,g2,k2,k3,k1,by show _<=200;simp only;omega⟩
 | overbad=>intro _ _ _ ha;exact absurd rfl (ha _)
 | has h1 _ ih=>
   intro hi hs hj ha;obtain⟨k1,k2⟩:=hj.1.wait h1;obtain⟨l1,l2,l3,l4⟩:=ih hi hs ⟨hj.1.has _ _,qj,hj.2.2.snoc k2 (Et _)⟩ ha;exact⟨l1,l2,l3,l4.run⟩
 | asked h1 _ _ ih ih2=>
   intro hi hs hj ha;obtain⟨k1,k2⟩:=hj.1.wait h1;obtain⟨i1,i2,i3,i4⟩:=ih hi hs k2 (λb e=>qt);have hd:=i1.done _ _ i4;obtain⟨j1,j2,j3,j4⟩:=ih2 i1 i2 ⟨hj.1.asked hd _,qj,hj.2.2.snoc k2 (Fc hd.t2)⟩ ha;exact⟨j1,j2,i3.trans j3,j4.run⟩
 | askbad=>intro _ _ _ ha;exact absurd rfl (ha _)
open Classical in
noncomputable def Hj (ts:L T2) (ms:Mm) (st:L By):X:=(ts.filter λt=>decide ((fd ms t.name).isSome=true\/Hs st t.name)).length
theorem My(ts:L T2)(ms:Mm)(st:L By):Hj ts ms st<=ts.length:=List.length_filter_le _ _
theorem Jl{p q:T2->Bool}:∀(l:L T2),(∀t∈l,p t=true->q t=true)->(l.filter p).length<=(l.filter q).length
 | [],_=>Nat.le_refl _
 | a::l,h=>by
   have ih:=Jl l (λt ht=>h t (List.mem_cons_of_mem _ ht));rw[List.filter_cons,List.filter_cons]
   by_cases hp:p a=true
   ·rw[if_pos hp,if_pos (h a (List.mem_cons_self ..) hp)];simp;exact ih
   ·rw[if_neg hp]
    split
    ·simp;omega
    ·exact ih
theorem Pw{p q:T2->Bool}:∀(l:L T2),(∀t∈l,p t=true->q t=true)->(∃t∈l,p t=false/\q t=true)->(l.filter p).length+1<=(l.filter q).length
 | [],_,⟨t,ht,_⟩=>by simp at ht
 | a::l,h,⟨t,ht,h1,h2⟩=>by
   have hm:=Jl l (λt ht=>h t (List.mem_cons_of_mem _ ht));rw[List.filter_cons,List.filter_cons]
   rcases List.mem_cons.1 ht with e|ht
   ·subst e
    rw[if_neg (by rw[h1];decide),if_pos h2];simp;exact hm
   ·have ih:=Pw l (λt ht=>h t (List.mem_cons_of_mem _ ht)) ⟨t,ht,h1,h2⟩
    by_cases hp:p a=true
    ·rw[if_pos hp,if_pos (h a (List.mem_cons_self ..) hp)];simp;omega
    ·rw[if_neg hp]
     split
     ·simp;omega
     ·exact ih
theorem Py{e:By×Md}(h:(fd ms nm).isSome=true):(fd (ms++[e]) nm).isSome=true:=by
 cases hf:fd ms nm with
 | none=>rw[hf]at h;cases h
 | some d=>rw[show fd (ms++[e]) nm=M d from Xw (nm:=e.1) (d:=e.2) hf];rfl
theorem Um(ts:L T2)(ms:Mm)(e:By×Md)(st:L By):Hj ts ms st<=Hj ts (ms++[e]) st:=Jl ts λt _ h=>by
 simp only[decide_eq_true_eq]at h ⊢
 rcases h with h|h
 ·exact Or.inl (Py h)
 ·exact Or.inr h
theorem tc_pop(ts:L T2)(ms:Mm)(nm:By)(d:Md)(st:L By)(hn:fd ms nm=N):Hj ts ms (st++[nm])<=Hj ts (ms++[(nm,d)]) st:=Jl ts λt _ h=>by
 simp only[decide_eq_true_eq]at h ⊢
 rcases h with h|h
 ·exact Or.inl (Py h)
 ·rcases Fb.1 h with q|q
  ·exact Or.inr q
  ·left;rw[q,Iy hn];rfl
theorem tc_push{st:L By}(hi:i<ts.length)(h1:fd ms (tx ts i).name=N)(h2:¬ Hs st (tx ts i).name):Hj ts ms st+1<=Hj ts ms (st++[(tx ts i).name]):=by
 refine Pw ts (λt _ h=>?_) ⟨tx ts i,?_,?_,?_⟩
 ·simp only[decide_eq_true_eq]at h ⊢
  rcases h with h|h
  ·exact Or.inl h
  ·exact Or.inr (Fb.2 (Or.inl h))
 ·unfold tx;rw[gG,gQ hi];exact List.getElem_mem _
 ·simp[h1,h2]
 ·simp only[decide_eq_true_eq];exact Or.inr (Fb.2 (Or.inr rfl))
def Qi:BJ->X
 | .make _=>1
 | .work _ _=>400200
 | .tri _ i m=>200*(m-i)
 | .holds gs k=>gs.length-k
 | .run _ ys _=>200-ys.length
theorem Ca.cost(hv:SpV ss ts){st:L By}(h:Ca ss ts n ms s st j ms' s' a):Fj ss ts ms st->Ka n s->JobB s j->(∀b,a≠.bad b)->400200*Hj ts ms st+ms'.length<=ms.length+Qi j+400200*Hj ts ms' st:=by
 induction h with
 | known h1=>intro hi hs _ _;simp only[Qi];omega
 | circle=>intro _ _ _ ha;exact absurd rfl (ha _)
 | @source ms s st nm i h1 h0 h2 h3=>intro hi hs _ _;have:=Um ts ms (nm,⟨0,(sx ss i).text,[]⟩) st;simp only[Qi,List.length_append,List.length_singleton];omega
 | @missing ms s st nm h1 h0 h2=>intro hi hs _ _;have:=Um ts ms (nm,⟨4,nm,[]⟩) st;simp only[Qi,List.length_append,List.length_singleton];omega
 | deep=>intro _ _ _ ha;exact absurd rfl (ha _)
 | @made ms s st nm i ms' s' d h1 h0 h2 h3 h4 h5 hw ih=>
   intro hi hs hj _;have hth:=h4▸Il h3;have hp:=hi.push h1 hth;obtain⟨k1,_,_,_⟩:=Ca.inv hv hw hp hs (hv.pr _ h3) (λb e=>qt);have k:=ih hp hs (hv.pr _ h3) (λb e=>qt);have q1:=tc_pop ts ms' nm d st (k1.nst _ (Fb.2 (Or.inr rfl)))
   have q2:Hj ts ms st+1<=Hj ts ms (st++[nm]):=by
    exact qkd
   simp only[Qi,List.length_append,List.length_singleton]at k ⊢;omega
 | fell=>intro _ _ _ ha;exact absurd rfl (ha _)
 | held _ ih=>
   intro hi hs hj _;have k:=ih hi hs (Nat.le_refl _) (λb e=>qt);have:=hs.2.1;simp only[Qi]at k ⊢;omega
 | tfell=>intro _ _ _ ha;exact absurd rfl (ha _)
 | ran h1 h2 ih ih2=>
   intro hi hs hj _;have k:=ih hi hs (Nat.le_refl _) (λb e=>qt);obtain⟨k1,k2,k3,k4⟩:=Ca.inv hv h1 hi hs (Nat.le_refl _) (λb e=>qt);have l:=ih2 k1 k2 ⟨⟨hj,λi hi=>Zk,rfl⟩,qi,λg hg=>by simp at hg⟩ (λb e=>qt);have:=hs.2.1;simp only[Qi,List.length_nil]at k l ⊢;omega
 | rfell=>intro _ _ _ ha;exact absurd rfl (ha _)
 | tend=>intro hi hs _ _;simp only[Qi];omega
 | tother h1 h2 _ ih=>intro hi hs hj ha;have:=ih hi hs hj ha;simp only[Qi]at this ⊢;omega
 | thit h1 h2 _ ih=>
   intro hi hs hj _;have hq:=hs.2.2 _ (Nat.lt_of_lt_of_le h1 hj);have k:=ih hi hs ⟨hq.2.2.1,λj hj=>(hq.2.2.2 j hj).1⟩ (λb e=>qt);have:=hq.2.2.1;simp only[Qi]at k ⊢;omega
 | tno h1 h2 hh _ ih ih2=>
   intro hi hs hj ha;have hq:=hs.2.2 _ (Nat.lt_of_lt_of_le h1 hj);have k:=ih hi hs ⟨hq.2.2.1,λj hj=>(hq.2.2.2 j hj).1⟩ (λb e=>qt);obtain⟨k1,k2,k3,_⟩:=Ca.inv hv hh hi hs ⟨hq.2.2.1,λj hj=>(hq.2.2.2 j hj).1⟩ (λb e=>qt);have l:=ih2 k1 k2 (Nat.le_trans hj k3.len) ha;have:=hq.2.2.1;simp only[Qi]at k l ⊢;omega
 | tbad=>intro _ _ _ ha;exact absurd rfl (ha _)
 | hend=>intro hi hs _ _;simp only[Qi];omega
 | hhas h1 h2 h3 _ ih=>intro hi hs hj ha;have:=ih hi hs hj ha;simp only[Qi]at this ⊢;omega
 | hhasno=>intro hi hs _ _;simp only[Qi];omega
 | hask h1 h2 hm h4 _ ih ih2=>
   intro hi hs hj ha;have k:=ih hi hs (hj.2 _ h1) (λb e=>qt);obtain⟨k1,k2,k3,_⟩:=Ca.inv hv hm hi hs (hj.2 _ h1) (λb e=>qt);have l:=ih2 k1 k2 hj ha;simp only[Qi]at k l ⊢;omega
 | haskno h1 h2 _ h4 ih=>
   intro hi hs hj _;have k:=ih hi hs (hj.2 _ h1) (λb e=>qt);simp only[Qi]at k ⊢;omega
 | haskbad=>intro _ _ _ ha;exact absurd rfl (ha _)
 | over h1 h2=>intro hi hs hj _;simp only[Qi];omega
 | overbad=>intro _ _ _ ha;exact absurd rfl (ha _)
 | has h1 _ ih=>
   intro hi hs hj ha;obtain⟨k1,k2⟩:=hj.1.wait h1;have k:=ih hi hs ⟨hj.1.has _ _,qj,hj.2.2.snoc k2 (Et _)⟩ ha;simp only[Qi,List.length_append,List.length_singleton]at k ⊢;omega
 | asked h1 hm _ ih ih2=>
   intro hi hs hj ha;obtain⟨k1,k2⟩:=hj.1.wait h1;have k:=ih hi hs k2 (λb e=>qt);obtain⟨i1,i2,i3,i4⟩:=Ca.inv hv hm hi hs k2 (λb e=>qt);have hd:=i1.done _ _ i4;have l:=ih2 i1 i2 ⟨hj.1.asked hd _,qj,hj.2.2.snoc k2 (Fc hd.t2)⟩ ha;simp only[Qi,List.length_append,List.length_singleton]at k l ⊢;omega
 | askbad=>intro _ _ _ ha;exact absurd rfl (ha _)
def Mb(ts:L T2)(ms:Mm)(s:Sb)(st:L By):Prop:=s.ran.length+s.held.length+st.length<=Hj ts ms st
theorem Ca.cnt(o:X)(hv:SpV ss ts){st:L By}(h:Ca ss ts n ms s st j ms' s' a):Fj ss ts ms st->Ka n s->JobB s j->(∀b,a≠.bad b)->∀e,s.ran.length+s.held.length+e<=Hj ts ms st+o->s'.ran.length+s'.held.length+e<=Hj ts ms' st+o+Tm j:=by
 induction h with
 | known h1=>intro hi hs _ _ e he;simp only[Tm];omega
 | circle=>intro _ _ _ ha;exact absurd rfl (ha _)
 | @source ms s st nm i h1 h0 h2 h3=>intro hi hs _ _ e he;have:=Um ts ms (nm,⟨0,(sx ss i).text,[]⟩) st;simp only[Tm];omega
 | @missing ms s st nm h1 h0 h2=>intro hi hs _ _ e he;have:=Um ts ms (nm,⟨4,nm,[]⟩) st;simp only[Tm];omega
 | deep=>intro _ _ _ ha;exact absurd rfl (ha _)
 | @made ms s st nm i ms' s' d h1 h0 h2 h3 h4 h5 hw ih=>
   intro hi hs hj _ e he;have hth:=h4▸Il h3;have hp:=hi.push h1 hth;obtain⟨k1,_,_,_⟩:=Ca.inv hv hw hp hs (hv.pr _ h3) (λb e=>qt);have q1:=tc_pop ts ms' nm d st (k1.nst _ (Fb.2 (Or.inr rfl)))
   have q2:Hj ts ms st+1<=Hj ts ms (st++[nm]):=by
    exact qkd
   have k:=ih hp hs (hv.pr _ h3) (λb e=>qt) (e+1) qg;simp only[Tm]at k ⊢;omega
 | fell=>intro _ _ _ ha;exact absurd rfl (ha _)
 | held _ ih=>
   intro hi hs hj _ e he;have k:=ih hi hs (Nat.le_refl _) (λb e=>qt) e he;simp only[Tm,List.length_append,List.length_singleton]at k ⊢;omega
 | tfell=>intro _ _ _ ha;exact absurd rfl (ha _)
 | ran h1 h2 ih ih2=>
   intro hi hs hj _ e he;have k:=ih hi hs (Nat.le_refl _) (λb e=>qt) e he;obtain⟨k1,k2,k3,k4⟩:=Ca.inv hv h1 hi hs (Nat.le_refl _) (λb e=>qt);have l:=ih2 k1 k2 ⟨⟨hj,λi hi=>Zk,rfl⟩,qi,λg hg=>by simp at hg⟩ (λb e=>qt) e qdm;simp only[Tm,List.length_append,List.length_singleton]at k l ⊢;omega
 | rfell=>intro _ _ _ ha;exact absurd rfl (ha _)
 | tend=>intro hi hs _ _ e he;simp only[Tm];omega
 | tother h1 h2 _ ih=>intro hi hs hj ha e he;exact ih hi hs hj ha e he
 | thit h1 h2 _ ih=>
   intro hi hs hj _ e he;have hq:=hs.2.2 _ (Nat.lt_of_lt_of_le h1 hj);exact ih hi hs ⟨hq.2.2.1,λj hj=>(hq.2.2.2 j hj).1⟩ (λb e=>qt) e he
 | tno h1 h2 hh _ ih ih2=>
   intro hi hs hj ha e he;have hq:=hs.2.2 _ (Nat.lt_of_lt_of_le h1 hj);have k:=ih hi hs ⟨hq.2.2.1,λj hj=>(hq.2.2.2 j hj).1⟩ (λb e=>qt) e he;obtain⟨k1,k2,k3,_⟩:=Ca.inv hv hh hi hs ⟨hq.2.2.1,λj hj=>(hq.2.2.2 j hj).1⟩ (λb e=>qt);exact ih2 k1 k2 (Nat.le_trans hj k3.len) ha e qdm
 | tbad=>intro _ _ _ ha;exact absurd rfl (ha _)
 | hend=>intro hi hs _ _ e he;simp only[Tm];omega
 | hhas h1 h2 h3 _ ih=>intro hi hs hj ha e he;exact ih hi hs hj ha e he
 | hhasno=>intro hi hs _ _ e he;simp only[Tm];omega
 | hask h1 h2 hm h4 _ ih ih2=>
   intro hi hs hj ha e he;have k:=ih hi hs (hj.2 _ h1) (λb e=>qt) e he;obtain⟨k1,k2,k3,_⟩:=Ca.inv hv hm hi hs (hj.2 _ h1) (λb e=>qt);exact ih2 k1 k2 hj ha e qdm
 | haskno h1 h2 _ h4 ih=>intro hi hs hj _ e he;exact ih hi hs (hj.2 _ h1) (λb e=>qt) e he
 | haskbad=>intro _ _ _ ha;exact absurd rfl (ha _)
 | over h1 h2=>
   intro hi hs hj _ e he
   cases h2 with
   | ok=>simp only[Tm];exact he
 | overbad=>intro _ _ _ ha;exact absurd rfl (ha _)
 | has h1 _ ih=>
   intro hi hs hj ha e he;obtain⟨k1,k2⟩:=hj.1.wait h1;exact ih hi hs ⟨hj.1.has _ _,qj,hj.2.2.snoc k2 (Et _)⟩ ha e he
 | asked h1 hm _ ih ih2=>
   intro hi hs hj ha e he;obtain⟨k1,k2⟩:=hj.1.wait h1;have k:=ih hi hs k2 (λb e=>qt) e he;obtain⟨i1,i2,i3,i4⟩:=Ca.inv hv hm hi hs k2 (λb e=>qt);have hd:=i1.done _ _ i4;exact ih2 i1 i2 ⟨hj.1.asked hd _,qj,hj.2.2.snoc k2 (Fc hd.t2)⟩ ha e qdm
 | askbad=>intro _ _ _ ha;exact absurd rfl (ha _)
theorem Ca.cntM(hv:SpV ss ts){st:L By}(h:Ca ss ts n ms s st j ms' s' a)(hi:Fj ss ts ms st)(hs:Ka n s)(hj:JobB s j)(ha:∀b,a≠.bad b)(hz:Tm j=0)(hc:Mb ts ms s st):Mb ts ms' s' st:=by
 have:=h.cnt 0 hv hi hs hj ha st.length hc;rw[hz]at this;exact this
end Go.Proofs.YtoihflimijabjaaGreatDoor
