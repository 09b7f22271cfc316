import Derived.Test.YtnflkpmmfpfhlaaGreatDoorBsA
namespace Go.Proofs.YtnflkpmmfpfhlaaGreatDoor
open Value renaming slice->J,string->S,bool->F,agg->G,pointer->D,tuple->Y
open Option renaming some->M,none->N
open Obj renaming cells->O
open Go renaming Value->Z,World->E
open Ending renaming returned->H
open _root_ renaming List->L,Nat->X
set_option maxHeartbeats 8000000
set_option maxRecDepth 100000
open _root_.Go.Proofs.Tryz Go.RowKit Go.Deep
set_option linter.unusedVariables false
set_option linter.unusedSimpArgs false
variable {ms ms':Mm} {nm nm' x t f:By} {d:Md} {st T' l':L By} {ss:L S2} {ts:L T2} {p b i m k n T e B sz h sn sn' al cap:X} {a:BA} {y:Bool} {s s':Sb} {ls:L G3} {is is':L I3} {ys:L R3} {xs l:L Z} {j:BJ} {w w' w1 W:E} {u sv tv nw lv av kv u0 u1 u2 nv:Z} {cs:Array Z} {v:Hv} {R:L T3} {AM X':X->Prop} {vs:By->Z} {ops:Array Oper} {Q:Exit->Act->E->Prop} {AF:Prop}
theorem Ih(h:fd ms nm=N):fd (ms++[(nm,d)]) nm=M d:=by
 unfold fd at *;rw[List.find?_append]
 cases hf:ms.find? (λe=>decide (e.1=nm)) with
 | some x=>rw[hf]at h;cases h
 | none=>simp
theorem Me(h:nm'≠nm):fd (ms++[(nm,d)]) nm'=fd ms nm':=by
 unfold fd;rw[List.find?_append];have:¬ nm=nm':=λe=>h e.symm
 cases hf:ms.find? (λe=>decide (e.1=nm')) with
 | some x=>simp
 | none=>simp[this]
theorem fd_app_some{d':Md}(h:fd ms nm'=M d'):fd (ms++[(nm,d)]) nm'=M d':=by
 unfold fd at *;rw[List.find?_append]
 cases hf:ms.find? (λe=>decide (e.1=nm')) with
 | some x=>rw[hf]at h;simpa using h
 | none=>rw[hf]at h;cases h
theorem Ei:El (st++[nm]) x↔El st x\/x=nm:=by
 constructor
 ·rintro⟨j,hj,e⟩
  rw[List.length_append,List.length_singleton]at hj
  rcases Nat.lt_or_ge j st.length with h|h
  ·left
   exact⟨j,h,by rw[←e];unfold nx;rw[gG,gG,List.getElem?_append_left h]⟩
  ·right
   obtain rfl:j=st.length:=qg;rw[←e];unfold nx;rw[gG,List.getElem?_append_right (Nat.le_refl _)];simp
 ·rintro(⟨j,hj,e⟩|rfl)
  ·exact⟨j,qhn,by rw[←e];unfold nx;rw[gG,gG,List.getElem?_append_left hj]⟩
  ·exact⟨st.length,qi,by unfold nx;rw[gG,List.getElem?_append_right (Nat.le_refl _)];simp⟩
structure Gs (ss:L S2) (ts:L T2) (ms:Mm) (st:L By):Prop where
 done:∀nm d,fd ms nm=M d->MdOk ss ts nm d
 tgt:∀nm,El st nm->El (Aq ts) nm
 nst:∀nm,El st nm->fd ms nm=N
theorem Gs.nil(ss:L S2)(ts:L T2):Gs ss ts [] []:=⟨λnm d h=>by simp[fd]at h,λnm h=>by obtain⟨j,hj,_⟩:=h;simp at hj,λnm h=>by obtain⟨j,hj,_⟩:=h;simp at hj⟩
theorem Gs.add(h:Gs ss ts ms st)(h1:fd ms nm=N)(h2:¬ El st nm)(hd:MdOk ss ts nm d):Gs ss ts (ms++[(nm,d)]) st:=by
 refine⟨λx d' hx=>?_,h.tgt,λx hx=>?_⟩
 ·by_cases e:x=nm
  ·subst e;rw[Ih h1]at hx;cases hx;exact hd
  ·rw[Me e]at hx;exact h.done x d' hx
 ·rw[Me (λe=>by subst e;exact h2 hx)];exact h.nst x hx
theorem Gs.push(h:Gs ss ts ms st)(h1:fd ms nm=N)(ht:El (Aq ts) nm):Gs ss ts ms (st++[nm]):=by
 refine⟨h.done,λx hx=>?_,λx hx=>?_⟩
 ·rcases Ei.1 hx with k|rfl
  ·exact h.tgt x k
  ·exact ht
 ·rcases Ei.1 hx with k|rfl
  ·exact h.nst x k
  ·exact h1
theorem Gs.pop(h:Gs ss ts ms (st++[nm]))(h2:¬ El st nm)(hd:MdOk ss ts nm d):Gs ss ts (ms++[(nm,d)]) st:=
 Gs.add ⟨h.done,λx hx=>h.tgt x (Ei.2 (Or.inl hx)),λx hx=>h.nst x (Ei.2 (Or.inl hx))⟩ (h.nst nm (Ei.2 (Or.inr rfl))) h2 hd
def Fy(n:X)(s:Sb):Prop:=Jd n s.T s.R
structure BGr (k:X) (ms:Mm) (s:Sb) (ms':Mm) (s':Sb):Prop where
 ex:∃r,ms'=ms++r
 recs:∃r,s'.R=s.R++r
 cnt:s'.ran.length+s'.held.length+ms.length<=s.ran.length+s.held.length+ms'.length+k
theorem BGr.refl(ms:Mm)(s:Sb):BGr 0 ms s ms s:=⟨⟨[],qi⟩,⟨[],qi⟩,Nat.le_refl _⟩
theorem BGr.trans{q:X}{a b c:Mm}{x y z:Sb}(h:BGr p a x b y)(k:BGr q b y c z):BGr (p+q) a x c z:=by
 obtain⟨⟨r,rfl⟩,⟨q,e1⟩,h3⟩:=h;obtain⟨⟨r',rfl⟩,⟨q',e2⟩,k3⟩:=k;exact⟨⟨r++r',by rw[List.append_assoc]⟩,⟨q++q',by rw[e2,e1,List.append_assoc]⟩,qg⟩
theorem BGr.len{k0:X}(h:BGr k0 ms s ms' s'):s.R.length<=s'.R.length:=by
 obtain⟨_,⟨r,e⟩,_⟩:=h;rw[e,List.length_append];omega
def Oq(ls:L G3):Prop:=∀g∈ls,Ao g.name/\g.sum.size<=2002
theorem Oq.snoc{g:G3}(h:Oq ls)(h1:Ao g.name)(h2:g.sum.size<=2002):Oq (ls++[g]):=λx hx=>by
 rcases List.mem_append.1 hx with k|k
 ·exact h x k
 ·rw[List.mem_singleton]at k;subst k;exact⟨h1,h2⟩
def GsOk(gs:L G3):Prop:=gs.length<=200/\∀j,j<gs.length->Ao (gx gs j).name
def JobB(s:Sb):BJ->Prop
 | .make nm=>Ao nm
 | .work nm is=>Av is=true
 | .tri is i m=>m<=s.R.length
 | .holds gs k=>GsOk gs
 | .run is ys ls=>Gq is ys ls/\ys.length<=200/\Oq ls
def MdB(d:Md):Prop:=0<=d.c/\d.c<=5/\d.t.size<=2000/\d.ls.length<=200
def Xx(ms':Mm):BJ->BA->Prop
 | .make nm,.ok d=>fd ms' nm=M d
 | .work nm is,.ok d=>MdB d
 | .tri is i m,.hit c t=>0<=c/\c<=5/\t.size<=2000
 | .run is ys ls,.ok d=>MdB d
 | _,_=>True
theorem Xx.tri{i' m':X}(h:Xx ms (.tri is i m) a):Xx ms (.tri is' i' m') a:=by cases a<;>exact h
theorem Xx.run{ys':L R3}{ls':L G3}(h:Xx ms (.run is ys ls) a):Xx ms (.run is' ys' ls') a:=by cases a<;>exact h
theorem Xx.holds{gs gs':L G3}{k':X}(h:Xx ms (.holds gs k) a):Xx ms (.holds gs' k') a:=by cases a<;>exact h
theorem Dr.ok{T xs:L By}{a:Option Gi}(h:Dr n T xs T' a):Wf n T->(∀x∈xs,x.size<=2002)->Wf n T':=by
 induction h with
 | nil=>intro h _;exact h
 | @go T x xs r T' T'' a h1 h2 _ ih=>
   intro h hx;refine ih ?_ (λy hy=>hx y (List.mem_cons_of_mem _ hy))
   rcases h2 with⟨_,_,e,_⟩|⟨_,_,_,e,_⟩|⟨_,_,e,_⟩|⟨h3,h4,_,e,_⟩
   ·cases e
   ·rw[e];exact h
   ·cases e
   ·obtain⟨p1,p2,p3⟩:=h1.ins (So.of_asc h.2.2) h3
    rw[e];refine⟨by rw[p3];omega,λi hi=>?_,p1.asc⟩;rw[Pm hi]
    rcases(p2 _).1 (List.getElem_mem hi)with k|k
    ·obtain⟨j,hj,ej⟩:=List.mem_iff_getElem.1 k
     rw[←ej,←Pm hj];exact h.2.1 j hj
    ·rw[k];exact hx x (List.mem_cons_self ..)
 | clash=>intro h _;exact h
 | full=>intro h _;exact h
theorem askT_size(h:Oq ls):∀x∈Jb ls,x.size<=2002:=λx hx=>by
 unfold Jb at hx;obtain⟨g,hg,rfl⟩:=List.mem_map.1 hx;exact(h g (List.mem_filter.1 hg).1).2
theorem Ma(h:i<ls.length):gx ls i∈ls:=by
 unfold gx;rw[gG,Hq h];exact List.getElem_mem _
theorem Ez.good{c:Int}(h:Ez n s is ls c t s' N)(hs:Fy n s)(hp:Av is=true)(hl:ls.length<=200)(hls:Oq ls)(ht:t.size<=2000)(ms:Mm):Fy n s'/\BGr 0 ms s ms s':=by
 cases h with
 | ok h1 h2=>
   refine⟨⟨h1.ok hs.1 (λx hx=>?_),by simp only[List.length_append,List.length_singleton];omega,λi hi=>?_⟩,⟨⟨[],qi⟩,⟨_,rfl⟩,Nat.le_refl _⟩⟩
   ·rcases List.mem_append.1 hx with k|k
    ·exact askT_size hls x k
    ·rw[List.mem_singleton]at k;rw[k];exact Dx ht
   ·rw[List.length_append,List.length_singleton]at hi
    show Js n (qx (s.R++[_]) i);unfold qx
    rcases Nat.lt_or_ge i s.R.length with k|k
    ·rw[gG,List.getElem?_append_left k,←gG];exact hs.2.2 i k
    ·obtain rfl:i=s.R.length:=qg
     rw[gG,List.getElem?_append_right (Nat.le_refl _)];simp only[Nat.sub_self,List.getElem?_cons_zero,Option.getD_some];refine⟨hp,sum_size n _,by rw[List.length_map];exact hl,λj hj=>?_⟩;rw[List.length_map]at hj;show Nw n (gx (ls.map (Lq n)) j);rw[gx_map n ls j hj];exact⟨(hls _ (Ma hj)).1,sum_size n _⟩
theorem Ig(b:Bool):(Cz b).size<=2002:=by cases b<;>decide
def Wk:BJ->X
 | .work _ _=>1
 | _=>0
theorem Az.inv(hv:Xv ss ts)(h:Az ss ts n ms s st j ms' s' a):Gs ss ts ms st->Fy n s->JobB s j->(∀b,a≠.bad b)->Gs ss ts ms' st/\Fy n s'/\BGr (Wk j) ms s ms' s'/\Xx ms' j a:=by
 induction h with
 | known h1=>intro hi hs _ _;exact⟨hi,hs,BGr.refl _ _,h1⟩
 | circle=>intro _ _ _ ha;exact absurd rfl (ha _)
 | source h1 h0 h2 h3=>
   intro hi hs _ _;exact⟨hi.add h1 h0 ⟨qi,qi,hv.txt _ h2,qi,λhn=>absurd (Or.inl (h3▸Hl h2)) hn⟩,hs,⟨⟨_,rfl⟩,⟨[],qi⟩,by simp only[List.length_append,List.length_singleton,Wk];omega⟩,Ih h1⟩
 | missing h1 h0 h2=>
   intro hi hs hj _;have jv:=hj.2.1;exact⟨hi.add h1 h0 ⟨qi,qi,qj,qi,λ_=>rfl⟩,hs,⟨⟨_,rfl⟩,⟨[],qi⟩,by simp only[List.length_append,List.length_singleton,Wk];omega⟩,Ih h1⟩
 | deep=>intro _ _ _ ha;exact absurd rfl (ha _)
 | made h1 h0 h2 h3 h4 h5 _ ih=>
   intro hi hs hj _;have hth:=h4▸Ir h3;obtain⟨k1,k2,k3,k4⟩:=ih (hi.push h1 hth) hs (hv.pr _ h3) (λb e=>qw);refine⟨k1.pop h0 ⟨k4.1,k4.2.1,k4.2.2.1,k4.2.2.2,λhn=>absurd (Or.inr hth) hn⟩,k2,⟨by obtain⟨r,e⟩:=k3.ex;exact⟨r++[_],by rw[e,List.append_assoc]⟩,k3.recs,by have:=k3.cnt;simp only[List.length_append,List.length_singleton,Wk]at this ⊢;omega⟩,Ih (k1.nst _ (Ei.2 (Or.inr rfl)))⟩
 | fell=>intro _ _ _ ha;exact absurd rfl (ha _)
 | held _ ih=>
   intro hi hs hj _;obtain⟨k1,k2,k3,k4⟩:=ih hi hs (Nat.le_refl _) (λb e=>qw);exact⟨k1,k2,⟨k3.ex,k3.recs,by have:=k3.cnt;simp only[List.length_append,List.length_singleton,Wk]at this ⊢;omega⟩,⟨k4.1,k4.2.1,k4.2.2,qi⟩⟩
 | tfell=>intro _ _ _ ha;exact absurd rfl (ha _)
 | ran _ _ ih ih2=>
   intro hi hs hj _;obtain⟨k1,k2,k3,k4⟩:=ih hi hs (Nat.le_refl _) (λb e=>qw);obtain⟨l1,l2,l3,l4⟩:=ih2 k1 k2 ⟨⟨hj,λi hi=>Wl,rfl⟩,qi,λg hg=>by simp at hg⟩ (λb e=>qw);exact⟨l1,l2,⟨(k3.trans l3).ex,(k3.trans l3).recs,by have:=(k3.trans l3).cnt;simp only[List.length_append,List.length_singleton,Wk]at this ⊢;omega⟩,l4⟩
 | rfell=>intro _ _ _ ha;exact absurd rfl (ha _)
 | tend=>intro hi hs _ _;exact⟨hi,hs,BGr.refl _ _,trivial⟩
 | tother h1 h2 _ ih=>intro hi hs hj ha;obtain⟨l1,l2,l3,l4⟩:=ih hi hs hj ha;exact⟨l1,l2,l3,l4.tri⟩
 | thit h1 h2 _ ih=>
   intro hi hs hj _;have hq:=hs.2.2 _ (Nat.lt_of_lt_of_le h1 hj);obtain⟨k1,k2,k3,_⟩:=ih hi hs ⟨hq.2.2.1,λj hj=>(hq.2.2.2 j hj).1⟩ (λb e=>qw);exact⟨k1,k2,⟨k3.ex,k3.recs,k3.cnt⟩,(rr_code h2.2).1,(rr_code h2.2).2,rr_text h2.2⟩
 | tno h1 h2 _ _ ih ih2=>
   intro hi hs hj ha;have hq:=hs.2.2 _ (Nat.lt_of_lt_of_le h1 hj);obtain⟨k1,k2,k3,_⟩:=ih hi hs ⟨hq.2.2.1,λj hj=>(hq.2.2.2 j hj).1⟩ (λb e=>qw);obtain⟨l1,l2,l3,l4⟩:=ih2 k1 k2 (Nat.le_trans hj k3.len) ha;refine⟨l1,l2,k3.trans l3,l4.tri⟩
 | tbad=>intro _ _ _ ha;exact absurd rfl (ha _)
 | hend=>intro hi hs _ _;exact⟨hi,hs,BGr.refl _ _,trivial⟩
 | hhas h1 h2 h3 _ ih=>intro hi hs hj ha;obtain⟨l1,l2,l3,l4⟩:=ih hi hs hj ha;exact⟨l1,l2,l3,l4.holds⟩
 | hhasno=>intro hi hs _ _;exact⟨hi,hs,BGr.refl _ _,trivial⟩
 | hask h1 h2 _ h4 _ ih ih2=>
   intro hi hs hj ha;obtain⟨k1,k2,k3,_⟩:=ih hi hs (hj.2 _ h1) (λb e=>qw);obtain⟨l1,l2,l3,l4⟩:=ih2 k1 k2 hj ha;exact⟨l1,l2,k3.trans l3,l4.holds⟩
 | haskno h1 h2 _ h4 ih=>
   intro hi hs hj _;obtain⟨k1,k2,k3,_⟩:=ih hi hs (hj.2 _ h1) (λb e=>qw);exact⟨k1,k2,k3,trivial⟩
 | haskbad=>intro _ _ _ ha;exact absurd rfl (ha _)
 | over h1 h2=>
   intro hi hs hj _;obtain⟨k1,k2,k3⟩:=hj.1.over h1;have hl:=hj.1.eq;have hy:=hj.2.1;obtain⟨g1,g2⟩:=h2.good hs hj.1.pr qg hj.2.2 k1 _;exact⟨hi,g1,g2,k2,k3,k1,by show _<=200;simp only;omega⟩
 | overbad=>intro _ _ _ ha;exact absurd rfl (ha _)
 | has h1 _ ih=>
   intro hi hs hj ha;obtain⟨k1,k2⟩:=hj.1.wait h1;obtain⟨l1,l2,l3,l4⟩:=ih hi hs ⟨hj.1.has _ _,qj,hj.2.2.snoc k2 (Ig _)⟩ ha;exact⟨l1,l2,l3,l4.run⟩
 | asked h1 _ _ ih ih2=>
   intro hi hs hj ha;obtain⟨k1,k2⟩:=hj.1.wait h1;obtain⟨i1,i2,i3,i4⟩:=ih hi hs k2 (λb e=>qw);have hd:=i1.done _ _ i4;obtain⟨j1,j2,j3,j4⟩:=ih2 i1 i2 ⟨hj.1.asked hd _,qj,hj.2.2.snoc k2 (Dx hd.t2)⟩ ha;exact⟨j1,j2,i3.trans j3,j4.run⟩
 | askbad=>intro _ _ _ ha;exact absurd rfl (ha _)
open Classical in
noncomputable def Dp (ts:L T2) (ms:Mm) (st:L By):X:=(ts.filter λt=>decide ((fd ms t.name).isSome=true\/El st t.name)).length
theorem Pz(ts:L T2)(ms:Mm)(st:L By):Dp ts ms st<=ts.length:=List.length_filter_le _ _
theorem Kw{p q:T2->Bool}:∀(l:L T2),(∀t∈l,p t=true->q t=true)->(l.filter p).length<=(l.filter q).length
 | [],_=>Nat.le_refl _
 | a::l,h=>by
   have ih:=Kw l (λt ht=>h t (List.mem_cons_of_mem _ ht));rw[List.filter_cons,List.filter_cons]
   by_cases hp:p a=true
   ·rw[if_pos hp,if_pos (h a (List.mem_cons_self ..) hp)];simp;exact ih
   ·rw[if_neg hp]
    split
    ·simp;omega
    ·exact ih
theorem Sr{p q:T2->Bool}:∀(l:L T2),(∀t∈l,p t=true->q t=true)->(∃t∈l,p t=false/\q t=true)->(l.filter p).length+1<=(l.filter q).length
 | [],_,⟨t,ht,_⟩=>by simp at ht
 | a::l,h,⟨t,ht,h1,h2⟩=>by
   have hm:=Kw l (λt ht=>h t (List.mem_cons_of_mem _ ht));rw[List.filter_cons,List.filter_cons]
   rcases List.mem_cons.1 ht with e|ht
   ·subst e
    rw[if_neg (by rw[h1];decide),if_pos h2];simp;exact hm
   ·have ih:=Sr l (λt ht=>h t (List.mem_cons_of_mem _ ht)) ⟨t,ht,h1,h2⟩
    by_cases hp:p a=true
    ·rw[if_pos hp,if_pos (h a (List.mem_cons_self ..) hp)];simp;omega
    ·rw[if_neg hp]
     split
     ·simp;omega
     ·exact ih
theorem Ss{e:By×Md}(h:(fd ms nm).isSome=true):(fd (ms++[e]) nm).isSome=true:=by
 cases hf:fd ms nm with
 | none=>rw[hf]at h;cases h
 | some d=>rw[show fd (ms++[e]) nm=M d from fd_app_some (nm:=e.1) (d:=e.2) hf];rfl
theorem Us(ts:L T2)(ms:Mm)(e:By×Md)(st:L By):Dp ts ms st<=Dp ts (ms++[e]) st:=Kw ts λt _ h=>by
 simp only[decide_eq_true_eq]at h ⊢
 rcases h with h|h
 ·exact Or.inl (Ss h)
 ·exact Or.inr h
theorem tc_pop(ts:L T2)(ms:Mm)(nm:By)(d:Md)(st:L By)(hn:fd ms nm=N):Dp ts ms (st++[nm])<=Dp ts (ms++[(nm,d)]) st:=Kw ts λt _ h=>by
 simp only[decide_eq_true_eq]at h ⊢
 rcases h with h|h
 ·exact Or.inl (Ss h)
 ·rcases Ei.1 h with q|q
  ·exact Or.inr q
  ·left;rw[q,Ih hn];rfl
theorem Zq(hi:i<ts.length)(h1:fd ms (tx ts i).name=N)(h2:¬ El st (tx ts i).name):Dp ts ms st+1<=Dp ts ms (st++[(tx ts i).name]):=by
 refine Sr ts (λt _ h=>?_) ⟨tx ts i,?_,?_,?_⟩
 ·simp only[decide_eq_true_eq]at h ⊢
  rcases h with h|h
  ·exact Or.inl h
  ·exact Or.inr (Ei.2 (Or.inl h))
 ·unfold tx;rw[gG,Hq hi];exact List.getElem_mem _
 ·simp[h1,h2]
 ·simp only[decide_eq_true_eq];exact Or.inr (Ei.2 (Or.inr rfl))
def Pq:BJ->X
 | .make _=>1
 | .work _ _=>400200
 | .tri _ i m=>200*(m-i)
 | .holds gs k=>gs.length-k
 | .run _ ys _=>200-ys.length
theorem Az.cost(hv:Xv ss ts)(h:Az ss ts n ms s st j ms' s' a):Gs ss ts ms st->Fy n s->JobB s j->(∀b,a≠.bad b)->400200*Dp ts ms st+ms'.length<=ms.length+Pq j+400200*Dp ts ms' st:=by
 induction h with
 | known h1=>intro hi hs _ _;simp only[Pq];omega
 | circle=>intro _ _ _ ha;exact absurd rfl (ha _)
 | @source ms s st nm i h1 h0 h2 h3=>intro hi hs _ _;have:=Us ts ms (nm,⟨0,(sx ss i).text,[]⟩) st;simp only[Pq,List.length_append,List.length_singleton];omega
 | @missing ms s st nm h1 h0 h2=>intro hi hs _ _;have:=Us ts ms (nm,⟨4,nm,[]⟩) st;simp only[Pq,List.length_append,List.length_singleton];omega
 | deep=>intro _ _ _ ha;exact absurd rfl (ha _)
 | @made ms s st nm i ms' s' d h1 h0 h2 h3 h4 h5 hw ih=>
   intro hi hs hj _;have hth:=h4▸Ir h3;have hp:=hi.push h1 hth;obtain⟨k1,_,_,_⟩:=Az.inv hv hw hp hs (hv.pr _ h3) (λb e=>qw);have k:=ih hp hs (hv.pr _ h3) (λb e=>qw);have q1:=tc_pop ts ms' nm d st (k1.nst _ (Ei.2 (Or.inr rfl)))
   have q2:Dp ts ms st+1<=Dp ts ms (st++[nm]):=by
    exact qlq
   simp only[Pq,List.length_append,List.length_singleton]at k ⊢;omega
 | fell=>intro _ _ _ ha;exact absurd rfl (ha _)
 | held _ ih=>
   intro hi hs hj _;have k:=ih hi hs (Nat.le_refl _) (λb e=>qw);have:=hs.2.1;simp only[Pq]at k ⊢;omega
 | tfell=>intro _ _ _ ha;exact absurd rfl (ha _)
 | ran h1 h2 ih ih2=>
   intro hi hs hj _;have k:=ih hi hs (Nat.le_refl _) (λb e=>qw);obtain⟨k1,k2,k3,k4⟩:=Az.inv hv h1 hi hs (Nat.le_refl _) (λb e=>qw);have l:=ih2 k1 k2 ⟨⟨hj,λi hi=>Wl,rfl⟩,qi,λg hg=>by simp at hg⟩ (λb e=>qw);have:=hs.2.1;simp only[Pq,List.length_nil]at k l ⊢;omega
 | rfell=>intro _ _ _ ha;exact absurd rfl (ha _)
 | tend=>intro hi hs _ _;simp only[Pq];omega
 | tother h1 h2 _ ih=>intro hi hs hj ha;have:=ih hi hs hj ha;simp only[Pq]at this ⊢;omega
 | thit h1 h2 _ ih=>
   intro hi hs hj _;have hq:=hs.2.2 _ (Nat.lt_of_lt_of_le h1 hj);have k:=ih hi hs ⟨hq.2.2.1,λj hj=>(hq.2.2.2 j hj).1⟩ (λb e=>qw);have:=hq.2.2.1;simp only[Pq]at k ⊢;omega
 | tno h1 h2 hh _ ih ih2=>
   intro hi hs hj ha;have hq:=hs.2.2 _ (Nat.lt_of_lt_of_le h1 hj);have k:=ih hi hs ⟨hq.2.2.1,λj hj=>(hq.2.2.2 j hj).1⟩ (λb e=>qw);obtain⟨k1,k2,k3,_⟩:=Az.inv hv hh hi hs ⟨hq.2.2.1,λj hj=>(hq.2.2.2 j hj).1⟩ (λb e=>qw);have l:=ih2 k1 k2 (Nat.le_trans hj k3.len) ha;have:=hq.2.2.1;simp only[Pq]at k l ⊢;omega
 | tbad=>intro _ _ _ ha;exact absurd rfl (ha _)
 | hend=>intro hi hs _ _;simp only[Pq];omega
 | hhas h1 h2 h3 _ ih=>intro hi hs hj ha;have:=ih hi hs hj ha;simp only[Pq]at this ⊢;omega
 | hhasno=>intro hi hs _ _;simp only[Pq];omega
 | hask h1 h2 hm h4 _ ih ih2=>
   intro hi hs hj ha;have k:=ih hi hs (hj.2 _ h1) (λb e=>qw);obtain⟨k1,k2,k3,_⟩:=Az.inv hv hm hi hs (hj.2 _ h1) (λb e=>qw);have l:=ih2 k1 k2 hj ha;simp only[Pq]at k l ⊢;omega
 | haskno h1 h2 _ h4 ih=>
   intro hi hs hj _;have k:=ih hi hs (hj.2 _ h1) (λb e=>qw);simp only[Pq]at k ⊢;omega
 | haskbad=>intro _ _ _ ha;exact absurd rfl (ha _)
 | over h1 h2=>intro hi hs hj _;simp only[Pq];omega
 | overbad=>intro _ _ _ ha;exact absurd rfl (ha _)
 | has h1 _ ih=>
   intro hi hs hj ha;obtain⟨k1,k2⟩:=hj.1.wait h1;have k:=ih hi hs ⟨hj.1.has _ _,qj,hj.2.2.snoc k2 (Ig _)⟩ ha;simp only[Pq,List.length_append,List.length_singleton]at k ⊢;omega
 | asked h1 hm _ ih ih2=>
   intro hi hs hj ha;obtain⟨k1,k2⟩:=hj.1.wait h1;have k:=ih hi hs k2 (λb e=>qw);obtain⟨i1,i2,i3,i4⟩:=Az.inv hv hm hi hs k2 (λb e=>qw);have hd:=i1.done _ _ i4;have l:=ih2 i1 i2 ⟨hj.1.asked hd _,qj,hj.2.2.snoc k2 (Dx hd.t2)⟩ ha;simp only[Pq,List.length_append,List.length_singleton]at k l ⊢;omega
 | askbad=>intro _ _ _ ha;exact absurd rfl (ha _)
def Pr(ts:L T2)(ms:Mm)(s:Sb)(st:L By):Prop:=s.ran.length+s.held.length+st.length<=Dp ts ms st
theorem Az.cnt(o:X)(hv:Xv ss ts)(h:Az ss ts n ms s st j ms' s' a):Gs ss ts ms st->Fy n s->JobB s j->(∀b,a≠.bad b)->∀e,s.ran.length+s.held.length+e<=Dp ts ms st+o->s'.ran.length+s'.held.length+e<=Dp ts ms' st+o+Wk j:=by
 induction h with
 | known h1=>intro hi hs _ _ e he;simp only[Wk];omega
 | circle=>intro _ _ _ ha;exact absurd rfl (ha _)
 | @source ms s st nm i h1 h0 h2 h3=>intro hi hs _ _ e he;have:=Us ts ms (nm,⟨0,(sx ss i).text,[]⟩) st;simp only[Wk];omega
 | @missing ms s st nm h1 h0 h2=>intro hi hs _ _ e he;have:=Us ts ms (nm,⟨4,nm,[]⟩) st;simp only[Wk];omega
 | deep=>intro _ _ _ ha;exact absurd rfl (ha _)
 | @made ms s st nm i ms' s' d h1 h0 h2 h3 h4 h5 hw ih=>
   intro hi hs hj _ e he;have hth:=h4▸Ir h3;have hp:=hi.push h1 hth;obtain⟨k1,_,_,_⟩:=Az.inv hv hw hp hs (hv.pr _ h3) (λb e=>qw);have q1:=tc_pop ts ms' nm d st (k1.nst _ (Ei.2 (Or.inr rfl)))
   have q2:Dp ts ms st+1<=Dp ts ms (st++[nm]):=by
    exact qlq
   have k:=ih hp hs (hv.pr _ h3) (λb e=>qw) (e+1) qg;simp only[Wk]at k ⊢;omega
 | fell=>intro _ _ _ ha;exact absurd rfl (ha _)
 | held _ ih=>
   intro hi hs hj _ e he;have k:=ih hi hs (Nat.le_refl _) (λb e=>qw) e he;simp only[Wk,List.length_append,List.length_singleton]at k ⊢;omega
 | tfell=>intro _ _ _ ha;exact absurd rfl (ha _)
 | ran h1 h2 ih ih2=>
   intro hi hs hj _ e he;have k:=ih hi hs (Nat.le_refl _) (λb e=>qw) e he;obtain⟨k1,k2,k3,k4⟩:=Az.inv hv h1 hi hs (Nat.le_refl _) (λb e=>qw);have l:=ih2 k1 k2 ⟨⟨hj,λi hi=>Wl,rfl⟩,qi,λg hg=>by simp at hg⟩ (λb e=>qw) e qeu;simp only[Wk,List.length_append,List.length_singleton]at k l ⊢;omega
 | rfell=>intro _ _ _ ha;exact absurd rfl (ha _)
 | tend=>intro hi hs _ _ e he;simp only[Wk];omega
 | tother h1 h2 _ ih=>intro hi hs hj ha e he;exact ih hi hs hj ha e he
 | thit h1 h2 _ ih=>
   intro hi hs hj _ e he;have hq:=hs.2.2 _ (Nat.lt_of_lt_of_le h1 hj);exact ih hi hs ⟨hq.2.2.1,λj hj=>(hq.2.2.2 j hj).1⟩ (λb e=>qw) e he
 | tno h1 h2 hh _ ih ih2=>
   intro hi hs hj ha e he;have hq:=hs.2.2 _ (Nat.lt_of_lt_of_le h1 hj);have k:=ih hi hs ⟨hq.2.2.1,λj hj=>(hq.2.2.2 j hj).1⟩ (λb e=>qw) e he;obtain⟨k1,k2,k3,_⟩:=Az.inv hv hh hi hs ⟨hq.2.2.1,λj hj=>(hq.2.2.2 j hj).1⟩ (λb e=>qw);exact ih2 k1 k2 (Nat.le_trans hj k3.len) ha e qeu
 | tbad=>intro _ _ _ ha;exact absurd rfl (ha _)
 | hend=>intro hi hs _ _ e he;simp only[Wk];omega
 | hhas h1 h2 h3 _ ih=>intro hi hs hj ha e he;exact ih hi hs hj ha e he
 | hhasno=>intro hi hs _ _ e he;simp only[Wk];omega
 | hask h1 h2 hm h4 _ ih ih2=>
   intro hi hs hj ha e he;have k:=ih hi hs (hj.2 _ h1) (λb e=>qw) e he;obtain⟨k1,k2,k3,_⟩:=Az.inv hv hm hi hs (hj.2 _ h1) (λb e=>qw);exact ih2 k1 k2 hj ha e qeu
 | haskno h1 h2 _ h4 ih=>intro hi hs hj _ e he;exact ih hi hs (hj.2 _ h1) (λb e=>qw) e he
 | haskbad=>intro _ _ _ ha;exact absurd rfl (ha _)
 | over h1 h2=>
   intro hi hs hj _ e he
   cases h2 with
   | ok=>simp only[Wk];exact he
 | overbad=>intro _ _ _ ha;exact absurd rfl (ha _)
 | has h1 _ ih=>
   intro hi hs hj ha e he;obtain⟨k1,k2⟩:=hj.1.wait h1;exact ih hi hs ⟨hj.1.has _ _,qj,hj.2.2.snoc k2 (Ig _)⟩ ha e he
 | asked h1 hm _ ih ih2=>
   intro hi hs hj ha e he;obtain⟨k1,k2⟩:=hj.1.wait h1;have k:=ih hi hs k2 (λb e=>qw) e he;obtain⟨i1,i2,i3,i4⟩:=Az.inv hv hm hi hs k2 (λb e=>qw);have hd:=i1.done _ _ i4;exact ih2 i1 i2 ⟨hj.1.asked hd _,qj,hj.2.2.snoc k2 (Dx hd.t2)⟩ ha e qeu
 | askbad=>intro _ _ _ ha;exact absurd rfl (ha _)
theorem Az.cntM(hv:Xv ss ts)(h:Az ss ts n ms s st j ms' s' a)(hi:Gs ss ts ms st)(hs:Fy n s)(hj:JobB s j)(ha:∀b,a≠.bad b)(hz:Wk j=0)(hc:Pr ts ms s st):Pr ts ms' s' st:=by
 have:=h.cnt 0 hv hi hs hj ha st.length hc;rw[hz]at this;exact this
def cntO(ts:L T2)(ms:Mm)(s:Sb)(st:L By):Prop:=s.ran.length+s.held.length+st.length<=Dp ts ms st+40000
theorem Az.cntOM(hv:Xv ss ts)(h:Az ss ts n ms s st j ms' s' a)(hi:Gs ss ts ms st)(hs:Fy n s)(hj:JobB s j)(ha:∀b,a≠.bad b)(hz:Wk j=0)(hc:cntO ts ms s st):cntO ts ms' s' st:=by
 have:=h.cnt 40000 hv hi hs hj ha st.length hc;rw[hz]at this;exact this
theorem Pk{row:Option X}(ho:w.ownsRow B e sz u n xs)(hg:w.grownBy w' row)(hne:∀b,u.ownBlock=M b->row≠M b):w'.ownsRow B e sz u n xs:=An ho λb e=>hg.block b (ho.lt b e).2 (λq=>hne b e q.symm)
theorem Dk{j:X}{x:Z}{row:Option X}(ho:w.ownsRow B e sz u n xs)(hg:w.grownBy w' row)(hne:∀b,u.ownBlock=M b->row≠M b)(hb:w'.heap[h]?=M (O cs T (0,0)))(hT:T≠e):(w'.setCell ⟨h,j,N⟩ x).ownsRow B e sz u n xs:=Ak (Pk ho hg hne) ⟨_,hb⟩ hT x
theorem apart{B' e' sz' n':X}{v:Z}{ys:L Z}(ho:w.ownsRow B e sz u n xs)(ho':w.ownsRow B' e' sz' v n' ys)(hne:e≠e'):∀b,u.ownBlock=M b->v.ownBlock≠M b:=λb e q=>by
 obtain⟨_,cur,hh⟩:=Dh ho e;exact Ae ho' hne hh q
theorem Eo.gs{j:X}{v x:Z}{row:Option X}(k:Eo w B v R)(hg:w.grownBy w' row)(hr:∀b,row=M b->∃cs e,w.heap[b]?=M (O cs e (0,0))/\e≠73/\e≠174/\e≠115)(hb:w'.heap[h]?=M (O cs T (0,0)))(h1:T≠73)(h2:T≠174)(h3:T≠115):Eo (w'.setCell ⟨h,j,N⟩ x) B v R:=by
 obtain⟨xs,cv,lv,r⟩:=k
 have ne:∀ {e sz n:X} {u:Z} {ys:L Z},w.ownsRow B e sz u n ys->(e=73\/e=174\/e=115)->∀b,u.ownBlock=M b->row≠M b:=λho he b q1 q2=>by
  obtain⟨cs,e',c1,c2,c3,c4⟩:=hr b q2;exact Ae ho (λq=>he.elim (λk=>c2 (q.trans k)) (λk=>k.elim (λk=>c3 (q.trans k)) (λk=>c4 (q.trans k)))) c1 q1
 refine⟨xs,cv,lv,Dk r.row hg (ne r.row (Or.inl rfl)) hb h1,r.fil,λi hi=>?_,λi hi=>?_,r.apc,r.apl⟩
 ·obtain⟨ys,a,b⟩:=r.code i hi
  exact⟨ys,Dk a hg (ne a (Or.inr (Or.inl rfl))) hb h2,b⟩
 ·obtain⟨ys,a,b⟩:=r.look i hi
  exact⟨ys,Dk a hg (ne a (Or.inr (Or.inr rfl))) hb h3,b⟩
theorem Bd(ho:w.ownsRow B e sz u n xs):∀b,u.ownBlock=M b->∃cs,w.heap[b]?=M (O cs e (0,0)):=λb q=>by
 obtain⟨_,cur,hh⟩:=Dh ho q;exact⟨cur,hh⟩
theorem Fa(hb:w.heap[h]?=M (O cs 63 (0,0)))(j:X)(x:Z):(w.setCell ⟨h,j,N⟩ x).heap[h]?=M (O (cs.setIfInBounds j x) 63 (0,0)):=jB hb x
theorem Gd.growM(k:Gd B h sv tv n w ms s st v)(gh:B<=w.heap.size){xs':L Z}(hl:ms'.length=ms.length+1)(ho:w'.ownsRow B 67 5 nw (ms.length+1) xs'){u':L X}(hf:FilM ms' xs'/\RecM ms'.length xs' s.us u')(hg:w.grownBy w' v.mv.ownBlock)(dh:∀b,nw.ownBlock=M b->v.mv.ownBlock=M b\/w.heap.size<=b):Gd B h sv tv n (w'.setCell ⟨h,5,N⟩ nw) ms' s st ⟨v.tx,v.qv,nw,v.kv,v.nv,v.ev,u'⟩/\Dn B (Cx h v) (Cx h ⟨v.tx,v.qv,nw,v.kv,v.nv,v.ev,u'⟩) w (w'.setCell ⟨h,5,N⟩ nw):=by
 obtain⟨xs,m1,m2⟩:=k.made;obtain⟨ys,cv,lv,r⟩:=k.rcs;have hh:v.mv.ownBlock≠M h:=Ae m1 qh k.blk;have hb:=Bh k.blk hg hh;have ll:=Fa hb 5 nw;simp only[List.setIfInBounds_toArray,List.set_cons_zero,List.set_cons_succ]at ll;have U1:∀b,v.mv.ownBlock=M b->∃cs e,w.heap[b]?=M (O cs e (0,0))/\e≠73/\e≠174/\e≠115:=λb q=>by obtain⟨cs,c1⟩:=Bd m1 b q;exact⟨cs,67,c1,qh,qh,qh⟩
 refine⟨⟨k.hB,ll,Dk k.txt hg (apart k.txt m1 qh) hb qh,k.rcs.gs hg U1 hb qh qh qh,⟨xs',by rw[hl];exact Ak ho ⟨_,hb⟩ qh _,hf⟩,Dk k.stk hg (apart k.stk m1 qh) hb qh,Dk k.ran hg (apart k.ran m1 qh) hb qh,Dk k.held hg (apart k.held m1 qh) hb qh,k.txa,k.tk,k.kn,k.ne⟩,?_⟩;refine⟨((Below.refl B w).grown hg gh (λj q=>(m1.lt j q).1)).setCell (p:=⟨h,5,N⟩) k.hB _,λb bv hx=>?_,λb hx=>?_⟩
 ·rw[Dm w' ⟨h,5,N⟩ _ b (λe=>hx (Or.inl e)),hg.block b bv (λq=>hx (Or.inr (Or.inr (Or.inl q.symm))))]
 ·rcases hx with q|q|q|q|q|q
  ·exact Or.inl (Or.inl q)
  ·exact Or.inl (Or.inr (Or.inl q))
  ·rcases dh b q with q|q;exact Or.inl (Or.inr (Or.inr (Or.inl q)));exact Or.inr q
  ·exact qgj
  ·exact qgg
  ·exact qgf
theorem Gd.growK(k:Gd B h sv tv n w ms s st v)(gh:B<=w.heap.size){ri:L By}(ho:w'.ownsRow B 9 1 nw ri.length (Ar ri))(hg:w.grownBy w' v.kv.ownBlock)(dh:∀b,nw.ownBlock=M b->v.kv.ownBlock=M b\/w.heap.size<=b):Gd B h sv tv n (w'.setCell ⟨h,6,N⟩ nw) ms s ri ⟨v.tx,v.qv,v.mv,nw,v.nv,v.ev,v.u⟩/\Dn B (Cx h v) (Cx h ⟨v.tx,v.qv,v.mv,nw,v.nv,v.ev,v.u⟩) w (w'.setCell ⟨h,6,N⟩ nw):=by
 obtain⟨xs,m1,m2⟩:=k.made;obtain⟨ys,cv,lv,r⟩:=k.rcs;have hh:v.kv.ownBlock≠M h:=Ae k.stk qh k.blk;have hb:=Bh k.blk hg hh;have ll:=Fa hb 6 nw;simp only[List.setIfInBounds_toArray,List.set_cons_zero,List.set_cons_succ]at ll;have U1:∀b,v.kv.ownBlock=M b->∃cs e,w.heap[b]?=M (O cs e (0,0))/\e≠73/\e≠174/\e≠115:=λb q=>by obtain⟨cs,c1⟩:=Bd k.stk b q;exact⟨cs,9,c1,qh,qh,qh⟩
 refine⟨⟨k.hB,ll,Dk k.txt hg (λb q=>(k.tk b q).1) hb qh,k.rcs.gs hg U1 hb qh qh qh,⟨xs,Dk m1 hg (apart m1 k.stk qh) hb qh,m2⟩,Ak ho ⟨_,hb⟩ qh _,Dk k.ran hg (λb q q2=>(k.kn b q2).1 q) hb qh,Dk k.held hg (λb q q2=>(k.kn b q2).2 q) hb qh,k.txa,λb q=>⟨(λq2=>by rcases dh b q2 with q3|q3;exact(k.tk b q).1 q3;have:=(k.txt.lt b q).2;omega),(k.tk b q).2.1,(k.tk b q).2.2⟩,λb q=>⟨(λq2=>by rcases dh b q with q3|q3;exact(k.kn b q3).1 q2;have:=(k.ran.lt b q2).2;omega),(λq2=>by rcases dh b q with q3|q3;exact(k.kn b q3).2 q2;have:=(k.held.lt b q2).2;omega)⟩,λb q=>(k.ne b q)⟩,?_⟩;refine⟨((Below.refl B w).grown hg gh (λj q=>(k.stk.lt j q).1)).setCell (p:=⟨h,6,N⟩) k.hB _,λb bv hx=>?_,λb hx=>?_⟩
 ·rw[Dm w' ⟨h,6,N⟩ _ b (λe=>hx (Or.inl e)),hg.block b bv (λq=>hx (Or.inr (Or.inr (Or.inr (Or.inl q.symm)))))]
 ·rcases hx with q|q|q|q|q|q
  ·exact Or.inl (Or.inl q)
  ·exact Or.inl (Or.inr (Or.inl q))
  ·exact Or.inl (Or.inr (Or.inr (Or.inl q)))
  ·rcases dh b q with q|q;exact Or.inl (Or.inr (Or.inr (Or.inr (Or.inl q))));exact Or.inr q
  ·exact qgg
  ·exact qgf
theorem Gd.growN(k:Gd B h sv tv n w ms s st v)(gh:B<=w.heap.size)(ho:w'.ownsRow B 9 1 nw l'.length (Ar l'))(hg:w.grownBy w' v.nv.ownBlock)(dh:∀b,nw.ownBlock=M b->v.nv.ownBlock=M b\/w.heap.size<=b):Gd B h sv tv n (w'.setCell ⟨h,7,N⟩ nw) ms ⟨s.T,s.R,l',s.held,s.us⟩ st ⟨v.tx,v.qv,v.mv,v.kv,nw,v.ev,v.u⟩/\Dn B (Cx h v) (Cx h ⟨v.tx,v.qv,v.mv,v.kv,nw,v.ev,v.u⟩) w (w'.setCell ⟨h,7,N⟩ nw):=by
 obtain⟨xs,m1,m2⟩:=k.made;obtain⟨ys,cv,lv,r⟩:=k.rcs;have hh:v.nv.ownBlock≠M h:=Ae k.ran qh k.blk;have hb:=Bh k.blk hg hh;have ll:=Fa hb 7 nw;simp only[List.setIfInBounds_toArray,List.set_cons_zero,List.set_cons_succ]at ll;have U1:∀b,v.nv.ownBlock=M b->∃cs e,w.heap[b]?=M (O cs e (0,0))/\e≠73/\e≠174/\e≠115:=λb q=>by obtain⟨cs,c1⟩:=Bd k.ran b q;exact⟨cs,9,c1,qh,qh,qh⟩
 refine⟨⟨k.hB,ll,Dk k.txt hg (λb q=>(k.tk b q).2.1) hb qh,k.rcs.gs hg U1 hb qh qh qh,⟨xs,Dk m1 hg (apart m1 k.ran qh) hb qh,m2⟩,Dk k.stk hg (λb q=>(k.kn b q).1) hb qh,Ak ho ⟨_,hb⟩ qh _,Dk k.held hg (λb q q2=>k.ne b q2 q) hb qh,k.txa,λb q=>⟨(k.tk b q).1,(λq2=>by rcases dh b q2 with q3|q3;exact(k.tk b q).2.1 q3;have:=(k.txt.lt b q).2;omega),(k.tk b q).2.2⟩,λb q=>⟨(λq2=>by rcases dh b q2 with q3|q3;exact(k.kn b q).1 q3;have:=(k.stk.lt b q).2;omega),(k.kn b q).2⟩,λb q=>(λq2=>by rcases dh b q with q3|q3;exact(k.ne b q3) q2;have:=(k.held.lt b q2).2;omega)⟩,?_⟩;refine⟨((Below.refl B w).grown hg gh (λj q=>(k.ran.lt j q).1)).setCell (p:=⟨h,7,N⟩) k.hB _,λb bv hx=>?_,λb hx=>?_⟩
 ·rw[Dm w' ⟨h,7,N⟩ _ b (λe=>hx (Or.inl e)),hg.block b bv (λq=>hx (Or.inr (Or.inr (Or.inr (Or.inr (Or.inl q.symm))))))]
 ·rcases hx with q|q|q|q|q|q
  ·exact Or.inl (Or.inl q)
  ·exact Or.inl (Or.inr (Or.inl q))
  ·exact Or.inl (Or.inr (Or.inr (Or.inl q)))
  ·exact qgj
  ·rcases dh b q with q|q;exact Or.inl (Or.inr (Or.inr (Or.inr (Or.inr (Or.inl q)))));exact Or.inr q
  ·exact qgf
theorem Gd.growE(k:Gd B h sv tv n w ms s st v)(gh:B<=w.heap.size)(ho:w'.ownsRow B 9 1 nw l'.length (Ar l'))(hg:w.grownBy w' v.ev.ownBlock)(dh:∀b,nw.ownBlock=M b->v.ev.ownBlock=M b\/w.heap.size<=b):Gd B h sv tv n (w'.setCell ⟨h,8,N⟩ nw) ms ⟨s.T,s.R,s.ran,l',s.us⟩ st ⟨v.tx,v.qv,v.mv,v.kv,v.nv,nw,v.u⟩/\Dn B (Cx h v) (Cx h ⟨v.tx,v.qv,v.mv,v.kv,v.nv,nw,v.u⟩) w (w'.setCell ⟨h,8,N⟩ nw):=by
 obtain⟨xs,m1,m2⟩:=k.made;obtain⟨ys,cv,lv,r⟩:=k.rcs;have hh:v.ev.ownBlock≠M h:=Ae k.held qh k.blk;have hb:=Bh k.blk hg hh;have ll:=Fa hb 8 nw;simp only[List.setIfInBounds_toArray,List.set_cons_zero,List.set_cons_succ]at ll;have U1:∀b,v.ev.ownBlock=M b->∃cs e,w.heap[b]?=M (O cs e (0,0))/\e≠73/\e≠174/\e≠115:=λb q=>by obtain⟨cs,c1⟩:=Bd k.held b q;exact⟨cs,9,c1,qh,qh,qh⟩
 refine⟨⟨k.hB,ll,Dk k.txt hg (λb q=>(k.tk b q).2.2) hb qh,k.rcs.gs hg U1 hb qh qh qh,⟨xs,Dk m1 hg (apart m1 k.held qh) hb qh,m2⟩,Dk k.stk hg (λb q=>(k.kn b q).2) hb qh,Dk k.ran hg (λb q=>k.ne b q) hb qh,Ak ho ⟨_,hb⟩ qh _,k.txa,λb q=>⟨(k.tk b q).1,(k.tk b q).2.1,(λq2=>by rcases dh b q2 with q3|q3;exact(k.tk b q).2.2 q3;have:=(k.txt.lt b q).2;omega)⟩,λb q=>⟨(k.kn b q).1,(λq2=>by rcases dh b q2 with q3|q3;exact(k.kn b q).2 q3;have:=(k.stk.lt b q).2;omega)⟩,λb q=>(λq2=>by rcases dh b q2 with q3|q3;exact(k.ne b q) q3;have:=(k.ran.lt b q).2;omega)⟩,?_⟩;refine⟨((Below.refl B w).grown hg gh (λj q=>(k.held.lt j q).1)).setCell (p:=⟨h,8,N⟩) k.hB _,λb bv hx=>?_,λb hx=>?_⟩
 ·rw[Dm w' ⟨h,8,N⟩ _ b (λe=>hx (Or.inl e)),hg.block b bv (λq=>hx (Or.inr (Or.inr (Or.inr (Or.inr (Or.inr q.symm))))))]
 ·rcases hx with q|q|q|q|q|q
  ·exact Or.inl (Or.inl q)
  ·exact Or.inl (Or.inr (Or.inl q))
  ·exact Or.inl (Or.inr (Or.inr (Or.inl q)))
  ·exact qgj
  ·exact qgg
  ·rcases dh b q with q|q;exact Or.inl (Or.inr (Or.inr (Or.inr (Or.inr (Or.inr q)))));exact Or.inr q
theorem Eo.set1{j:X}{v:Z}(k:Eo w B v R)(hb:Dl w b T)(h1:T≠73)(h2:T≠174)(h3:T≠115)(x:Z):Eo (w.setCell ⟨b,j,N⟩ x) B v R:=by
 obtain⟨xs,cv,lv,r⟩:=k;exact⟨xs,cv,lv,Ak r.row hb h1 x,r.fil,λi hi=>by obtain⟨ys,a,b⟩:=r.code i hi;exact⟨ys,Ak a hb h2 x,b⟩,λi hi=>by obtain⟨ys,a,b⟩:=r.look i hi;exact⟨ys,Ak a hb h3 x,b⟩,r.apc,r.apl⟩
theorem Gd.setTx{B h:X}{sv tv:Z}{n:X}{w w1:E}{ms:Mm}{s:Sb}{st:L By}{v:Hv}(k:Gd B h sv tv n w ms s st v)(gh:B<=w.heap.size)(hb:Bw w w1){T':L By}{g p:X}(ho:w1.ownsRow B 9 1 (J (p_ g) T'.length p) T'.length (Ar T'))(hg:v.tx.ownBlock=M g\/w.heap.size<=g):Gd B h sv tv n (((w1.setCell ⟨h,2,N⟩ (I n)).setCell ⟨h,3,N⟩ (J (p_ g) T'.length p)).setCell ⟨h,4,N⟩ v.qv) ms ⟨T',s.R,s.ran,s.held,s.us⟩ st ⟨J (p_ g) T'.length p,v.qv,v.mv,v.kv,v.nv,v.ev,v.u⟩/\Dn B (Cx h v) (Cx h ⟨J (p_ g) T'.length p,v.qv,v.mv,v.kv,v.nv,v.ev,v.u⟩) w (((w1.setCell ⟨h,2,N⟩ (I n)).setCell ⟨h,3,N⟩ (J (p_ g) T'.length p)).setCell ⟨h,4,N⟩ v.qv):=by
 have q:=k.bl hb;obtain⟨xs,m1,m2⟩:=q.made;have hh:Dl w1 h 63:=⟨_,q.blk⟩;obtain⟨x2,ex2⟩:=Aj (I n);obtain⟨x3,ex3⟩:∃x:Z,J (p_ g) T'.length p=x:=⟨_,rfl⟩;have a1:Dl (w1.setCell ⟨h,2,N⟩ x2) h 63:=hh.set x2;have a2:Dl ((w1.setCell ⟨h,2,N⟩ x2).setCell ⟨h,3,N⟩ x3) h 63:=a1.set x3;have ll:=Fa (Fa (Fa q.blk 2 x2) 3 x3) 4 v.qv;simp only[List.setIfInBounds_toArray,List.set_cons_zero,List.set_cons_succ]at ll;have s3:∀ {e sz l:X} {u:Z} {ys:L Z},w1.ownsRow B e sz u l ys->63≠e->(((w1.setCell ⟨h,2,N⟩ x2).setCell ⟨h,3,N⟩ x3).setCell ⟨h,4,N⟩ v.qv).ownsRow B e sz u l ys:=λr hne=>Ak (Ak (Ak r hh hne x2) a1 hne x3) a2 hne v.qv
 have hd:∀b,(Value.slice (p_ g) T'.length p).ownBlock=M b->v.kv.ownBlock≠M b/\v.nv.ownBlock≠M b/\v.ev.ownBlock≠M b:=λb e=>by
  obtain rfl:g=b:=qcv
  rcases hg with q|q
  ·exact k.tk g q
  ·exact⟨λe=>by have:=(k.stk.lt g e).2;omega,λe=>by have:=(k.ran.lt g e).2;omega,λe=>by have:=(k.held.lt g e).2;omega⟩
 have hrc:=((q.rcs.set1 (j:=2) hh qh qh qh x2).set1 (j:=3) a1 qh qh qh x3).set1 (j:=4) a2 qh qh qh v.qv;rw[ex2,ex3];rw[ex3]at ho hd;refine⟨⟨k.hB,by rw[ex2];exact ll,s3 ho qh,hrc,⟨xs,s3 m1 qh,m2⟩,s3 q.stk qh,s3 q.ran qh,s3 q.held qh,⟨g,p,ex3.symm⟩,hd,k.kn,k.ne⟩,?_⟩;refine⟨(((hb.mono gh).setCell (p:=⟨h,2,N⟩) k.hB _).setCell (p:=⟨h,3,N⟩) k.hB _).setCell (p:=⟨h,4,N⟩) k.hB _,λb hl hx=>?_,λb hx=>Or.inl hx⟩;have hne:b≠h:=λe=>hx (Or.inl e);rw[Dm _ ⟨h,4,N⟩ _ b hne,Dm _ ⟨h,3,N⟩ _ b hne,Dm _ ⟨h,2,N⟩ _ b hne];exact hb.block b hl
theorem Dn.set1(h:Dn B AM X' w w')(hb:w.heap.size<=b)(hB:B<=b)(j:X)(u:Z):Dn B AM X' w (w'.setCell ⟨b,j,N⟩ u):=
 ⟨h.bel.setCell (p:=⟨b,j,N⟩) hB u,λc hc hx=>by rw[Dm w' ⟨b,j,N⟩ u c (by show c≠b;omega)];exact h.keep c hc hx,h.new⟩
theorem Dn.set3(h:Dn B AM X' w w')(hb:w.heap.size<=b)(hB:B<=b)(u0 u1 u2:Z):Dn B AM X' w (((w'.setCell ⟨b,0,N⟩ u0).setCell ⟨b,1,N⟩ u1).setCell ⟨b,2,N⟩ u2):=((h.set1 hb hB 0 u0).set1 hb hB 1 u1).set1 hb hB 2 u2
theorem Gd.set1(k:Gd B h sv tv n w ms s st v)(hb:Dl w b T)(h1:T≠63/\T≠9/\T≠67/\T≠73/\T≠174/\T≠115)(j:X)(x:Z):Gd B h sv tv n (w.setCell ⟨b,j,N⟩ x) ms s st v:=by
 obtain⟨a1,a2,a3,a4,a5,a6⟩:=h1;obtain⟨xs,m1,m2⟩:=k.made
 have hne:h≠b:=λe=>by
  obtain⟨cs,hc⟩:=hb;have:=k.blk;rw[e,hc]at this;injection this with this;injection this with _ h5;exact a1 h5
 exact⟨k.hB,Fo k.blk hne x,Ak k.txt hb a2 x,k.rcs.set1 hb a4 a5 a6 x,⟨xs,Ak m1 hb a3 x,m2⟩,Ak k.stk hb a2 x,Ak k.ran hb a2 x,Ak k.held hb a2 x,k.txa,k.tk,k.kn,k.ne⟩
theorem Gd.set3(k:Gd B h sv tv n w ms s st v)(hb:Dl w b T)(h1:T≠63/\T≠9/\T≠67/\T≠73/\T≠174/\T≠115)(u0 u1 u2:Z):Gd B h sv tv n (((w.setCell ⟨b,0,N⟩ u0).setCell ⟨b,1,N⟩ u1).setCell ⟨b,2,N⟩ u2) ms s st v:=((k.set1 hb h1 0 u0).set1 (hb.set u0) h1 1 u1).set1 ((hb.set u0).set u1) h1 2 u2
structure Fr where
 hb:X
 hs:X
 sb:X
 n:X
def fvC(C:Fr):Z:=.func (.func 98) #[D (p_ C.hb)] #[]
open Classical in
noncomputable def Iv (ms:Mm) (mk:L By) (vs:By->Z) (x:By):Option Z:=
 match fd ms x with
 | some d=>M (Ft d (vs x))
 | none=>if El mk x then M Hy else N
theorem Si{mk:L By}(h:fd ms x=M d):Iv ms mk vs x=M (Ft d (vs x)):=by unfold Iv;rw[h]
theorem Qn{mk:L By}(h:fd ms x=N)(k:El mk x):Iv ms mk vs x=M Hy:=by unfold Iv;rw[h];simp[k]
theorem Ys{mk:L By}(h:fd ms x=N)(k:¬ El mk x):Iv ms mk vs x=N:=by unfold Iv;rw[h];simp[k]
open Classical in
theorem markB_push{mk:L By}(h:fd ms nm=N)(x:By):Iv ms (mk++[nm]) vs x=if x=nm then M Hy else Iv ms mk vs x:=by
 by_cases hx:x=nm
 ·subst hx;rw[if_pos rfl];exact Qn h (Ei.2 (Or.inr rfl))
 ·rw[if_neg hx]
  (have:El (mk++[nm]) x↔El mk x:=by rw[Ei];simp[hx]);unfold Iv
  cases fd ms x with
  | some d=>rfl
  | none=>simp only[this]
open Classical in
theorem markB_end{mk:L By}(h:fd ms nm=N)(hm:∀x,x≠nm->(El mk x↔El st x))(x:By):Iv (ms++[(nm,d)]) st (λy=>if y=nm then lv else vs y) x=if x=nm then M (Ft d lv) else Iv ms mk vs x:=by
 by_cases hx:x=nm
 ·subst hx;rw[if_pos rfl,Si (Ih h)];simp
 ·rw[if_neg hx]
  unfold Iv;rw[Me hx]
  cases fd ms x with
  | some d=>simp[hx]
  | none=>simp only[hm x hx]
structure Mw (B h mb k:X) (sv tv fv:Z) (w:E) (ms:Mm) (mk st:L By) (al:X) (av kv:Z) (vs:By->Z):Prop where
 hB:B<=h
 mB:B<=mb
 blk:w.heap[h]?=M (O #[sv,tv,.map (M mb),av,kv,fv] 165 (0,0))
 map:∃n,n+st.length+k<=2*al/\Jk w mb n (Iv ms mk vs)
 ask:∃xs:L By,xs.length=al/\w.ownsRow B 9 1 av al (Ar xs)
 stk:w.ownsRow B 9 1 kv st.length (Ar st)
 dis:∀b,av.ownBlock=M b->kv.ownBlock≠M b
 vsl:∀x,∃a n c,vs x=J a n c
section
variable {B h mb k:X} {sv tv fv:Z} {w w':E} {ms:Mm} {mk st:L By} {al:X} {av kv:Z} {vs:By->Z}
theorem Mw.kept(s:Mw B h mb k sv tv fv w ms mk st al av kv vs)(hk:∀b,(b=h\/b=mb\/av.ownBlock=M b\/kv.ownBlock=M b)->w'.heap[b]?=w.heap[b]?):Mw B h mb k sv tv fv w' ms mk st al av kv vs:=by
 obtain⟨n,hn,hm⟩:=s.map;obtain⟨xs,e,ha⟩:=s.ask;exact⟨s.hB,s.mB,by rw[hk h (Or.inl rfl)];exact s.blk,⟨n,hn,hm.same (hk mb (Or.inr (Or.inl rfl)))⟩,⟨xs,e,An ha (λb q=>hk b (by simp[q]))⟩,An s.stk (λb q=>hk b (by simp[q])),s.dis,s.vsl⟩
theorem Mw.lt(s:Mw B h mb k sv tv fv w ms mk st al av kv vs){b:X}(q:b=h\/b=mb\/av.ownBlock=M b\/kv.ownBlock=M b):b<w.heap.size:=by
 obtain⟨n,hn,hm⟩:=s.map;obtain⟨xs,e,ha⟩:=s.ask
 rcases q with rfl|rfl|q|q
 ·exact Ag s.blk
 ·exact hm.lt
 ·exact(ha.lt b q).2
 ·exact(s.stk.lt b q).2
theorem Mw.bl(s:Mw B h mb k sv tv fv w ms mk st al av kv vs)(hb:Bw w w'):Mw B h mb k sv tv fv w' ms mk st al av kv vs:=s.kept λb q=>hb.block b (s.lt q)
theorem Mw.le{k':X}(s:Mw B h mb k sv tv fv w ms mk st al av kv vs)(hk:k'<=k):Mw B h mb k' sv tv fv w ms mk st al av kv vs:=by
 obtain⟨n,hn,hm⟩:=s.map;exact⟨s.hB,s.mB,s.blk,⟨n,qg,hm⟩,s.ask,s.stk,s.dis,s.vsl⟩
theorem Mw.cells(s:Mw B h mb k sv tv fv w ms mk st al av kv vs):w.cell? ⟨h,0,N⟩=M sv/\w.cell? ⟨h,1,N⟩=M tv/\w.cell? ⟨h,2,N⟩=M (.map (M mb))/\w.cell? ⟨h,3,N⟩=M av/\w.cell? ⟨h,4,N⟩=M kv/\w.cell? ⟨h,5,N⟩=M fv/\∀j,w.frozen? ⟨h,j,N⟩=false:=by
 refine⟨?_,?_,?_,?_,?_,?_,λj=>fH s.blk j⟩<;>rw[cH s.blk]<;>rfl
theorem Mw.hne(s:Mw B h mb k sv tv fv w ms mk st al av kv vs):h≠mb:=λe=>by
 obtain⟨n,_,hm⟩:=s.map;subst e;exact hm.notCells s.blk
theorem Mw.far(s:Mw B h mb k sv tv fv w ms mk st al av kv vs){b:X}{T:TypeId}{cs:Array Z}(hb:w.heap[b]?=M (O cs T (0,0)))(h1:T≠165)(h2:T≠9){b':X}(q:b'=h\/b'=mb\/av.ownBlock=M b'\/kv.ownBlock=M b'):b'≠b:=by
 obtain⟨n,hn,hm⟩:=s.map;obtain⟨xs,e,ha⟩:=s.ask;rintro rfl
 rcases q with rfl|rfl|q|q
 ·have q2:=s.blk;rw[hb]at q2;injection q2 with q2;injection q2 with _ q2;exact h1 q2
 ·exact hm.notCells hb
 ·exact Ae ha h2 hb q
 ·exact Ae s.stk h2 hb q
theorem Mw.set(s:Mw B h mb k sv tv fv w ms mk st al av kv vs){b:X}{T:TypeId}{cs:Array Z}(hb:w.heap[b]?=M (O cs T (0,0)))(h1:T≠165)(h2:T≠9)(j:X)(u:Z):Mw B h mb k sv tv fv (w.setCell ⟨b,j,N⟩ u) ms mk st al av kv vs:=s.kept λb' q=>Dm w ⟨b,j,N⟩ _ b' (s.far hb h1 h2 q)
theorem Mw.askd(s:Mw B h mb k sv tv fv w ms mk st al av kv vs){w2:E}{o:Obj}{g cp:X}{nm:By}{xs:L By}(hx:xs.length=al)(hg:(w.alloc o).grownBy w2 av.ownBlock)(ho:w2.ownsRow B 9 1 (J (p_ g) (al+1) cp) (al+1) (Ar xs++[S nm]))(hl:av.ownBlock=M g\/g=w.heap.size+1)(hB:B<=w.heap.size):Mw B h mb (k+2) sv tv fv (w2.setCell ⟨h,3,N⟩ (J (p_ g) (al+1) cp)) ms mk st (al+1) (J (p_ g) (al+1) cp) kv vs/\KP B h mb av kv w (w2.setCell ⟨h,3,N⟩ (J (p_ g) (al+1) cp))/\Am w av (J (p_ g) (al+1) cp):=by
 have s1:=s.bl (Ai w o);obtain⟨ys,ey,hask⟩:=s1.ask;obtain⟨ys0,ey0,wa⟩:=s.ask;have hhA:=Ag s1.blk;obtain⟨n,hn,hm⟩:=s1.map;have wz:∀b,b<(w.alloc o).heap.size->av.ownBlock≠M b->w2.heap[b]?=(w.alloc o).heap[b]?:=λb h1 h2=>hg.block b h1 (λe=>h2 e.symm);have hh:w2.heap[h]?=M (O #[sv,tv,.map (M mb),av,kv,fv] 165 (0,0)):=by rw[wz h hhA (Ae hask qh s1.blk)];exact s1.blk
 have hgh:∀b,(Value.slice (p_ g) (al+1) cp).ownBlock=M b->b≠h:=λb q e=>by
  subst e;exact Ae ho qh hh q
 have ru:∀b,b≠h->(w2.setCell ⟨h,3,N⟩ (J (p_ g) (al+1) cp)).heap[b]?=w2.heap[b]?:=λb hb=>Dm w2 ⟨h,3,N⟩ _ b hb;have hkb:∀b,kv.ownBlock=M b->b≠h/\w2.heap[b]?=(w.alloc o).heap[b]?:=λb q=>⟨λe=>by subst e;exact Ae s1.stk qh s1.blk q,wz b (Lw s1.stk b q).2 (λe=>s.dis b e q)⟩;refine⟨⟨s.hB,s.mB,by rw[jB hh];rfl,⟨n,qg,hm.same ?_⟩,⟨xs++[nm],by simp[hx],?_⟩,An s1.stk (λb q=>by rw[ru b (hkb b q).1];exact(hkb b q).2),?_,s.vsl⟩,⟨?_,λb h1 h2 h3 h4 h5=>?_⟩,λb q=>?_⟩
 ·rw[ru mb s1.hne.symm,wz mb hm.lt (Kc hask hm)]
 ·rw[show Ar (xs++[nm])=Ar xs++[S nm] from qal]
  exact An ho (λb q=>ru b (hgh b q))
 ·intro b q e
  simp[Value.ownBlock]at q;subst q
  rcases hl with q|q
  ·exact s.dis _ q e
  ·have:=(Lw s.stk _ e).2;omega
 ·refine Below.setCell (p:=⟨h,3,N⟩) (((Below.refl B w).alloc hB _).grown hg qj (λb q=>?_)) s.hB _
  exact(Lw wa b q).1
 ·rw[ru b h2,wz b qj h4,Lib.alloc_old _ _ _ h1]
 ·exact qmq
theorem Mw.push(s:Mw B h mb (k+1) sv tv fv w ms mk st al av kv vs){w2:E}{o:Obj}{g cp:X}{nm:By}(hg:(w.alloc o).grownBy w2 kv.ownBlock)(ho:w2.ownsRow B 9 1 (J (p_ g) (st.length+1) cp) (st.length+1) (Ar st++[S nm]))(hl:kv.ownBlock=M g\/g=w.heap.size+1)(hB:B<=w.heap.size):Mw B h mb k sv tv fv (w2.setCell ⟨h,4,N⟩ (J (p_ g) (st.length+1) cp)) ms mk (st++[nm]) al av (J (p_ g) (st.length+1) cp) vs/\KP B h mb av kv w (w2.setCell ⟨h,4,N⟩ (J (p_ g) (st.length+1) cp))/\Am w kv (J (p_ g) (st.length+1) cp):=by
 have s1:=s.bl (Ai w o);obtain⟨ys,ey,hask⟩:=s1.ask;obtain⟨ys0,ey0,wa⟩:=s.ask;have hhA:=Ag s1.blk;obtain⟨n,hn,hm⟩:=s1.map;have wz:∀b,b<(w.alloc o).heap.size->kv.ownBlock≠M b->w2.heap[b]?=(w.alloc o).heap[b]?:=λb h1 h2=>hg.block b h1 (λe=>h2 e.symm);have hh:w2.heap[h]?=M (O #[sv,tv,.map (M mb),av,kv,fv] 165 (0,0)):=by rw[wz h hhA (Ae s1.stk qh s1.blk)];exact s1.blk
 have hgh:∀b,(Value.slice (p_ g) (st.length+1) cp).ownBlock=M b->b≠h:=λb q e=>by
  subst e;exact Ae ho qh hh q
 have ru:∀b,b≠h->(w2.setCell ⟨h,4,N⟩ (J (p_ g) (st.length+1) cp)).heap[b]?=w2.heap[b]?:=λb hb=>Dm w2 ⟨h,4,N⟩ _ b hb;have hkb:∀b,av.ownBlock=M b->b≠h/\w2.heap[b]?=(w.alloc o).heap[b]?:=λb q=>⟨λe=>by subst e;exact Ae hask qh s1.blk q,wz b (Lw hask b q).2 (λe=>s.dis b q e)⟩;refine⟨⟨s.hB,s.mB,by rw[jB hh];rfl,⟨n,qbz,hm.same ?_⟩,⟨ys,ey,An hask (λb q=>by rw[ru b (hkb b q).1];exact(hkb b q).2)⟩,?_,?_,s.vsl⟩,⟨?_,λb h1 h2 h3 h4 h5=>?_⟩,λb q=>?_⟩
 ·rw[ru mb s1.hne.symm,wz mb hm.lt (Kc s1.stk hm)]
 ·rw[List.length_append,List.length_singleton,show Ar (st++[nm])=Ar st++[S nm] from qal]
  exact An ho (λb q=>ru b (hgh b q))
 ·intro b e q
  simp[Value.ownBlock]at q;subst q
  rcases hl with q|q
  ·exact s.dis _ e q
  ·have:=(Lw wa _ e).2;omega
 ·refine Below.setCell (p:=⟨h,4,N⟩) (((Below.refl B w).alloc hB _).grown hg qj (λb q=>?_)) s.hB _
  exact(Lw s.stk b q).1
 ·rw[ru b h2,wz b qj h5,Lib.alloc_old _ _ _ h1]
 ·exact qmq
theorem Mw.pop{g cp:X}{nm:By}(s:Mw B h mb k sv tv fv w ms mk (st++[nm]) al av (J (p_ g) (st.length+1) cp) vs):Mw B h mb (k+1) sv tv fv (w.setCell ⟨h,4,N⟩ (J (p_ g) st.length cp)) ms mk st al av (J (p_ g) st.length cp) vs:=by
 obtain⟨n,hn,hm⟩:=s.map;obtain⟨ys,ey,hask⟩:=s.ask;rw[List.length_append,List.length_singleton]at hn;have ru:∀b,b≠h->(w.setCell ⟨h,4,N⟩ (J (p_ g) st.length cp)).heap[b]?=w.heap[b]?:=λb hb=>Dm w ⟨h,4,N⟩ _ b hb
 have hstk:w.ownsRow B 9 1 (J (p_ g) st.length cp) st.length (Ar st):=by
  have q:=s.stk;rw[List.length_append,List.length_singleton]at q;exact Vh q
 refine⟨s.hB,s.mB,by rw[jB s.blk];rfl,⟨n,qg,hm.same (ru mb s.hne.symm)⟩,⟨ys,ey,An hask (λb q=>ru b (λe=>?_))⟩,An hstk (λb q=>ru b (λe=>?_)),λb q e=>s.dis b q qcv,s.vsl⟩
 ·subst e;exact Ae hask qh s.blk q
 ·subst e;exact Ae hstk qh s.blk q
open Classical in
theorem Mw.mark{w2:E}{n:X}{ms':Mm}{mk':L By}{vs':By->Z}{nm:By}{v:Z}(s:Mw B h mb k sv tv fv w ms mk st al av kv vs)(hn:n+st.length+k<=2*al)(hm:Jk w2 mb n (λx=>if x=nm then M v else Iv ms mk vs x))(hg:w.grownBy w2 (M mb))(he:∀x,Iv ms' mk' vs' x=if x=nm then M v else Iv ms mk vs x)(hv:∀x,∃a n c,vs' x=J a n c):Mw B h mb k sv tv fv w2 ms' mk' st al av kv vs':=by
 obtain⟨n0,_,hm0⟩:=s.map;obtain⟨ys,ey,hask⟩:=s.ask;have wz:∀b,b<w.heap.size->b≠mb->w2.heap[b]?=w.heap[b]?:=λb h1 h2=>hg.block b h1 (λe=>h2 qax);refine⟨s.hB,s.mB,by rw[wz h (Ag s.blk) s.hne];exact s.blk,⟨n,hn,hm.congr λx=>(he x).symm⟩,⟨ys,ey,An hask (λb q=>wz b (Lw hask b q).2 (λe=>?_))⟩,An s.stk (λb q=>wz b (Lw s.stk b q).2 (λe=>?_)),s.dis,hv⟩
 ·subst e;exact Kc hask hm0 q
 ·subst e;exact Kc s.stk hm0 q
end
def kL(x:By)(y:Bool):Z:=G #[S x,F y]
theorem cells222:prog.cellsOf 225=2:=qk
theorem cells9L:prog.cellsOf 9=1:=qk
theorem cells4L:prog.cellsOf 4=1:=qk
theorem keyL{x:By}{y:Bool}(hs:x.size<=maxLen):∃l,keyOf prog 225 (kL x y)=some l:=by
 obtain⟨d,ed⟩:∃d,prog.types.size+1=d+2:=⟨prog.types.size-1,by have:1<=prog.types.size:=qcj;omega⟩
 have e2:prog.keyLits (d+1+1) 225 [.string x,.bool y]=some [.string x.data.toList,.bool y]:=by
  (have q1:prog.keyLits (d+1) 9 [.string x]=some [.string x.data.toList]:=by unfold Program.keyLits;simp[underlying9,hs]);have q2:prog.keyLits (d+1) 4 [.bool y]=some [.bool y]:=by unfold Program.keyLits;simp[underlying4]
  conv=>lhs;unfold Program.keyLits
  simp only[underlying225,cells222];simp[cells9L,cells4L,q1,q2]
 refine⟨.string (keyBytes [.string x.data.toList,.bool y]),?_⟩;have hkt:prog.keyType 225=true:=qcj;unfold keyOf kL;simp only[underlying225,hkt,Value.formed,cells222,ed];simp[Value.cells,e2]
theorem laidZ:laidOutB prog=true:=qcj
theorem law222:WideMaps.KeyLaw prog 225:=deep_law_gate laidZ qcj qcj qcj (by rw[underlying225])
def sgV(s:By):Z:=G #[S s]
def Kq(w:E)(b n:X)(f:By->Bool->Option ByteArray):Prop:=
 ∃AJ:DataW Z,w.ownsMap prog 225 (λv=>M (.held v,[])) b n AJ/\∀x y l,keyOf prog 225 (kL x y)=M l->Maps.has AJ l=(f x y).isSome/\∀v,f x y=M v->∀z,AJ.atKey l z=.held (sgV v)
theorem Kq.made(w:E):Kq (w.alloc (.map #[] 0)) w.heap.size 0 (λ_ _=>N):=⟨_,World.ownsMap_made w _ _ _,λx y l _=>⟨rfl,λv h=>by cases h⟩⟩
theorem Kq.same{f:By->Bool->Option ByteArray}(h:Kq w b n f)(he:w'.heap[b]?=w.heap[b]?):Kq w' b n f:=by
 exact qfx
theorem Kq.lt{f:By->Bool->Option ByteArray}(h:Kq w b n f):b<w.heap.size:=by obtain⟨AJ,h1,_⟩:=h;exact h1.lt
theorem Kq.notCells{f:By->Bool->Option ByteArray}(h:Kq w b n f){T:TypeId}{fr:X×X}(hc:w.heap[b]?=M (O cs T fr)):False:=by
 obtain⟨AJ,⟨es,cl,h1,_⟩,_⟩:=h;rw[hc]at h1;cases h1
theorem zero238(w:E):(zeroValue 246).run prog w=.ok (sgV ⟨#[]⟩) w:=qk
theorem Kq.look{f:By->Bool->Option ByteArray}(h:Kq w b n f)(hk:x.size<=maxLen):(Instr.lookup 131 (.map (M b)) (kL x y) true).run prog w=.ok (.tuple #[sgV ((f x y).getD ⟨#[]⟩),.bool (f x y).isSome]) w:=by
 obtain⟨AJ,h1,h2⟩:=h;obtain⟨l,hl⟩:=keyL (x:=x) (y:=y) hk;obtain⟨v,ps,h3,h4⟩:=h1.look_ok (Maps.Keyed.of_law law222) underlying131 (zero238 w) (zd:=.held (sgV ⟨#[]⟩)) (zp:=[]) rfl hl
 have h5:(DataW.held v:DataW Z)=AJ.atKey l (.held (sgV ⟨#[]⟩)):=by
  simp only[Option.some.injEq,Prod.mk.injEq]at h4;exact h4.1
 have h6:v=sgV ((f x y).getD ⟨#[]⟩):=by
  cases hf:f x y with
  | none=>
    have h7:=(h2 x y l hl).1;rw[hf]at h7;rw[Maps.atKey_of_not_has h7]at h5;exact DataW.held.inj h5
  | some u=>
    rw[(h2 x y l hl).2 u hf]at h5;exact DataW.held.inj h5
 rw[h3,(h2 x y l hl).1,h6]
open Classical in
theorem Kq.store{f:ByteArray->Bool->Option ByteArray}(h:Kq w b n f){x:ByteArray}(hk:x.size<=maxLen)(hn:n<maxLen)(v:ByteArray):∃w',(Instr.mapUpdate 131 (.map (M b)) (kL x y) (sgV v)).run Tryz.prog w=.ok () w'/\Kq w' b (n+1) (λx' y'=>if x'=x/\y'=y then M v else f x' y')/\w.grownBy w' (M b):=by
 obtain⟨AJ,h1,h2⟩:=h;obtain⟨l,hl⟩:=keyL (x:=x) (y:=y) hk;obtain⟨w',h3,h4,h5⟩:=h1.update (Maps.Keyed.of_law law222) Tryz.underlying131 hn hl (val:=sgV v) (d:=.held (sgV v)) (ps:=[]) rfl
 have hkey:∀ {k:Z} {l:Lit},keyOf Tryz.prog 225 k=M l->WideAt.IsKeyLit l:=λh=>by
  obtain⟨s,rfl⟩:=law222.str h;trivial
 refine⟨w',h3,⟨_,h4,λx' y' m hx=>?_⟩,h5⟩
 by_cases L0:x'=x/\y'=y
 ·obtain⟨rfl,rfl⟩:=L0
  (obtain rfl:m=l:=by rw[hx]at hl;exact Option.some.inj hl);simp only[and_self,if_true];exact⟨Maps.has_put_same h1.isMap (hkey hx) _,λv' e z=>by cases e;exact Maps.atKey_put_same h1.isMap (hkey hx) _ _⟩
 ·simp only[if_neg L0]
  have hne:m≠l:=λe=>L0 (by
   have q:=law222.inj (e▸hx) hl;unfold kL at q;injection q with q;have q2:=congrArg Array.toList q;simp only[List.cons.injEq,Value.string.injEq,Value.bool.injEq,and_true]at q2;exact q2)
  exact⟨by rw[Maps.has_put_other hne];exact(h2 x' y' m hx).1,λv' e z=>by rw[Maps.atKey_put_other hne];exact(h2 x' y' m hx).2 v' e z⟩
noncomputable def Kb (ss:L S2) (ts:L T2) (ms:Mm) (x:By) (y:Bool):Option ByteArray:=if y then (fd ms x).map (λd=>Bp d.c d.t) else M (Cz (Cj ss ts x))
def Ext(ms ms':Mm):Prop:=∃r,ms'=ms++r
theorem Ext.refl(ms:Mm):Ext ms ms:=⟨[],qi⟩
theorem Ext.trans{a b c:Mm}(h:Ext a b)(k:Ext b c):Ext a c:=by
 obtain⟨r,rfl⟩:=h;obtain⟨q,rfl⟩:=k;exact⟨r++q,by rw[List.append_assoc]⟩
theorem Ext.fd(h:Ext ms ms')(k:fd ms nm=M d):Go.Proofs.YtnflkpmmfpfhlaaGreatDoor.fd ms' nm=M d:=by
 obtain⟨r,rfl⟩:=h;unfold Go.Proofs.YtnflkpmmfpfhlaaGreatDoor.fd at *;rw[List.find?_append]
 cases hf:ms.find? (λe=>decide (e.1=nm)) with
 | some x=>rw[hf]at k;simpa using k
 | none=>rw[hf]at k;cases k
theorem Ri(h:Ext ms ms')(k:Kb ss ts ms x y=M f):Kb ss ts ms' x y=M f:=by
 unfold Kb at *
 cases y with
 | false=>exact k
 | true=>
   simp only[if_true]at *
   cases hf:fd ms x with
   | none=>rw[hf]at k;cases k
   | some d=>rw[hf]at k;rw[h.fd hf];exact k
def Rx(ss:L S2)(ts:L T2)(n:X)(ms:Mm)(f:By->Bool->Option ByteArray):Prop:=∀x y v,f x y=M v->∃q,Kb ss ts ms x y=M q/\v=Ap n q
theorem Rx.ext{f:By->Bool->Option ByteArray}(h:Rx ss ts n ms f)(k:Ext ms ms'):Rx ss ts n ms' f:=λx y v e=>by
 obtain⟨q,h1,h2⟩:=h x y v e;exact⟨q,Ri k h1,h2⟩
def Eqs(ss:L S2)(ts:L T2)(n:X)(ms:Mm)(gs:L G3)(k:X):Prop:=∀j,j<k->∃f,Kb ss ts ms (gx gs j).name (gx gs j).ask=M f/\Ap n f=(gx gs j).sum
theorem Eqs.ext{gs:L G3}(h:Eqs ss ts n ms gs k)(e:Ext ms ms'):Eqs ss ts n ms' gs k:=λj hj=>by
 obtain⟨f,h1,h2⟩:=h j hj;exact⟨f,Ri e h1,h2⟩
theorem Eqs.succ{gs:L G3}(h:Eqs ss ts n ms gs k)(h1:Kb ss ts ms (gx gs k).name (gx gs k).ask=M f)(h2:Ap n f=(gx gs k).sum):Eqs ss ts n ms gs (k+1):=λj hj=>by
 rcases Nat.lt_or_ge j k with q|q
 ·exact h j q
 ·obtain rfl:j=k:=qg
  exact⟨f,h1,h2⟩
def NoH(ss:L S2)(ts:L T2)(n:X)(ms:Mm)(gs:L G3):Prop:=∃k,k<gs.length/\Eqs ss ts n ms gs k/\∃f,Kb ss ts ms (gx gs k).name (gx gs k).ask=M f/\Ap n f≠(gx gs k).sum
theorem NoH.ext{gs:L G3}(h:NoH ss ts n ms gs)(e:Ext ms ms'):NoH ss ts n ms' gs:=by
 obtain⟨k,h1,h2,f,h3,h4⟩:=h;exact⟨k,h1,h2.ext e,f,Ri e h3,h4⟩
theorem NoH.bld{gs:L G3}(h:NoH ss ts n ms gs)(s:Sb)(st:L By):Az ss ts n ms s st (.holds gs 0) ms s .no:=by
 obtain⟨k,h1,h2,f,h3,h4⟩:=h
 have aux:∀m i,i+m=k->Az ss ts n ms s st (.holds gs i) ms s .no:=by
  intro m
  induction m with
  | zero=>
    intro i hi;obtain rfl:i=k:=qg;unfold Kb at h3
    cases ha:(gx gs i).ask with
    | false=>
      rw[ha]at h3;simp only[Bool.false_eq_true,if_false,Option.some.injEq]at h3;exact .hhasno h1 ha (by rw[h3];exact h4)
    | true=>
      rw[ha]at h3;simp only[if_true]at h3
      cases hf:fd ms (gx gs i).name with
      | none=>rw[hf]at h3;cases h3
      | some d=>
        rw[hf]at h3;simp only[Option.map_some,Option.some.injEq]at h3;exact .haskno h1 ha (.known hf) (by rw[h3];exact h4)
  | succ m ih=>
    intro i hi;obtain⟨f',q1,q2⟩:=h2 i qg;unfold Kb at q1
    cases ha:(gx gs i).ask with
    | false=>
      rw[ha]at q1;simp only[Bool.false_eq_true,if_false,Option.some.injEq]at q1;exact .hhas qg ha (by rw[q1];exact q2) (ih (i+1) qg)
    | true=>
      rw[ha]at q1;simp only[if_true]at q1
      cases hf:fd ms (gx gs i).name with
      | none=>rw[hf]at q1;cases q1
      | some d=>
        rw[hf]at q1;simp only[Option.map_some,Option.some.injEq]at q1;exact .hask qg ha (.known hf) (by rw[q1];exact q2) (ih (i+1) qg)
 exact aux k 0 qg
def Ju(l:L Z):Prop:=l.Pairwise λu v=>∀b,u.ownBlock=M b->v.ownBlock≠M b
theorem Ju.set(h:Ju l)(i:X)(u:Z){AI:X}(hi:i<l.length)(hu:∀b,u.ownBlock=M b->l[i].ownBlock=M b\/AI<=b)(ai:∀v∈l,∀b,v.ownBlock=M b->b<AI):Ju (l.set i u):=by
 unfold Ju at *;rw[List.pairwise_iff_getElem]at *;intro a c ha hc hac b e1 e2;rw[List.length_set]at ha hc;rw[List.getElem_set]at e1 e2
 split at e1
 ·rename_i q
  subst q;rw[if_neg qg]at e2
  rcases hu b e1 with k|k
  ·exact h i c hi hc hac b k e2
  ·have:=ai _ (List.getElem_mem hc) b e2;omega
 ·split at e2
  ·rename_i q q2
   subst q2
   rcases hu b e2 with k|k
   ·exact h a i ha hi hac b e1 k
   ·have:=ai _ (List.getElem_mem ha) b e1;omega
  ·exact h a c ha hc hac b e1 e2
theorem Ju.ne(h:Ju l){j:X}(n9:i≠j)(hi:i<l.length)(hj:j<l.length):∀b,l[i].ownBlock=M b->l[j].ownBlock≠M b:=λb e1 e2=>by
 unfold Ju at h;rw[List.pairwise_iff_getElem]at h
 rcases Nat.lt_or_ge i j with q|q
 ·exact h i j hi hj q b e1 e2
 ·exact h j i hj hi qg b e2 e1
structure Rv where
 tx:Z
 su:Z
 qv:Z
 nv:Z
 ev:Z
 uv:Z
 dv:Z
 sn:X
def Ol(r:Rv):L Z:=[r.tx,r.su,r.qv,r.nv,r.ev,r.uv,r.dv]
def Lc(C:Fr)(r:Rv)(b:X):Prop:=b=C.hb\/b=C.hs\/b=C.sb\/∃u∈Ol r,u.ownBlock=M b
def Ul(C:Fr)(h:X)(r:Rv):Array Z:=#[D (p_ C.hs),r.nv,r.ev,r.uv,I 0,I 0,nS,nS,ze,ze,D (p_ h),.map (M C.sb),r.dv]
structure Lj (B h mb:X) (C:Fr) (ss:L S2) (ts:L T2) (w:E) (ms:Mm) (s:Sb) (av kv:Z) (r:Rv):Prop where
 lb:B<=C.hb/\B<=C.hs/\B<=C.sb/\mb≠C.sb
 wd:1<=C.n/\C.n<=8
 bd:w.heap[C.hb]?=M (O (Ul C h r) 133 (0,0))
 sh:w.heap[C.hs]?=M (O #[I C.n,r.tx,r.qv,r.su] 136 (0,0))
 sn:∃f,Kq w C.sb r.sn f/\Rx ss ts C.n ms f
 tx:w.ownsRow B 9 1 r.tx s.T.length (Ar s.T)
 su:w.ownsRow B 9 1 r.su s.T.length (Ar (s.T.map (Ap C.n)))
 qs:Eo w B r.qv s.R
 ran:w.ownsRow B 9 1 r.nv s.ran.length (Ar s.ran)
 held:w.ownsRow B 9 1 r.ev s.held.length (Ar s.held)
 us:∃xs:L Bool,w.ownsRow B 4 1 r.uv s.R.length (xs.map .bool)/\∀j:X,xs[j]?=M true <-> j∈s.us
 df:∃xs:L Bool,w.ownsRow B 4 1 r.dv s.R.length (xs.map .bool)/\∀i:X,xs[i]?=M true->NoH ss ts C.n ms (qx s.R i).looks
 ud:∀b,r.uv.ownBlock=M b->r.dv.ownBlock≠M b
 ap:Ju [av,kv,r.tx,r.su,r.nv,r.ev]
theorem Eo.kept{v:Z}(k:Eo w B v R)(h1:∀b,v.ownBlock=M b->w'.heap[b]?=w.heap[b]?)(h2:∀(b:X)(cs:Array Z)(T:TypeId),(T=174\/T=115)->w.heap[b]?=M (O cs T (0,0))->w'.heap[b]?=M (O cs T (0,0))):Eo w' B v R:=by
 obtain⟨xs,cv,lv,r⟩:=k
 have kk:∀ {e sz n:X} {u:Z} {ys:L Z},w.ownsRow B e sz u n ys->(e=174\/e=115)->w'.ownsRow B e sz u n ys:=λho he=>An ho λb q=>by
  obtain⟨cs,c1⟩:=Bd ho b q;rw[c1];exact h2 b cs _ he c1
 exact⟨xs,cv,lv,An r.row h1,r.fil,λi hi=>by obtain⟨ys,a,b⟩:=r.code i hi;exact⟨ys,kk a (Or.inl rfl),b⟩,λi hi=>by obtain⟨ys,a,b⟩:=r.look i hi;exact⟨ys,kk a (Or.inr rfl),b⟩,r.apc,r.apl⟩
section
variable {B h mb:X} {C:Fr} {ss:L S2} {ts:L T2} {w w':E} {ms:Mm} {s:Sb} {av kv:Z} {r:Rv}
theorem Bk(C:Fr){r:Rv}{u:Z}{b:X}(hu:u∈Ol r)(q:u.ownBlock=M b):Lc C r b:=Or.inr (Or.inr (Or.inr ⟨u,hu,q⟩))
theorem Lj.kept(k:Lj B h mb C ss ts w ms s av kv r)(h1:∀b,Lc C r b->w'.heap[b]?=w.heap[b]?)(h2:∀(b:X)(cs:Array Z)(T:TypeId),(T=174\/T=115)->w.heap[b]?=M (O cs T (0,0))->w'.heap[b]?=M (O cs T (0,0))):Lj B h mb C ss ts w' ms s av kv r:=by
 obtain⟨f,f1,f2⟩:=k.sn;obtain⟨xs,u1,u9⟩:=k.us;obtain⟨ys,d1,d2⟩:=k.df;have kk:∀ {e sz n:X} {u:Z} {ys:L Z},w.ownsRow B e sz u n ys->u∈Ol r->w'.ownsRow B e sz u n ys:=λho hu=>An ho λb q=>h1 b (Bk C hu q);exact⟨k.lb,k.wd,by rw[h1 _ (Or.inl rfl)];exact k.bd,by rw[h1 _ (Or.inr (Or.inl rfl))];exact k.sh,⟨f,f1.same (h1 _ (Or.inr (Or.inr (Or.inl rfl)))),f2⟩,kk k.tx qy,kk k.su qy,k.qs.kept (λb q=>h1 b (Bk C (u:=r.qv) qy q)) h2,kk k.ran qy,kk k.held qy,⟨xs,kk u1 qy,u9⟩,⟨ys,kk d1 qy,d2⟩,k.ud,k.ap⟩
theorem Lj.rowT(k:Lj B h mb C ss ts w ms s av kv r){u:Z}(hu:u∈Ol r){b:X}(q:u.ownBlock=M b):B<=b/\∃cs T,w.heap[b]?=M (O cs T (0,0))/\(T=9\/T=73\/T=4):=by
 obtain⟨xs,u1,u9⟩:=k.us;obtain⟨ys,d1,d2⟩:=k.df;obtain⟨zs,cv,lv,qr⟩:=k.qs
 have aux:∀ {e sz n:X} {u:Z} {ys:L Z},w.ownsRow B e sz u n ys->(e=9\/e=73\/e=4)->u.ownBlock=M b->B<=b/\∃cs T,w.heap[b]?=M (O cs T (0,0))/\(T=9\/T=73\/T=4):=λho he q=>by
  obtain⟨hB,cs,c1⟩:=Dh ho q;exact⟨hB,cs,_,c1,he⟩
 simp only[Ol,List.mem_cons,List.not_mem_nil,or_false]at hu
 rcases hu with rfl|rfl|rfl|rfl|rfl|rfl|rfl
 ·exact aux k.tx (Or.inl rfl) q
 ·exact aux k.su (Or.inl rfl) q
 ·exact aux qr.row (Or.inr (Or.inl rfl)) q
 ·exact aux k.ran (Or.inl rfl) q
 ·exact aux k.held (Or.inl rfl) q
 ·exact aux u1 (Or.inr (Or.inr rfl)) q
 ·exact aux d1 (Or.inr (Or.inr rfl)) q
theorem Lj.lt(k:Lj B h mb C ss ts w ms s av kv r){b:X}(q:Lc C r b):B<=b/\b<w.heap.size:=by
 obtain⟨f,f1,f2⟩:=k.sn
 rcases q with rfl|rfl|rfl|⟨u,hu,q⟩
 ·exact⟨k.lb.1,Ag k.bd⟩
 ·exact⟨k.lb.2.1,Ag k.sh⟩
 ·exact⟨k.lb.2.2.1,f1.lt⟩
 ·obtain⟨hB,cs,T,c1,_⟩:=k.rowT hu q
  exact⟨hB,Ag c1⟩
theorem Lj.bl(k:Lj B h mb C ss ts w ms s av kv r)(hb:Bw w w'):Lj B h mb C ss ts w' ms s av kv r:=k.kept (λb q=>hb.block b (k.lt q).2) (λb cs T _ q=>by rw[hb.block b (Ag q)];exact q)
theorem Lj.far(k:Lj B h mb C ss ts w ms s av kv r){b:X}{T:TypeId}{cs:Array Z}(hb:w.heap[b]?=M (O cs T (0,0)))(hT:T≠133/\T≠136/\T≠9/\T≠73/\T≠4):¬ Lc C r b:=by
 obtain⟨f,f1,f2⟩:=k.sn;rintro(rfl|rfl|rfl|⟨u,hu,q⟩)
 ·have q:=k.bd;rw[hb]at q;injection q with q;injection q with _ q;exact hT.1 q
 ·have q:=k.sh;rw[hb]at q;injection q with q;injection q with _ q;exact hT.2.1 q
 ·exact f1.notCells hb
 ·obtain⟨_,cs',T',c1,c2⟩:=k.rowT hu q
  rw[hb]at c1;injection c1 with c1;injection c1 with _ c1
  rcases c2 with e|e|e
  ·exact hT.2.2.1 (c1.trans e)
  ·exact hT.2.2.2.1 (c1.trans e)
  ·exact hT.2.2.2.2 (c1.trans e)
theorem Lj.ne9(k:Lj B h mb C ss ts w ms s av kv r){b:X}(q:av.ownBlock=M b\/kv.ownBlock=M b)(hc:∃cs,w.heap[b]?=M (O cs 9 (0,0))):¬ Lc C r b:=by
 obtain⟨f,f1,f2⟩:=k.sn;obtain⟨cs,hb⟩:=hc;obtain⟨xs,u1,u9⟩:=k.us;obtain⟨ys,d1,d2⟩:=k.df;obtain⟨zs,cv,lv,qr⟩:=k.qs;rintro(rfl|rfl|rfl|⟨u,hu,q2⟩)
 ·exact qmx
 ·exact qmw
 ·exact f1.notCells hb
 ·have ap:=k.ap
  have aux:∀(i j:X)(hi:i<6)(hj:j<6),i≠j->[av,kv,r.tx,r.su,r.nv,r.ev][i].ownBlock=M b->[av,kv,r.tx,r.su,r.nv,r.ev][j].ownBlock≠M b:=λi j hi hj n9=>ap.ne n9 hi hj b;simp only[Ol,List.mem_cons,List.not_mem_nil,or_false]at hu
  rcases hu with rfl|rfl|rfl|rfl|rfl|rfl|rfl
  ·exact q.elim (λq=>aux 0 2 qh qh qh q q2) (λq=>aux 1 2 qh qh qh q q2)
  ·exact q.elim (λq=>aux 0 3 qh qh qh q q2) (λq=>aux 1 3 qh qh qh q q2)
  ·exact Ae qr.row qh hb q2
  ·exact q.elim (λq=>aux 0 4 qh qh qh q q2) (λq=>aux 1 4 qh qh qh q q2)
  ·exact q.elim (λq=>aux 0 5 qh qh qh q q2) (λq=>aux 1 5 qh qh qh q q2)
  ·exact Ae u1 qh hb q2
  ·exact Ae d1 qh hb q2
theorem Lj.set(k:Lj B h mb C ss ts w ms s av kv r){b:X}{T:TypeId}{cs:Array Z}(hb:w.heap[b]?=M (O cs T (0,0)))(hT:T≠133/\T≠136/\T≠9/\T≠73/\T≠4)(hT2:T≠174/\T≠115)(j:X)(u:Z):Lj B h mb C ss ts (w.setCell ⟨b,j,N⟩ u) ms s av kv r:=
 k.kept (λb' q=>Dm w ⟨b,j,N⟩ _ b' (λe=>k.far hb hT (by have e:b'=b:=e;exact e▸q))) (λb' cs' T' N0 q=>by
  rw[Dm w ⟨b,j,N⟩ _ b' (λe=>by
   have e:=e;subst e;rw[hb]at q;injection q with q;injection q with _ q
   rcases N0 with e|e
   ·exact hT2.1 (q.trans e)
   ·exact hT2.2 (q.trans e))]
  exact q)
theorem Lj.ext(k:Lj B h mb C ss ts w ms s av kv r){ms':Mm}(e:Ext ms ms'):Lj B h mb C ss ts w ms' s av kv r:=by
 obtain⟨f,f1,f2⟩:=k.sn;obtain⟨ys,d1,d2⟩:=k.df;exact⟨k.lb,k.wd,k.bd,k.sh,⟨f,f1,f2.ext e⟩,k.tx,k.su,k.qs,k.ran,k.held,k.us,⟨ys,d1,λi q=>(d2 i q).ext e⟩,k.ud,k.ap⟩
theorem Lj.kp{kk:X}{sv tv fv:Z}{mk st:L By}{al:X}{vs:By->Z}{ms0:Mm}(k:Lj B h mb C ss ts w ms s av kv r)(m:Mw B h mb kk sv tv fv w ms0 mk st al av kv vs)(hk:KP B h mb av kv w w'):Lj B h mb C ss ts w' ms s av kv r:=by
 obtain⟨n,hn,hm⟩:=m.map;obtain⟨xs,e,ha⟩:=m.ask;refine k.kept (λb q=>hk.keep b (k.lt q).2 (λe=>?_) (λe=>?_) (λe=>?_) (λe=>?_)) (λb cs T hT q=>?_)
 ·subst e;exact k.far m.blk qh q
 ·subst e
  rcases q with q|q|q|⟨u,hu,q⟩
  ·subst q;exact hm.notCells k.bd
  ·subst q;exact hm.notCells k.sh
  ·exact k.lb.2.2.2 q
  ·obtain⟨_,cs,T,c1,_⟩:=k.rowT hu q
   exact hm.notCells c1
 ·exact k.ne9 (Or.inl e) (Bd ha b e) q
 ·exact k.ne9 (Or.inr e) (Bd m.stk b e) q
 ·rw[hk.keep b (Ag q) (λe=>?_) (λe=>?_) (λe=>?_) (λe=>?_)]
  ·exact q
  ·subst e
   have q2:=m.blk;rw[q]at q2;injection q2 with q2;injection q2 with _ q2
   rcases hT with e|e<;>rw[e]at q2<;>exact absurd q2 qh
  ·subst e;exact hm.notCells q
  ·exact Ae ha (by rcases hT with e|e<;>rw[e]<;>decide) q e
  ·exact Ae m.stk (by rcases hT with e|e<;>rw[e]<;>decide) q e
theorem Lj.l6(k:Lj B h mb C ss ts w ms s av kv r)(ha:∀b,av.ownBlock=M b->b<w.heap.size)(hk:∀b,kv.ownBlock=M b->b<w.heap.size):∀v∈[av,kv,r.tx,r.su,r.nv,r.ev],∀b,v.ownBlock=M b->b<w.heap.size:=by
 intro v hv b q;simp only[List.mem_cons,List.not_mem_nil,or_false]at hv
 rcases hv with rfl|rfl|rfl|rfl|rfl|rfl
 ·exact ha b q
 ·exact hk b q
 ·exact(k.tx.lt b q).2
 ·exact(k.su.lt b q).2
 ·exact(k.ran.lt b q).2
 ·exact(k.held.lt b q).2
theorem Lj.av'(k:Lj B h mb C ss ts w' ms s av kv r)(k0:Lj B h mb C ss ts w ms s av kv r)(ha:∀b,av.ownBlock=M b->b<w.heap.size)(hk:∀b,kv.ownBlock=M b->b<w.heap.size){u:Z}(hu:Am w av u):Lj B h mb C ss ts w' ms s u kv r:=
 ⟨k.lb,k.wd,k.bd,k.sh,k.sn,k.tx,k.su,k.qs,k.ran,k.held,k.us,k.df,k.ud,Ju.set k.ap 0 u qi hu (k0.l6 ha hk)⟩
theorem Lj.kv'(k:Lj B h mb C ss ts w' ms s av kv r)(k0:Lj B h mb C ss ts w ms s av kv r)(ha:∀b,av.ownBlock=M b->b<w.heap.size)(hk:∀b,kv.ownBlock=M b->b<w.heap.size){u:Z}(hu:Am w kv u):Lj B h mb C ss ts w' ms s av u r:=
 ⟨k.lb,k.wd,k.bd,k.sh,k.sn,k.tx,k.su,k.qs,k.ran,k.held,k.us,k.df,k.ud,Ju.set k.ap 1 u qi hu (k0.l6 ha hk)⟩
theorem Mw.kr{kk:X}{sv tv fv:Z}{mk st:L By}{al:X}{vs:By->Z}{ms0:Mm}(m:Mw B h mb kk sv tv fv w ms0 mk st al av kv vs)(k:Lj B h mb C ss ts w ms s av kv r)(hk:∀b,b<w.heap.size->¬ Lc C r b->w'.heap[b]?=w.heap[b]?):Mw B h mb kk sv tv fv w' ms0 mk st al av kv vs:=by
 obtain⟨n,hn,hm⟩:=m.map;obtain⟨xs,e,ha⟩:=m.ask;refine m.kept λb q=>hk b (m.lt q) ?_
 rcases q with rfl|rfl|q|q
 ·exact k.far m.blk qh
 ·rintro(q|q|q|⟨u,hu,q⟩)
  ·subst q;exact hm.notCells k.bd
  ·subst q;exact hm.notCells k.sh
  ·exact k.lb.2.2.2 q
  ·obtain⟨_,cs,T,c1,_⟩:=k.rowT hu q
   exact hm.notCells c1
 ·exact k.ne9 (Or.inl q) (Bd ha b q)
 ·exact k.ne9 (Or.inr q) (Bd m.stk b q)
end
def slen:Z->X
 | J _ n _=>n
 | _=>0
def Lr(v:Z)(w w':E):Prop:=∀g l cp (cs:Array Z),v=J (p_ g) l cp->w.heap[g]?=M (O cs 73 (0,0))->∃cs',w'.heap[g]?=M (O cs' 73 (0,0))/\∀j,j<l*3->cs'[j]?=cs[j]?
structure KQ (B h mb:X) (C:Fr) (av kv:Z) (r r':Rv) (w w':E):Prop where
 bel:Below B w w'
 keep:∀b,b<w.heap.size->b≠h->b≠mb->av.ownBlock≠M b->kv.ownBlock≠M b->¬ Lc C r b->w'.heap[b]?=w.heap[b]?
 new:∀b,Lc C r' b->Lc C r b\/w.heap.size<=b
 old:Lr r.qv w w'
 len:slen r.qv<=slen r'.qv
structure BS (B h mb k:X) (C:Fr) (sv tv:Z) (ss:L S2) (ts:L T2) (w:E) (ms:Mm) (mk st:L By) (al:X) (av kv:Z) (vs:By->Z) (s:Sb) (r:Rv):Prop where
 mkr:Mw B h mb k sv tv (fvC C) w ms mk st al av kv vs
 rs:Lj B h mb C ss ts w ms s av kv r
abbrev Lu(B h mb:X)(C:Fr)(sv tv:Z)(ss:L S2)(ts:L T2)(w:E)(ms:Mm)(st:L By)(av kv:Z)(vs:By->Z)(s:Sb)(r:Rv):Prop:=BS B h mb 0 C sv tv ss ts w ms st st (ms.length+st.length) av kv vs s r
def TyO(T:TypeId):Prop:=T≠165/\T≠133/\T≠136/\T≠9/\T≠73/\T≠4/\T≠174/\T≠115
instance (T:TypeId):Decidable (TyO T):=by unfold TyO;infer_instance
section
variable {B h mb k:X} {C:Fr} {sv tv:Z} {ss:L S2} {ts:L T2} {w w':E} {ms:Mm} {mk st:L By} {al:X} {av kv:Z} {vs:By->Z} {s:Sb} {r r' r'':Rv}
theorem BS.bl(q:BS B h mb k C sv tv ss ts w ms mk st al av kv vs s r)(hb:Bw w w'):BS B h mb k C sv tv ss ts w' ms mk st al av kv vs s r:=⟨q.mkr.bl hb,q.rs.bl hb⟩
theorem BS.le{k':X}(q:BS B h mb k C sv tv ss ts w ms mk st al av kv vs s r)(hk:k'<=k):BS B h mb k' C sv tv ss ts w ms mk st al av kv vs s r:=⟨q.mkr.le hk,q.rs⟩
theorem BS.set(q:BS B h mb k C sv tv ss ts w ms mk st al av kv vs s r){b:X}{T:TypeId}{cs:Array Z}(hb:w.heap[b]?=M (O cs T (0,0)))(hT:TyO T)(j:X)(u:Z):BS B h mb k C sv tv ss ts (w.setCell ⟨b,j,N⟩ u) ms mk st al av kv vs s r:=
 ⟨q.mkr.set hb hT.1 hT.2.2.2.1 j u,q.rs.set hb ⟨hT.2.1,hT.2.2.1,hT.2.2.2.1,hT.2.2.2.2.1,hT.2.2.2.2.2.1⟩ hT.2.2.2.2.2.2 j u⟩
theorem BS.ownA(q:BS B h mb k C sv tv ss ts w ms mk st al av kv vs s r):(∀b,av.ownBlock=M b->b<w.heap.size)/\(∀b,kv.ownBlock=M b->b<w.heap.size):=⟨λb e=>q.mkr.lt (by simp[e]),λb e=>q.mkr.lt (by simp[e])⟩
theorem BS.noneA(q:BS B h mb k C sv tv ss ts w ms mk st al av kv vs s r){b:X}{T:TypeId}{cs:Array Z}(hb:w.heap[b]?=M (O cs T (0,0)))(hT:TyO T):b≠h/\b≠mb/\av.ownBlock≠M b/\kv.ownBlock≠M b/\¬ Lc C r b:=
 ⟨λe=>q.mkr.far hb hT.1 hT.2.2.2.1 (Or.inl e) rfl,λe=>q.mkr.far hb hT.1 hT.2.2.2.1 (Or.inr (Or.inl e)) rfl,λe=>q.mkr.far hb hT.1 hT.2.2.2.1 (Or.inr (Or.inr (Or.inl e))) rfl,λe=>q.mkr.far hb hT.1 hT.2.2.2.1 (Or.inr (Or.inr (Or.inr e))) rfl,q.rs.far hb ⟨hT.2.1,hT.2.2.1,hT.2.2.2.1,hT.2.2.2.2.1,hT.2.2.2.2.2.1⟩⟩
theorem KQ.blk(K:KQ B h mb C av kv r r' w w')(q:BS B h mb k C sv tv ss ts w ms mk st al av kv vs s r){b:X}{T:TypeId}{cs:Array Z}(hb:w.heap[b]?=M (O cs T (0,0)))(hT:TyO T):w'.heap[b]?=M (O cs T (0,0)):=by
 obtain⟨n1,n2,n3,n4,n5⟩:=q.noneA hb hT;rw[K.keep b (Ag hb) n1 n2 n3 n4 n5];exact hb
theorem Lr.same{v:Z}{w w':E}(h:∀b,v.ownBlock=M b->w'.heap[b]?=w.heap[b]?):Lr v w w':=λg l cp cs e hb=>⟨cs,by rw[h g (by rw[e];rfl)];exact hb,λ_ _=>rfl⟩
theorem KQ.of_below(q:BS B h mb k C sv tv ss ts w ms mk st al av kv vs s r)(hb:Bw w w')(hB:B<=w.heap.size):KQ B h mb C av kv r r w w':=⟨hb.mono hB,λb hl _ _ _ _ _=>hb.block b hl,λ_ h=>Or.inl h,Lr.same λb e=>hb.block b (q.rs.lt (Bk C (u:=r.qv) qy e)).2,Nat.le_refl _⟩
theorem KQ.of_kp(q:BS B h mb k C sv tv ss ts w ms mk st al av kv vs s r)(hk:KP B h mb av kv w w'):KQ B h mb C av kv r r w w':=by
 refine⟨hk.bl,λb hl h1 h2 h3 h4 _=>hk.keep b hl h1 h2 h3 h4,λ_ h=>Or.inl h,Lr.same λb e=>?_,Nat.le_refl _⟩;have ow:Lc C r b:=Bk C (u:=r.qv) qy e;have hl:=(q.rs.lt ow).2;obtain⟨xs,cv,lv,qr⟩:=q.rs.qs;obtain⟨cs,c1⟩:=Bd qr.row b e;exact hk.keep b hl (λe'=>q.mkr.far c1 qh qh (Or.inl e') rfl) (λe'=>q.mkr.far c1 qh qh (Or.inr (Or.inl e')) rfl) (λe'=>q.mkr.far c1 qh qh (Or.inr (Or.inr (Or.inl e'))) rfl) (λe'=>q.mkr.far c1 qh qh (Or.inr (Or.inr (Or.inr e'))) rfl)
theorem KQ.trans{w1 w2:E}{av1 kv1:Z}(K:KQ B h mb C av kv r r' w w1)(ha:Am w av av1)(hk:Am w kv kv1)(q:BS B h mb k C sv tv ss ts w1 ms mk st al av1 kv1 vs s r')(AL:KQ B h mb C av1 kv1 r' r'' w1 w2):KQ B h mb C av kv r r'' w w2:=by
 have hs:=K.bel.size;refine⟨K.bel.trans AL.bel,λb hl h1 h2 h3 h4 h5=>?_,λb e=>?_,λg l cp cs e hb=>?_,Nat.le_trans K.len AL.len⟩
 ·rw[AL.keep b qg h1 h2 (λe=>by rcases ha b e with q|q;exact h3 q;omega) (λe=>by rcases hk b e with q|q;exact h4 q;omega) (λe=>by rcases K.new b e with q|q;exact h5 q;omega)]
  exact K.keep b hl h1 h2 h3 h4 h5
 ·rcases AL.new b e with q|q
  ·exact K.new b q
  ·exact Or.inr qg
 ·obtain⟨N4,b1,c1⟩:=K.old g l cp cs e hb
  by_cases ow:r'.qv.ownBlock=M g
  ·obtain⟨xs,cv,lv,qr⟩:=q.rs.qs
   have hr:=qr.row
   rcases hr.2 with⟨e0,_⟩|⟨g1,cp1,cur,e1,_⟩
   ·rw[e0]at ow;simp[Value.ownBlock]at ow
   ·rw[e1]at ow
    simp[Value.ownBlock]at ow;subst ow;obtain⟨cs2,b2,c2⟩:=AL.old g1 _ cp1 N4 e1 b1;have dm:=K.len;rw[e,e1]at dm;simp only[slen]at dm;exact⟨cs2,b2,λj hj=>(c2 j qg).trans (c1 j hj)⟩
  ·refine⟨N4,?_,c1⟩
   rw[AL.keep g (Ag b1) (λe'=>q.mkr.far b1 qh qh (Or.inl e') rfl) (λe'=>q.mkr.far b1 qh qh (Or.inr (Or.inl e')) rfl) (λe'=>q.mkr.far b1 qh qh (Or.inr (Or.inr (Or.inl e'))) rfl) (λe'=>q.mkr.far b1 qh qh (Or.inr (Or.inr (Or.inr e'))) rfl) ?_]
   ·exact b1
   ·rintro(q2|q2|q2|⟨u,hu,q2⟩)
    ·subst q2;have q:=q.rs.bd;rw[b1]at q;injection q with q;injection q with _ q;exact absurd q qh
    ·subst q2;have q:=q.rs.sh;rw[b1]at q;injection q with q;injection q with _ q;exact absurd q qh
    ·subst q2;obtain⟨f,f1,_⟩:=q.rs.sn;exact f1.notCells b1
    ·obtain⟨xs,u1,u9⟩:=q.rs.us
     obtain⟨ys,d1,d2⟩:=q.rs.df;simp only[Ol,List.mem_cons,List.not_mem_nil,or_false]at hu
     rcases hu with rfl|rfl|rfl|rfl|rfl|rfl|rfl
     ·exact Ae q.rs.tx qh b1 q2
     ·exact Ae q.rs.su qh b1 q2
     ·exact ow q2
     ·exact Ae q.rs.ran qh b1 q2
     ·exact Ae q.rs.held qh b1 q2
     ·exact Ae u1 qh b1 q2
     ·exact Ae d1 qh b1 q2
theorem KQ.after{w1 w2:E}{av1 kv1:Z}(K:KQ B h mb C av kv r r' w w1)(ha:Am w av av1)(hk:Am w kv kv1)(q:BS B h mb k C sv tv ss ts w1 ms mk st al av1 kv1 vs s r')(hb:Bw w1 w2)(hB:B<=w1.heap.size):KQ B h mb C av kv r r' w w2:=K.trans ha hk q (KQ.of_below q hb hB)
end
def clA:Gi->ByteArray
 | .clash A _=>A
 | _=>⟨#[]⟩
def clB:Gi->ByteArray
 | .clash _ B=>B
 | _=>⟨#[]⟩
def Dj(B:X)(C:Fr)(w:E)(b:Gi)(v:Z):Prop:=w.cell? ⟨C.hb,8,N⟩=M (S (clA b))/\w.cell? ⟨C.hb,9,N⟩=M (S (clB b))/\
 match b with
 | .circle ch=>∃ca cn cc,v=G #[I 6,ze,J ca cn cc]/\w.ownsRow B 9 1 (J ca cn cc) ch.length (Ar ch)
 | .deep nm=>v=G #[I 7,S nm,nS]
 | .clash _ _=>v=G #[I 10,ze,nS]
 | .full=>v=G #[I 11,ze,nS]
theorem Dj.bl{C:Fr}{b:Gi}{v:Z}(h:Dj B C w b v)(hb:Bw w w'):Dj B C w' b v:=by
 obtain⟨h1,h2,h3⟩:=h;refine⟨Aa hb h1,Aa hb h2,?_⟩
 cases b with
 | circle ch=>obtain⟨ca,cn,cc,e,ho⟩:=h3;exact⟨ca,cn,cc,e,Ad ho hb⟩
 | deep nm=>exact h3
 | clash A B=>exact h3
 | full=>exact h3
structure Fq (ss:L S2) (ts:L T2) (n:X) (ms:Mm) (s:Sb) (st:L By) (sn c:X):Prop where
 inv:Gs ss ts ms st
 ok:Fy n s
 ml:ms.length+c<=400200*Dp ts ms st
 cn:cntO ts ms s st
 sl:sn+c<=400200*Dp ts ms st
theorem Fq.le{c c':X}(h:Fq ss ts n ms s st sn c)(hc:c'<=c):Fq ss ts n ms s st sn c':=⟨h.inv,h.ok,by have:=h.ml;omega,h.cn,by have:=h.sl;omega⟩
theorem Fq.step{c d:X}(hv:Xv ss ts)(h:Fq ss ts n ms s st sn c)(hb:Az ss ts n ms s st j ms' s' a)(hj:JobB s j)(ha:∀b,a≠.bad b)(hz:Wk j=0)(hd:Pq j<=d)(hc:d<=c)(mo:sn'+400200*Dp ts ms st<=sn+d+400200*Dp ts ms' st):Fq ss ts n ms' s' st sn' (c-d):=by
 obtain⟨k1,k2,_,_⟩:=hb.inv hv h.inv h.ok hj ha;have k3:=hb.cost hv h.inv h.ok hj ha;have h1:=h.ml;have h2:=h.sl;exact⟨k1,k2,qg,hb.cntOM hv h.inv h.ok hj ha hz h.cn,qg⟩
theorem Fq.small{c:X}(h:Fq ss ts n ms s st sn c)(hl:ts.length<=200):ms.length<=80040000/\sn<=80040000/\st.length<=40200/\s.ran.length+s.held.length<=40200:=by
 have h1:=h.ml;have h2:=h.sl;have h3:=h.cn;have h4:=Pz ts ms st;unfold cntO at h3;omega
def Nu(B h mb:X)(C:Fr)(sv tv:Z)(ss:L S2)(ts:L T2)(ms:Mm)(s:Sb)(st:L By)(av kv:Z)(vs:By->Z)(r:Rv)(nm:By)(rt:Md->(By->Z)->Z)(w:E)(e:Ending)(w':E):Prop:=
 ∃ms' s' a,Az ss ts C.n ms s st (.make nm) ms' s' a/\
  ((∃d av' kv' vs' r',a=.ok d/\e=H (rt d vs')/\Lu B h mb C sv tv ss ts w' ms' st av' kv' vs' s' r'/\KQ B h mb C av kv r r' w w'/\Am w av av'/\Am w kv kv'/\r'.sn+400200*Dp ts ms st<=r.sn+400200*Dp ts ms' st)\/
   (∃b v r',a=.bad b/\e=Lm v/\Dj B C w' b v/\KQ B h mb C av kv r r' w w'))
def Ho(W0:E)(h mb:X)(C:Fr)(sv tv:Z)(ss:L S2)(ts:L T2)(st:L By):Prop:=
 ∀(w:E)(ms:Mm)(nm:By)(av kv:Z)(vs:By->Z)(s:Sb)(r:Rv),Lu W0.heap.size h mb C sv tv ss ts w ms st av kv vs s r->Fq ss ts C.n ms s st r.sn 0->Ao nm->Bw W0 w->
   Calls prog 128 #[D (p_ h),S nm] w λe w'=>Nu W0.heap.size h mb C sv tv ss ts ms s st av kv vs r nm (λd vs'=>Ft d (vs' nm)) w e w'
noncomputable def lookV (ss:L S2) (ts:L T2) (nm:By) (d:Md):Z:=Y #[G #[F (Cj ss ts nm),I d.c,S d.t],S (Bp d.c d.t)]
theorem Yu(W0:E)(h mb k:X)(C:Fr)(sa ta:Option Addr)(c1 c2:X)(ss:L S2)(ts:L T2)(ms:Mm)(mk st:L By)(al:X)(av kv:Z)(vs:By->Z)(s:Sb)(r:Rv)(nm:By)(w:E)(hE:Jf W0 sa ta ss ts)(q:BS W0.heap.size h mb k C (J sa ss.length c1) (J ta ts.length c2) ss ts w ms mk st al av kv vs s r)(hW:Bw W0 w):Calls prog 149 #[D (p_ h),S nm,F false] w λe w'=>e=H (Y #[G #[F (Cj ss ts nm),I 0,ze],S (Cz (Cj ss ts nm))])/\Bw w w':=by
 obtain⟨W,eW⟩:=Aj (w.alloc (O #[F false,I 0,ze] 191));have cj:Bw w W:=qbe
 have HR:Hd (W.heap[w.heap.size]?=M (O #[F false,I 0,ze] 191 (0,0))):=by
  exact qbt
 obtain⟨x0,x1,_⟩:=(q.mkr.bl cj).cells;have yx:=thing_in sa ta c1 c2 ss ts nm W0 W hE (hW.trans (cj.mono hW.size));have HB:=Ab cj;generalize Cj ss ts nm=tb at yx ⊢;have HT:=Ab yx;obtain⟨f,ef⟩:=Aj (Cz tb);have HF:Hd (∀V:E,Calls prog 168 #[F tb] V λe w'=>e=H (S f)/\V=w'):=λV=>by rw[<- ef];exact Rn tb V
 rw[ef];clear ef yx q hW hE cj;go_enter func149,ntmps149;go_wp2_with fail;refine HT.o.mono ?_;rintro e w3 ⟨au,rfl⟩;have iy:=Ab (Ac au HR.o);have ia:=Ab (Ay HB.o au);obtain⟨z0,z1,z2,zf⟩:=Ci iy.o;clear au HR HT x0 x1
 go_wp2_with (first|(go_at_call 168;refine(HF.o _).mono ?_;rintro e w4 ⟨rfl,rfl⟩))
 obtain⟨y0,y1,y2,_⟩:=Ci (Ba iy.o (F tb) (I 0) ze);exact bR (v:=Y #[G #[F tb,I 0,ze],S f]) (by simp[results,results149,go_sem,y0,y1,y2]) rfl ⟨rfl,Co ia.o (Nat.le_refl _) _ _ _⟩
theorem BS.set3{B h mb k:X}{C:Fr}{sv tv:Z}{ss:L S2}{ts:L T2}{w:E}{ms:Mm}{mk st:L By}{al:X}{av kv:Z}{vs:By->Z}{s:Sb}{r:Rv}(q:BS B h mb k C sv tv ss ts w ms mk st al av kv vs s r){b:X}{T:TypeId}{u0 u1 u2:Z}(hb:w.heap[b]?=M (O #[u0,u1,u2] T (0,0)))(hT:TyO T)(v0 v1 v2:Z):BS B h mb k C sv tv ss ts (((w.setCell ⟨b,0,N⟩ v0).setCell ⟨b,1,N⟩ v1).setCell ⟨b,2,N⟩ v2) ms mk st al av kv vs s r:=by
 have h1:=q.set hb hT 0 v0;have b1:(w.setCell ⟨b,0,N⟩ v0).heap[b]?=_:=jB hb v0;have h2:=h1.set b1 hT 1 v1;have b2:((w.setCell ⟨b,0,N⟩ v0).setCell ⟨b,1,N⟩ v1).heap[b]?=_:=jB b1 v1;exact h2.set b2 hT 2 v2
theorem BS.set6{B h mb k:X}{C:Fr}{sv tv:Z}{ss:L S2}{ts:L T2}{w:E}{ms:Mm}{mk st:L By}{al:X}{av kv:Z}{vs:By->Z}{s:Sb}{r:Rv}(q:BS B h mb k C sv tv ss ts w ms mk st al av kv vs s r){b:X}{T:TypeId}{u0 u1 u2 u3 u4 u5:Z}(hb:w.heap[b]?=M (O #[u0,u1,u2,u3,u4,u5] T (0,0)))(hT:TyO T)(v0 v1 v2 v3 v4 v5:Z):BS B h mb k C sv tv ss ts ((((((w.setCell ⟨b,0,N⟩ v0).setCell ⟨b,1,N⟩ v1).setCell ⟨b,2,N⟩ v2).setCell ⟨b,3,N⟩ v3).setCell ⟨b,4,N⟩ v4).setCell ⟨b,5,N⟩ v5) ms mk st al av kv vs s r:=by
 have h1:=q.set hb hT 0 v0;have b1:(w.setCell ⟨b,0,N⟩ v0).heap[b]?=_:=jB hb v0;have h2:=h1.set b1 hT 1 v1;have b2:((w.setCell ⟨b,0,N⟩ v0).setCell ⟨b,1,N⟩ v1).heap[b]?=_:=jB b1 v1;have h3:=h2.set b2 hT 2 v2;have b3:(((w.setCell ⟨b,0,N⟩ v0).setCell ⟨b,1,N⟩ v1).setCell ⟨b,2,N⟩ v2).heap[b]?=_:=jB b2 v2;have h4:=h3.set b3 hT 3 v3;have b4:((((w.setCell ⟨b,0,N⟩ v0).setCell ⟨b,1,N⟩ v1).setCell ⟨b,2,N⟩ v2).setCell ⟨b,3,N⟩ v3).heap[b]?=_:=jB b3 v3;have h5:=h4.set b4 hT 4 v4;have b5:(((((w.setCell ⟨b,0,N⟩ v0).setCell ⟨b,1,N⟩ v1).setCell ⟨b,2,N⟩ v2).setCell ⟨b,3,N⟩ v3).setCell ⟨b,4,N⟩ v4).heap[b]?=_:=jB b4 v4;exact h5.set b5 hT 5 v5
theorem KQ.setX{mb:X}{C:Fr}{r r':Rv}(K:KQ B h mb C av kv r r' w w1){j:X}(hB:B<=b)(hn:w.heap.size<=b):KQ B h mb C av kv r r' w (w1.setCell ⟨b,j,N⟩ u):=
 ⟨K.bel.setCell (p:=⟨b,j,N⟩) hB _,λb' hl h1 h2 h3 h4 h5=>by rw[Dm w1 ⟨b,j,N⟩ _ b' (show b'≠b from qg)];exact K.keep b' hl h1 h2 h3 h4 h5,K.new,λg l cp cs e hb=>by
  obtain⟨N4,b1,c1⟩:=K.old g l cp cs e hb;exact⟨N4,by rw[Dm w1 ⟨b,j,N⟩ _ g (show g≠b by have:=Ag hb;omega)];exact b1,c1⟩,K.len⟩
theorem KQ.set3{mb:X}{C:Fr}{r r':Rv}(K:KQ B h mb C av kv r r' w w1)(hB:B<=b)(hn:w.heap.size<=b)(v0 v1 v2:Z):KQ B h mb C av kv r r' w (((w1.setCell ⟨b,0,N⟩ v0).setCell ⟨b,1,N⟩ v1).setCell ⟨b,2,N⟩ v2):=((K.setX hB hn).setX hB hn).setX hB hn
theorem KQ.set6{mb:X}{C:Fr}{r r':Rv}(K:KQ B h mb C av kv r r' w w1)(hB:B<=b)(hn:w.heap.size<=b)(v0 v1 v2 v3 v4 v5:Z):KQ B h mb C av kv r r' w ((((((w1.setCell ⟨b,0,N⟩ v0).setCell ⟨b,1,N⟩ v1).setCell ⟨b,2,N⟩ v2).setCell ⟨b,3,N⟩ v3).setCell ⟨b,4,N⟩ v4).setCell ⟨b,5,N⟩ v5):=(((((K.setX hB hn).setX hB hn).setX hB hn).setX hB hn).setX hB hn).setX hB hn
theorem Yv(W0:E)(h mb:X)(C:Fr)(sa ta:Option Addr)(c1 c2:X)(ss:L S2)(ts:L T2)(ms:Mm)(st:L By)(av kv:Z)(vs:By->Z)(s:Sb)(r:Rv)(nm:By)(w:E)(hE:Jf W0 sa ta ss ts)(q:Lu W0.heap.size h mb C (J sa ss.length c1) (J ta ts.length c2) ss ts w ms st av kv vs s r)(hW:Bw W0 w)(hU:Ho W0 h mb C (J sa ss.length c1) (J ta ts.length c2) ss ts st)(hP:Fq ss ts C.n ms s st r.sn 0)(cz:Ao nm):Calls prog 149 #[D (p_ h),S nm,F true] w λe w'=>Nu W0.heap.size h mb C (J sa ss.length c1) (J ta ts.length c2) ss ts ms s st av kv vs r nm (λd _=>lookV ss ts nm d) w e w':=by
 obtain⟨W,eW⟩:=Aj (w.alloc (O #[F false,I 0,ze] 191));have cj:Bw w W:=qbe;have hB:=hW.size
 have HR:Hd (W.heap[w.heap.size]?=M (O #[F false,I 0,ze] 191 (0,0))):=by
  exact qbt
 obtain⟨x0,x1,_⟩:=(q.mkr.bl cj).cells;have yx:=thing_in sa ta c1 c2 ss ts nm W0 W hE (hW.trans (cj.mono hW.size));have HB:=Ab cj;have HU:Hd (∀V,Bw w V->Calls prog 128 #[D (p_ h),S nm] V λe w'=>Nu W0.heap.size h mb C (J sa ss.length c1) (J ta ts.length c2) ss ts ms s st av kv vs r nm (λd vs'=>Ft d (vs' nm)) V e w'):=λV hV=>hU V ms nm av kv vs s r (q.bl hV) hP cz (hW.trans (hV.mono hB));have HS:=Ab q;unfold Nu lookV;obtain⟨tb,etb⟩:=Aj (Cj ss ts nm);rw[etb]at yx ⊢;have HT:=Ab yx;clear etb yx q hW hE cj hU hP cz;go_enter func149,ntmps149;go_wp2_with fail;refine HT.o.mono ?_;rintro e w3 ⟨au,rfl⟩;have iy:=Ab (Ac au HR.o);have ia:=Ab (Ay HB.o au);have hlt3:=Ag iy.o;clear au HR HT x0 x1;go_wp2_with fail;refine(HU.o w3 ia.o).mono ?_;rintro e w4 ⟨ms',s',an,bv,⟨d,av',kv',vs',r',rfl,rfl,H8,uw,ha4,hkk4,mo⟩|⟨b,v,r',rfl,rfl,hf,uw⟩⟩
 ·have q3:=HS.o.bl ia.o
  have lp:w4.heap[w.heap.size]?=M (O #[F false,I 0,ze] 191 (0,0)):=uw.blk q3 iy.o qh;have I9:Hd (KQ W0.heap.size h mb C av kv r r' w w4):=(KQ.of_below HS.o ia.o hB).trans (Am.refl _ _) (Am.refl _ _) q3 uw;have HRW:Hd (Am w av av'/\Am w kv kv'/\r'.sn+400200*Dp ts ms st<=r.sn+400200*Dp ts ms' st):=⟨λb q=>(ha4 b q).imp id (λq=>qg),λb q=>(hkk4 b q).imp id (λq=>qg),mo⟩;have D7:=Ab bv;obtain⟨dc,dt,dls⟩:=d;obtain⟨fo,efo⟩:=Aj (Bp dc dt);have EF:=Ab efo;unfold Ft;simp only[efo];obtain⟨la,ln,lc,hlv⟩:=H8.mkr.vsl nm;rw[hlv];obtain⟨V,eV⟩:=Aj (w4.alloc (O #[F true,I dc,S dt,nS,S fo,J la ln lc] 168));obtain⟨U,eU⟩:=Aj V.drew;(have be:Bw w4 U:=by rw[<- eU,<- eV];exact(Ai _ _).drew);have br:=Ab (H8.bl be);have kl:Hd (KQ W0.heap.size h mb C av kv r r' w U):=I9.o.after HRW.o.1 HRW.o.2.1 H8 be (zo I9.o.bel.size)
  have HMU:Hd (U.heap[w4.heap.size]?=M (O #[F true,I dc,S dt,nS,S fo,J la ln lc] 168 (0,0))):=by
   show _=_;rw[<- eU,<- eV];exact Bf _ _
  have nh:=Ab (Ac be lp);obtain⟨⟨m0,m1,m2,m3,m4,m5⟩,mf⟩:=Sv HMU.o;obtain⟨z0,z1,z2,zf⟩:=Ci nh.o;have hne4:¬ w4.heap.size=w.heap.size:=zo (Ag lp);clear be H8 uw lp ha4 hkk4 bv efo hlv I9 mo q3
  go_upto_region 5 with fail
  clear eV;go_region;clear eU;go_wp2_with fail;obtain⟨y0,y1,y2,_⟩:=Ci (Ba nh.o (F tb) (I dc) (S dt));refine bR (v:=Y #[G #[F tb,I dc,S dt],S (Bp dc dt)]) (by simp[results,results149,go_sem,y0,y1,y2,EF.o]) rfl ⟨ms',s',_,D7.o,Or.inl ⟨_,av',kv',vs',r',rfl,rfl,br.o.set3 nh.o qh _ _ _,kl.o.set3 qg (Nat.le_refl _) _ _ _,HRW.o.1,HRW.o.2.1,HRW.o.2.2⟩⟩
 ·unfold Lm
  dsimp only;have q3:=HS.o.bl ia.o;have I9:Hd (KQ W0.heap.size h mb C av kv r r' w w4):=(KQ.of_below HS.o ia.o hB).trans (Am.refl _ _) (Am.refl _ _) q3 uw;have ws:Hd (Az ss ts C.n ms s st (.make nm) ms' s' (.bad b)/\Dj W0.heap.size C w4 b v):=⟨bv,hf⟩;clear uw bv hf q3;go_wp2_with fail;exact⟨rfl,ms',s',_,ws.o.1,Or.inr ⟨b,v,r',rfl,rfl,ws.o.2,I9.o⟩⟩
section
open Go.Deep
theorem Nz{s x:Operand}{W:E}{ops:Array Oper}{o:Oper}{a:Act}{K:Act->E->Prop}{Q:Exit->Act->E->Prop}{AF:Prop}(uj:o.guard=N)(ho:o.op=.call { callee:=.builtin .append,args:=#[s,x],argTypes:=#[22,22] })(B:X)(sa:Option Addr)(nn cap:X)(xs:L Z)(hs:a.eval s=J sa nn cap)(ah:W.ownsRow B 9 1 (J sa nn cap) nn xs)(d:X)(t:By)(hx:a.eval x=J (p_ d) 1 1)(hc:W.heap[d]?=M (O #[S t] 9 (0,0)))(hB:B<=W.heap.size)(hn:nn<=100000)(h:∀g' aj w',w'.ownsRow B 9 1 (J (p_ g') (nn+1) aj) (nn+1) (xs++[S t])->W.grownBy w' (Value.slice sa nn cap).ownBlock->((Value.slice sa nn cap).ownBlock=M g'\/g'=W.heap.size)->K (a.put o.dst (J (p_ g') (nn+1) aj)) w'):if Region.wanted o (yielded ops a.tmps)=true then Oper.wp prog o a W K Q else AF:=by
 obtain⟨i0,hi,bq,bi,ci⟩:=info_parts Tryz.info9b
 refine step_append_lies (w:=W) uj s x 22 ho B 9 i0 ze 1 16 underlying22 hi bq bi ci rfl qh _ nn xs hs ah ⟨d,0,N⟩ 1 1 [S t] hx rfl
  (World.news_of_block (cs:=#[S t]) (t:=9) (fr:=(0,0)) hc) qak qg qq qg hB W.heap.size rfl ?_
 exact qgi
def Pc(d:Md)(v:Z):Z:=G #[F false,I d.c,S d.t,nS,ze,v]
theorem Am.less{w w1:E}{v v':Z}(h:Am w1 v v')(hs:w.heap.size<=w1.heap.size):Am w v v':=λb q=>(h b q).imp id (λq=>qg)
end
def TyB(T:TypeId):Prop:=T=165\/T=133\/T=136\/T=73\/T=4\/T=174\/T=115
section
variable {B h mb k:X} {C:Fr} {sv tv:Z} {ss:L S2} {ts:L T2} {w w':E} {ms:Mm} {mk st:L By} {al:X} {av kv:Z} {vs:By->Z} {s:Sb} {r:Rv}
theorem BS.kept(q:BS B h mb k C sv tv ss ts w ms mk st al av kv vs s r)(hc:∀(b:X)(cs:Array Z)(T:TypeId),TyB T->w.heap[b]?=M (O cs T (0,0))->w'.heap[b]?=M (O cs T (0,0)))(hm:w'.heap[mb]?=w.heap[mb]?)(hs:w'.heap[C.sb]?=w.heap[C.sb]?)(h9:∀(b:X)(cs:Array Z),(av.ownBlock=M b\/kv.ownBlock=M b\/Lc C r b)->w.heap[b]?=M (O cs 9 (0,0))->w'.heap[b]?=M (O cs 9 (0,0))):BS B h mb k C sv tv ss ts w' ms mk st al av kv vs s r:=by
 obtain⟨xs,e,ha⟩:=q.mkr.ask;refine⟨q.mkr.kept ?_,q.rs.kept ?_ (λb cs T hT hb=>hc b cs T (by rcases hT with e|e<;>simp[TyB,e]) hb)⟩
 ·rintro b (rfl|rfl|o|o)
  ·rw[q.mkr.blk];exact hc _ _ 165 (by simp[TyB]) q.mkr.blk
  ·exact hm
  ·obtain⟨cs,c1⟩:=Bd ha b o;rw[c1];exact h9 b cs (Or.inl o) c1
  ·obtain⟨cs,c1⟩:=Bd q.mkr.stk b o;rw[c1];exact h9 b cs (Or.inr (Or.inl o)) c1
 ·intro b o
  have o0:=o
  rcases o with rfl|rfl|rfl|⟨u,hu,o⟩
  ·rw[q.rs.bd];exact hc _ _ 133 (by simp[TyB]) q.rs.bd
  ·rw[q.rs.sh];exact hc _ _ 136 (by simp[TyB]) q.rs.sh
  ·exact hs
  ·obtain⟨_,cs,T,c1,c2⟩:=q.rs.rowT hu o
   rw[c1]
   rcases c2 with rfl|rfl|rfl
   ·exact h9 b cs (Or.inr (Or.inr o0)) c1
   ·exact hc b cs 73 (by simp[TyB]) c1
   ·exact hc b cs 4 (by simp[TyB]) c1
end
def ownW(r:Rv)(b:X):Prop:=∃u∈Ol r,u.ownBlock=M b
theorem Lj.row9{mb:X}{C:Fr}{r:Rv}(k:Lj B h mb C ss ts w ms s av kv r)(hb:w.heap[b]?=M (O cs 9 (0,0)))(o:Lc C r b):ownW r b:=by
 obtain⟨f,f1,_⟩:=k.sn
 rcases o with rfl|rfl|rfl|o
 ·exact qmx
 ·exact qmw
 ·exact absurd hb (λq=>f1.notCells q)
 ·exact o
structure RB (W0:E) (h mb:X) (C:Fr) (sv tv cd:Z) (ss:L S2) (ts:L T2) (is:L I3) (w:E) (ms:Mm) (s:Sb) (st:L By) (av kv:Z) (r:Rv) (Bm m T AM R:X)
 (ys:L R3) (ls:L G3) (m1:Mm) (s1:Sb) (av1 kv1:Z) (vs1:By->Z) (r1:Rv) (lv:Z) (ov:Bool) (c:Int) (t:By) (ask:Bool) (nm:By) (stp:Int) (wr:E):Prop where
 ma:Lu W0.heap.size h mb C sv tv ss ts wr m1 st av1 kv1 vs1 s1 r1
 pre:Fq ss ts C.n m1 s1 st r1.sn (200-ys.length)
 ln:ys.length<=200
 ro:Gq is ys ls
 lok:Oq ls
 dd:∀ms' s' a,Az ss ts C.n m1 s1 st (.run is ys ls) ms' s' a->Az ss ts C.n ms s st (.run is [] []) ms' s' a
 sn:r1.sn+400200*Dp ts ms st<=r.sn+400200*Dp ts m1 st
 gn:Gn is ys Bm m T cd ov c t ask nm stp wr
 tb:wr.heap[AM]?=M (O #[F ov,I c,S t,F ask,S nm,I stp] 187 (0,0))
 rb:wr.heap[R]?=M (O #[I 0,ze,nS] 65 (0,0))
 lo:wr.ownsRow w.heap.size 194 3 lv ls.length (Pv ls)
 kp:KQ W0.heap.size h mb C av kv r r1 w wr
 ra:Am w av av1
 rk:Am w kv kv1
 no:ov=false->∀b,(av1.ownBlock=M b\/kv1.ownBlock=M b\/ownW r1 b)->Fz wr m b
structure RCB (W0:E) (h mb:X) (C:Fr) (w:E) (Bm m T AM R:X):Prop where
 h1:W0.heap.size<=w.heap.size
 h2:h<w.heap.size
 h3:mb<w.heap.size
 h9:C.sb<w.heap.size
 h4:w.heap.size<=Bm
 h5:AM≠T
 h6:w.heap.size<=AM
 h7:w.heap.size<=R
 h8:AM≠m
section
variable {W0:E} {h mb:X} {C:Fr} {sv tv cd:Z} {ss:L S2} {ts:L T2} {is:L I3} {w:E} {ms:Mm} {s:Sb} {st:L By} {av kv:Z} {r:Rv} {Bm m T AM R:X}
 {ys:L R3} {ls:L G3} {m1:Mm} {s1:Sb} {av1 kv1:Z} {vs1:By->Z} {r1:Rv} {lv:Z} {ov:Bool} {c:Int} {t:By} {ask:Bool} {nm:By} {stp:Int} {wr:E}
theorem RB.bl{w':E}(q:RB W0 h mb C sv tv cd ss ts is w ms s st av kv r Bm m T AM R ys ls m1 s1 av1 kv1 vs1 r1 lv ov c t ask nm stp wr)(hb:Bw wr w')(hB:W0.heap.size<=wr.heap.size):RB W0 h mb C sv tv cd ss ts is w ms s st av kv r Bm m T AM R ys ls m1 s1 av1 kv1 vs1 r1 lv ov c t ask nm stp w':=
 ⟨q.ma.bl hb,q.pre,q.ln,q.ro,q.lok,q.dd,q.sn,q.gn.bl hb,Ac hb q.tb,Ac hb q.rb,Ad q.lo hb,q.kp.after q.ra q.rk q.ma hb hB,q.ra,q.rk,λe b o=>(q.no e b o).congr (hb.block m q.gn.2.2.2.1)⟩
theorem RB.looked{w':E}{av2 kv2:Z}{r2:Rv}(q:RB W0 h mb C sv tv cd ss ts is w ms s st av kv r Bm m T AM R ys ls m1 s1 av1 kv1 vs1 r1 lv false c t ask nm stp wr)(AJ:RCB W0 h mb C w Bm m T AM R)(hk:KQ W0.heap.size h mb C av1 kv1 r1 r2 wr w')(ha:Am wr av1 av2)(jg:Am wr kv1 kv2):Gn is ys Bm m T cd false c t ask nm stp w'/\w'.heap[AM]?=M (O #[F false,I c,S t,F ask,S nm,I stp] 187 (0,0))/\w'.heap[R]?=M (O #[I 0,ze,nS] 65 (0,0))/\w'.ownsRow w.heap.size 194 3 lv ls.length (Pv ls)/\KQ W0.heap.size h mb C av kv r r2 w w'/\Am w av av2/\Am w kv kv2/\(∀b,(av2.ownBlock=M b\/kv2.ownBlock=M b\/ownW r2 b)->Fz w' m b):=by
 have de:=hk.bel.size;have hsw:=q.kp.bel.size;obtain⟨n,_,hm⟩:=q.ma.mkr.map;obtain⟨jz,v,mcs,hmb,In,du⟩:=q.gn.mach;have keep:∀(b:X)(cs:Array Z)(T':TypeId),TyO T'->wr.heap[b]?=M (Obj.cells cs T' (0,0))->w'.heap[b]?=wr.heap[b]?:=λb cs T' k1 hb=>by rw[hk.blk q.ma hb k1,hb]
 have hmk:w'.heap[m]?=wr.heap[m]?:=keep m _ 251 qh hmb;have ip:=q.no rfl
 have U1:∀b,v.ownBlock=M b->w'.heap[b]?=wr.heap[b]?:=λb o=>by
  obtain⟨q1,q2,cur,q3⟩:=du b o;have:=AJ.h2;have:=AJ.h4;exact hk.keep b q2 qg (λe=>hm.notCells (e▸q3)) (λe=>ip b (Or.inl e) v In o.symm) (λe=>ip b (Or.inr (Or.inl e)) v In o.symm) (λe=>ip b (Or.inr (Or.inr (q.ma.rs.row9 q3 e))) v In o.symm)
 have hc0':w'.cell? ⟨m,0,N⟩=M v:=by rw[Ce hmk];exact In
 refine⟨q.gn.kept (keep T _ 187 qh q.gn.1) hmk de (λv' b e o=>?_),by rw[keep AM _ 187 qh q.tb];exact q.tb,by rw[keep R _ 65 qh q.rb];exact q.rb,An q.lo (λb o=>?_),q.kp.trans q.ra q.rk q.ma hk,q.ra.trans hsw ha,q.rk.trans hsw jg,λb o v' e e2=>?_⟩
 ·rw[In]at e;cases e;exact U1 b o
 ·obtain⟨_,cur,hh⟩:=Dh q.lo o
  exact keep b _ 194 qh hh
 ·rw[hc0']at e;cases e
  have q3:=du b e2.symm
  rcases o with o|o|o
  ·rcases ha b o with q1|q1
   ·exact ip b (Or.inl q1) v In e2
   ·omega
  ·rcases jg b o with q1|q1
   ·exact ip b (Or.inr (Or.inl q1)) v In e2
   ·omega
  ·obtain⟨_,_,cur,q4⟩:=q3
   rcases hk.new b (Or.inr (Or.inr (Or.inr o)))with q1|q1
   ·exact ip b (Or.inr (Or.inr (q.ma.rs.row9 q4 q1))) v In e2
   ·have:=Ag q4;omega
theorem RB.appd{w2:E}{o:Obj}{g cp:X}(AJ:RCB W0 h mb C w Bm m T AM R)(q:Lu W0.heap.size h mb C sv tv ss ts wr m1 st av1 kv1 vs1 s1 r1)(gn:Gn is ys Bm m T cd ov c t ask nm stp wr)(lo:wr.ownsRow w.heap.size 194 3 lv ls.length (Pv ls))(kp:KQ W0.heap.size h mb C av kv r r1 w wr)(hg:(wr.alloc o).grownBy w2 lv.ownBlock)(hl:lv.ownBlock=M g\/g=wr.heap.size+1):Lu W0.heap.size h mb C sv tv ss ts w2 m1 st av1 kv1 vs1 s1 r1/\Gn is ys Bm m T cd ov c t ask nm stp w2/\KQ W0.heap.size h mb C av kv r r1 w w2/\(∀(b:X)(cs:Array Z)(T':X),T'≠194->wr.heap[b]?=M (Obj.cells cs T' (0,0))->w2.heap[b]?=wr.heap[b]?):=by
 have wz:∀b,b<wr.heap.size->lv.ownBlock≠M b->w2.heap[b]?=wr.heap[b]?:=λb h1 h2=>by rw[hg.block b qj (λe=>h2 e.symm),Lib.alloc_old _ _ _ h1]
 have hsw:=kp.bel.size;have de:wr.heap.size<=w2.heap.size:=by have:=hg.size;simp at this;omega
 have keep:∀(b:X)(cs:Array Z)(T':X),T'≠194->wr.heap[b]?=M (Obj.cells cs T' (0,0))->w2.heap[b]?=wr.heap[b]?:=λb cs T' k1 hb=>wz b (Ag hb) (Ae lo k1 hb);obtain⟨n,_,hm⟩:=q.mkr.map;obtain⟨f,f1,_⟩:=q.rs.sn;refine⟨q.kept (λb cs T' hT hb=>?_) (wz _ hm.lt (Kc lo hm)) (wz _ f1.lt (λe=>?_)) (λb cs _ hb=>?_),?_,⟨?_,?_,kp.new,?_,kp.len⟩,keep⟩
 ·rw[keep b cs T' (by rcases hT with e|e|e|e|e|e|e<;>rw[e]<;>decide) hb];exact hb
 ·obtain⟨_,cur,hh⟩:=Dh lo e
  exact f1.notCells hh
 ·rw[keep b cs 9 qh hb];exact hb
 ·refine⟨by rw[keep T _ 187 qh gn.1];exact gn.1,gn.2.1,gn.2.2.1,Nat.lt_of_lt_of_le gn.2.2.2.1 de,gn.2.2.2.2.mono λss' pl' ri lk' hk=>hk.kept ?_ ?_⟩
  ·obtain⟨_,v,k1,_⟩:=hk
   unfold Hp at k1;exact keep m _ 251 qh k1
  ·intro v' b e q
   obtain⟨_,v,k1,k2⟩:=hk;unfold Hp at k1;rw[cH k1]at e;(have e':v'=v:=by simpa using e.symm);subst e';obtain⟨_,cur,hh⟩:=Dh k2 q;exact keep b _ 9 qh hh
 ·have h1:=AJ.h1
  refine kp.bel.trans (((Below.refl _ wr).alloc qg o).grown hg qj (λb q=>?_));have:=(lo.lt b q).1;omega
 ·intro b h1 h2 h3 h4 h5 h6
  rw[wz b qg (λe=>by have:=(lo.lt b e).1;omega)];exact kp.keep b h1 h2 h3 h4 h5 h6
 ·intro g l cp cs e hb
  obtain⟨N4,b1,c1⟩:=kp.old g l cp cs e hb;exact⟨N4,by rw[keep g N4 73 qh b1];exact b1,c1⟩
theorem RB.went{w6:E}{n:X}{xs:L Z}{v0 v1 v2 v3 v4 v5:Z}(AJ:RCB W0 h mb C w Bm m T AM R)(q:Lu W0.heap.size h mb C sv tv ss ts wr m1 st av1 kv1 vs1 s1 r1)(jz:Bm<=m)(hBT:Bm<=T)(lo:wr.ownsRow w.heap.size 194 3 lv n xs)(tb:wr.heap[AM]?=M (O #[v0,v1,v2,v3,v4,v5] 187 (0,0)))(rb:wr.heap[R]?=M (O #[I 0,ze,nS] 65 (0,0)))(kp:KQ W0.heap.size h mb C av kv r r1 w wr)(no:∀b,(av1.ownBlock=M b\/kv1.ownBlock=M b\/ownW r1 b)->Fz wr m b)(hTt:∃cs,wr.heap[T]?=M (O cs 187 (0,0)))(hmt:∃cs,wr.heap[m]?=M (O cs 251 (0,0)))(hb:Below Bm wr w6)(hk:∀(b:X)(cs:Array Z)(X':X),X'≠9->b≠m->b≠T->wr.heap[b]?=M (Obj.cells cs X' (0,0))->w6.heap[b]?=M (O cs X' (0,0)))(ho:∀(b:X)(cs:Array Z)(X':X),b≠m->b≠T->Fz wr m b->wr.heap[b]?=M (Obj.cells cs X' (0,0))->w6.heap[b]?=M (O cs X' (0,0))/\Fz w6 m b):Lu W0.heap.size h mb C sv tv ss ts w6 m1 st av1 kv1 vs1 s1 r1/\w6.ownsRow w.heap.size 194 3 lv n xs/\w6.heap[AM]?=M (O #[v0,v1,v2,v3,v4,v5] 187 (0,0))/\w6.heap[R]?=M (O #[I 0,ze,nS] 65 (0,0))/\KQ W0.heap.size h mb C av kv r r1 w w6/\(∀b,(av1.ownBlock=M b\/kv1.ownBlock=M b\/ownW r1 b)->Fz w6 m b):=by
 obtain⟨tcs,hTt⟩:=hTt;obtain⟨mcs,hmt⟩:=hmt;have c1:=AJ.h1;have c2:=AJ.h2;have c3:=AJ.h3;have c4:=AJ.h4;have c9:=AJ.h9
 have ty:∀(b:X)(cs cs':Array Z)(A A':X),A≠A'->wr.heap[b]?=M (Obj.cells cs A (0,0))->wr.heap[b]?≠M (Obj.cells cs' A' (0,0)):=λb cs cs' A A' hne q1 q2=>by
  rw[q1]at q2;injection q2 with q2;injection q2 with _ q2;exact hne q2
 have kT:∀(b:X)(cur:Array Z)(A:TypeId),A≠9->A≠251->A≠187->wr.heap[b]?=M (Obj.cells cur A (0,0))->w6.heap[b]?=M (O cur A (0,0)):=λb cur A n1 n2 n3 hh=>
  hk b cur A n1 (λe=>ty b _ _ A 251 n2 hh (e▸hmt)) (λe=>ty b _ _ A 187 n3 hh (e▸hTt)) hh
 have k9:∀(b:X)(cs:Array Z),(av1.ownBlock=M b\/kv1.ownBlock=M b\/Lc C r1 b)->wr.heap[b]?=M (O cs 9 (0,0))->w6.heap[b]?=M (O cs 9 (0,0)):=λb cs o hh=>
  (ho b cs 9 (λe=>ty b _ _ 9 251 qh hh (e▸hmt)) (λe=>ty b _ _ 9 187 qh hh (e▸hTt)) (no b (o.imp id (λo=>o.imp id (λo=>q.rs.row9 hh o)))) hh).1
 refine⟨q.kept (λb cs T' hT hh=>kT b cs T' (by rcases hT with e|e|e|e|e|e|e<;>rw[e]<;>decide) (by rcases hT with e|e|e|e|e|e|e<;>rw[e]<;>decide) (by rcases hT with e|e|e|e|e|e|e<;>rw[e]<;>decide) hh) (hb.block _ qg) (hb.block _ qg) k9,An lo (λb o=>?_),hk AM _ 187 qh AJ.h8 AJ.h5 tb,kT R _ 65 qh qh qh rb,⟨kp.bel.trans (hb.mono qg),λb q1 q2 q3 q4 q5 q6=>?_,kp.new,λg l cp cs e hg=>?_,kp.len⟩,λb o=>?_⟩
 ·obtain⟨_,cur,hh⟩:=Dh lo o
  rw[kT b cur 194 qh qh qh hh,hh]
 ·rw[hb.block b qg]
  exact kp.keep b q1 q2 q3 q4 q5 q6
 ·obtain⟨N4,b1,d1⟩:=kp.old g l cp cs e hg
  exact⟨N4,kT g N4 73 qh qh qh b1,d1⟩
 ·have bv:∃cs T',wr.heap[b]?=M (Obj.cells cs T' (0,0)):=by
   obtain⟨ys,ey,ha⟩:=q.mkr.ask
   rcases o with o|o|⟨u,hu,o⟩
   ·obtain⟨cs,c1⟩:=Bd ha b o;exact⟨cs,_,c1⟩
   ·obtain⟨cs,c1⟩:=Bd q.mkr.stk b o;exact⟨cs,_,c1⟩
   ·obtain⟨_,cs,T',c1,_⟩:=q.rs.rowT hu o;exact⟨cs,T',c1⟩
  obtain⟨cs,T',bv⟩:=bv
  have hne:∀(A:TypeId)(cs':Array Z),TyO A->wr.heap[b]?≠M (Obj.cells cs' A (0,0)):=λA cs' hA hh=>by
   have q9:=q.noneA hh hA
   rcases o with o|o|o
   ·exact q9.2.2.1 o
   ·exact q9.2.2.2.1 o
   ·exact q9.2.2.2.2 (Or.inr (Or.inr (Or.inr o)))
  exact(ho b cs T' (λe=>hne 251 _ qh (e▸hmt)) (λe=>hne 187 _ qh (e▸hTt)) (no b o) bv).2
theorem RB.turned{u0 u1 u2 u3 u4 u5:Z}(AJ:RCB W0 h mb C w Bm m T AM R)(q:Lu W0.heap.size h mb C sv tv ss ts wr m1 st av1 kv1 vs1 s1 r1)(hp:Fq ss ts C.n m1 s1 st r1.sn (200-ys.length))(E5:ys.length<=200)(hr:Gq is ys ls)(vp:Oq ls)(hd:∀ms' s' a,Az ss ts C.n m1 s1 st (.run is ys ls) ms' s' a->Az ss ts C.n ms s st (.run is [] []) ms' s' a)(mo:r1.sn+400200*Dp ts ms st<=r.sn+400200*Dp ts m1 st)(gn:Gn is ys Bm m T cd ov c t ask nm stp wr)(tb:wr.heap[AM]?=M (O #[u0,u1,u2,u3,u4,u5] 187 (0,0)))(rb:wr.heap[R]?=M (O #[I 0,ze,nS] 65 (0,0)))(lo:wr.ownsRow w.heap.size 194 3 lv ls.length (Pv ls))(kp:KQ W0.heap.size h mb C av kv r r1 w wr)(ra:Am w av av1)(rk:Am w kv kv1)(no:∀b,(av1.ownBlock=M b\/kv1.ownBlock=M b\/ownW r1 b)->Fz wr m b):RB W0 h mb C sv tv cd ss ts is w ms s st av kv r Bm m T AM R ys ls m1 s1 av1 kv1 vs1 r1 lv ov c t ask nm stp ((((((wr.setCell ⟨AM,0,N⟩ (F ov)).setCell ⟨AM,1,N⟩ (I c)).setCell ⟨AM,2,N⟩ (S t)).setCell ⟨AM,3,N⟩ (F ask)).setCell ⟨AM,4,N⟩ (S nm)).setCell ⟨AM,5,N⟩ (I stp)):=by
 have c2:=AJ.h2;have c6:=AJ.h6;have c1:=AJ.h1;have ne:∀b',b'≠AM->((((((wr.setCell ⟨AM,0,N⟩ (F ov)).setCell ⟨AM,1,N⟩ (I c)).setCell ⟨AM,2,N⟩ (S t)).setCell ⟨AM,3,N⟩ (F ask)).setCell ⟨AM,4,N⟩ (S nm)).setCell ⟨AM,5,N⟩ (I stp)).heap[b']?=wr.heap[b']?:=λb' q=>Fm q _ _ _ _ _ _;refine⟨q.set6 tb qh _ _ _ _ _ _,hp,E5,hr,vp,hd,mo,?_,Il tb _ _ _ _ _ _,?_,An lo (λb q=>ne b (λe=>Ae lo qh tb (e▸q))),kp.set6 qg c6 _ _ _ _ _ _,ra,rk,λ_ b q=>(no b q).congr (ne m (λe=>AJ.h8 e.symm))⟩
 ·refine⟨by rw[ne T (λe=>AJ.h5 e.symm)];exact gn.1,gn.2.1,gn.2.2.1,Nat.lt_of_lt_of_le gn.2.2.2.1 (Ij (Below.refl 0 wr) (Nat.zero_le _) _ _ _ _ _ _).size,gn.2.2.2.2.mono λss' pl' ri lk' hk=>hk.kept (ne m (λe=>AJ.h8 e.symm)) ?_⟩
  intro v' b e q;obtain⟨_,v,k1,k2⟩:=hk;unfold Hp at k1;rw[cH k1]at e;(have e':v'=v:=by simpa using e.symm);subst e';exact ne b (λe=>Ae k2 qh tb (e▸q))
 ·rw[ne R (λe=>by subst e;rw[tb]at rb;injection rb with rb;injection rb with _ rb;exact absurd rb qh)];exact rb
end
structure NB (W0:E) (h mb:X) (C:Fr) (sv tv cd:Z) (ss:L S2) (ts:L T2) (is:L I3) (w:E) (ms:Mm) (s:Sb) (st:L By) (av kv:Z) (r:Rv) (Bm m T AM R:X)
 (ys:L R3) (ls:L G3) (m1:Mm) (s1:Sb) (av1 kv1:Z) (vs1:By->Z) (r1:Rv) (lv:Z) (c:Int) (t:By) (ask:Bool) (nm:By) (stp:Int) (y y':R3) (f:By) (wr:E):Prop where
 ma:Lu W0.heap.size h mb C sv tv ss ts wr m1 st av1 kv1 vs1 s1 r1
 pre:Fq ss ts C.n m1 s1 st r1.sn (200-(ys++[y']).length)
 ln:(ys++[y']).length<=200
 ro:Gq is (ys++[y']) (ls++[⟨nm,ask,f⟩])
 lok:Oq (ls++[⟨nm,ask,f⟩])
 dd:∀ms' s' a,Az ss ts C.n m1 s1 st (.run is (ys++[y']) (ls++[⟨nm,ask,f⟩])) ms' s' a->Az ss ts C.n ms s st (.run is [] []) ms' s' a
 sn:r1.sn+400200*Dp ts ms st<=r.sn+400200*Dp ts m1 st
 gn:Gn is ys Bm m T cd false c t ask nm stp wr
 tb:wr.heap[AM]?=M (O #[F false,I c,S t,F ask,S nm,I stp] 187 (0,0))
 rb:wr.heap[R]?=M (O #[I 0,ze,nS] 65 (0,0))
 lo:wr.ownsRow w.heap.size 194 3 lv ls.length (Pv ls)
 kp:KQ W0.heap.size h mb C av kv r r1 w wr
 ra:Am w av av1
 rk:Am w kv kv1
 no:∀b,(av1.ownBlock=M b\/kv1.ownBlock=M b\/ownW r1 b)->Fz wr m b
 yt:y.text.size<=2000
 yy:∀nm s,Fe ask nm y s=Fe ask nm y' s
theorem NB.bl{W0:E}{mb:X}{C:Fr}{cd:Z}{r:Rv}{Bm AM R:X}{m1:Mm}{s1:Sb}{av1 kv1:Z}{vs1:By->Z}{r1:Rv}{c:Int}{ask:Bool}{stp:Int}{y y':R3}{wr:E}(q:NB W0 h mb C sv tv cd ss ts is w ms s st av kv r Bm m T AM R ys ls m1 s1 av1 kv1 vs1 r1 lv c t ask nm stp y y' f wr)(hb:Bw wr w')(hB:W0.heap.size<=wr.heap.size):NB W0 h mb C sv tv cd ss ts is w ms s st av kv r Bm m T AM R ys ls m1 s1 av1 kv1 vs1 r1 lv c t ask nm stp y y' f w':=
 ⟨q.ma.bl hb,q.pre,q.ln,q.ro,q.lok,q.dd,q.sn,q.gn.bl hb,Ac hb q.tb,Ac hb q.rb,Ad q.lo hb,q.kp.after q.ra q.rk q.ma hb hB,q.ra,q.rk,λb o=>(q.no b o).congr (hb.block m q.gn.2.2.2.1),q.yt,q.yy⟩
theorem lookB_any(W0:E)(h mb:X)(C:Fr)(sa ta:Option Addr)(c1 c2:X)(cd:Z)(ss:L S2)(ts:L T2)(is:L I3)(w:E)(ms:Mm)(s:Sb)(st:L By)(av kv:Z)(r:Rv)(Bm m T AM R:X)(ys:L R3)(ls:L G3)(m1:Mm)(s1:Sb)(av1 kv1:Z)(vs1:By->Z)(r1:Rv)(lv:Z)(c:Int)(t:By)(ask:Bool)(nm:By)(stp:Int)(wr:E)(hE:Jf W0 sa ta ss ts)(hU:Ho W0 h mb C (J sa ss.length c1) (J ta ts.length c2) ss ts st)(hW:Bw W0 wr)(AJ:RCB W0 h mb C w Bm m T AM R)(q:RB W0 h mb C (J sa ss.length c1) (J ta ts.length c2) cd ss ts is w ms s st av kv r Bm m T AM R ys ls m1 s1 av1 kv1 vs1 r1 lv false c t ask nm stp wr):Calls prog 149 #[D (p_ h),S nm,F ask] wr λe w'=>(∃m2 s2 av2 kv2 vs2 r2 y y' f,e=H (Y #[G #[F y.has,I y.code,S y.text],S f])/\NB W0 h mb C (J sa ss.length c1) (J ta ts.length c2) cd ss ts is w ms s st av kv r Bm m T AM R ys ls m2 s2 av2 kv2 vs2 r2 lv c t ask nm stp y y' f w')\/(∃b v r' ms' s',e=Lm v/\KQ W0.heap.size h mb C av kv r r' w w'/\Az ss ts C.n ms s st (.run is [] []) ms' s' (.bad b)/\Dj W0.heap.size C w' b v):=by
 obtain⟨n,jb⟩:∃n,Ck is ys Mx (.wait ask nm n):=by
  rcases q.gn.2.2.2.2.full with⟨o,_⟩|⟨_,n,o⟩
  ·cases o
  ·exact⟨n,o⟩
 obtain⟨ai,cz⟩:=q.ro.wait jb;have hB:=hW.size
 cases ask with
 | false=>
   refine(Yu W0 h mb 0 C sa ta c1 c2 ss ts m1 st st (m1.length+st.length) av1 kv1 vs1 s1 r1 nm wr hE q.ma hW).mono ?_;rintro e w' ⟨rfl,hb⟩;have q':=q.bl hb hB;exact Or.inl ⟨m1,s1,av1,kv1,vs1,r1,⟨Cj ss ts nm,0,⟨#[]⟩⟩,⟨Cj ss ts nm,0,⟨#[]⟩⟩,Cz (Cj ss ts nm),rfl,q'.ma,q.pre.le qj,qj,q.ro.has _ _,q.lok.snoc cz (Ig _),λms' s' a k=>q.dd _ _ _ (.has jb k),q.sn,q'.gn,q'.tb,q'.rb,q'.lo,q'.kp,q'.ra,q'.rk,q'.no rfl,(by decide:(⟨#[]⟩:By).size<=2000),λ_ _=>rfl⟩
 | true=>
   refine(Yv W0 h mb C sa ta c1 c2 ss ts m1 st av1 kv1 vs1 s1 r1 nm wr hE q.ma hW hU (q.pre.le qg) cz).mono ?_;rintro e w' ⟨ms',s',an,bv,⟨d,av',kv',vs',r',rfl,rfl,hs,hk,ha,jg,mo⟩|⟨b,v,r',rfl,rfl,hf,hk⟩⟩
   ·obtain⟨g1,g2,g3,g4,g5,g6,g7,g8⟩:=q.looked AJ hk ha jg
    obtain⟨hi2,_,_,hfd⟩:=bv.inv hE.v q.pre.inv q.pre.ok cz (λb e=>qw);have Q6:=hi2.done nm d hfd;have hps:=q.pre.step hE.v bv cz (λb e=>qw) rfl (d:=1) (by simp[Pq]) qg (by omega:r'.sn+400200*Dp ts m1 st<=r1.sn+1+400200*Dp ts ms' st);refine Or.inl ⟨ms',s',av',kv',vs',r',⟨Cj ss ts nm,d.c,d.t⟩,Xf ss ts nm d,Bp d.c d.t,rfl,hs,hps.le qj,qj,q.ro.asked Q6 _,q.lok.snoc cz (Dx Q6.t2),λms'' s'' a k=>q.dd _ _ _ (.asked jb bv k),by have:=q.sn;omega,g1,g2,g3,g4,g5,g6,g7,g8,Q6.t2,?_⟩;intro nm' s;unfold Xf Fe
    cases Cj ss ts nm<;>simp
   ·exact Or.inr ⟨b,v,r',ms',s',rfl,q.kp.trans q.ra q.rk q.ma hk,q.dd _ _ _ (.askbad jb bv),hf⟩
def RunB(B h mb:X)(C:Fr)(sv tv:Z)(ss:L S2)(ts:L T2)(ms:Mm)(s:Sb)(st:L By)(av kv:Z)(r:Rv)(is:L I3)(w:E)(e:Ending)(w':E):Prop:=
 (∃ms1 s1 ys ls c t AB lv av' kv' vs' r',e=H (Y #[lv,G #[I c,S t,nS]])/\(∃a n cc,lv=J a n cc)/\Ck is ys Mx (.over c t AB)/\Gq is ys ls/\ys.length<=200/\Oq ls/\(∀ce s2 a,Az ss ts C.n ms1 s1 st (.run is ys ls) ce s2 a->Az ss ts C.n ms s st (.run is [] []) ce s2 a)/\Fq ss ts C.n ms1 s1 st r'.sn 0/\r'.sn+400200*Dp ts ms st<=r.sn+400200*Dp ts ms1 st/\Lu B h mb C sv tv ss ts w' ms1 st av' kv' vs' s1 r'/\KQ B h mb C av kv r r' w w'/\Am w av av'/\Am w kv kv'/\Ml w' B lv ls/\∀b,lv.ownBlock=M b->w.heap.size<=b)\/
 (∃b v r' ms' s',e=Lm v/\KQ B h mb C av kv r r' w w'/\Az ss ts C.n ms s st (.run is [] []) ms' s' (.bad b)/\Dj B C w' b v)
theorem runB_any(W0:E)(h mb:X)(C:Fr)(sa ta a:Option Addr)(c1 c2 cap:X)(ss:L S2)(ts:L T2)(is:L I3)(tn:By)(ms:Mm)(s:Sb)(st:L By)(av kv:Z)(vs:By->Z)(r:Rv)(w:E)(hE:Jf W0 sa ta ss ts)(hU:Ho W0 h mb C (J sa ss.length c1) (J ta ts.length c2) ss ts st)(q:Lu W0.heap.size h mb C (J sa ss.length c1) (J ta ts.length c2) ss ts w ms st av kv vs s r)(hp:Fq ss ts C.n ms s st r.sn 200)(hW:Bw W0 w)(hr:Cn W0 a is)(hv:Av is=true)(hT:Mv W0)(hP:Pg W0):Calls prog 125 #[D (p_ h),G #[S tn,J a is.length cap]] w λe w'=>RunB W0.heap.size h mb C (J sa ss.length c1) (J ta ts.length c2) ss ts ms s st av kv r is w e w':=by
 have gh:=hW.size
 have hhw:=Ag q.mkr.blk
 obtain⟨n0,_,hmap0⟩:=q.mkr.map
 have Id:=hmap0.lt
 obtain⟨f0,f1,f2⟩:=q.rs.sn
 have hsw:=f1.lt
 obtain⟨W,eW⟩:=Aj (((w.alloc (O #[S tn,J a is.length cap] 123)).alloc (O #[I 0,ze,nS] 65)))
 have ak:Bw w W:=qby
 have lm:Hd (W.heap[w.heap.size+1]?=M (O #[I 0,ze,nS] 65 (0,0))):=by
  show _=_;rw[<- eW];have h:=Bf (w.alloc (O #[S tn,J a is.length cap] 123)) (O #[I 0,ze,nS] 65);rw[show(w.alloc (O #[S tn,J a is.length cap] 123)).heap.size=w.heap.size+1 from qi]at h;exact h
 have k1:W.cell? ⟨w.heap.size,1,N⟩=M (J a is.length cap):=qas
 have py:=Ab ak
 have lh:=hW.trans (ak.mono gh)
 have HBG:=Ab (begin_any a cap is W (hT.bl lh) (hP.bl lh) (hr.bl lh) hv)
 have HS:=Ab q
 have HU:=Ab hU
 have HE:=Ab hE
 have HW:=Ab hW
 have HRW:=Ab hr
 have HV:=Ab hv
 have rd:Hd (Mv W0/\Pg W0):=⟨hT,hP⟩
 have HI:=Ab hp
 clear hU q hp hW hr hv hT hP ak lh hmap0 hE f1 f2
 go_enter func125,ntmps125
 go_wp2_with fail
 refine HBG.o.mono ?_
 rintro e w2 ⟨af,Bm,m,T,ov,c,t,ask,nm,stp,yw,hBw2,rfl,hgn⟩
 unfold Bc
 dsimp only
 obtain⟨V,eV⟩:=Aj (w2.alloc (O #[F ov,I c,S t,F ask,S nm,I stp] 187))
 have pw:Bw w2 V:=by rw[<- eV];exact Ai _ _
 have hsW:=py.o.size
 have HC:Hd (RCB W0 h mb C w Bm m T w2.heap.size (w.heap.size+1)):=⟨gh,hhw,Id,hsw,qg,by have:=Ag hgn.1;omega,by have:=af.size;omega,qg,by have:=hgn.2.2.2.1;omega⟩
 have HRI:Hd (RB W0 h mb C (J sa ss.length c1) (J ta ts.length c2) (J a is.length cap) ss ts is w ms s st av kv r Bm m T w2.heap.size (w.heap.size+1) [] [] ms s av kv vs r nS ov c t ask nm stp V):=by
  have cq:=Ay (Ay py.o af) pw;have hg:=hgn.bl pw;refine⟨HS.o.bl cq,HI.o,qi,⟨HV.o,λi hi=>Wl,rfl⟩,λg hg=>by simp at hg,λ_ _ _ k=>k,Nat.le_refl _,hg,?_,Ac pw (Ac af lm.o),⟨rfl,Or.inl ⟨rfl,rfl⟩⟩,KQ.of_below HS.o cq gh,Am.refl _ _,Am.refl _ _,?_⟩
  ·rw[<- eV];exact Bf _ _
  ·rintro rfl b q v e q2;obtain⟨_,v',_,_,e',du⟩:=hg.mach;rw[e]at e';cases e';have q3:=(du b q2.symm).1
   have q4:b<w.heap.size:=by
    rcases q with q|q|q
    ·exact HS.o.ownA.1 b q
    ·exact HS.o.ownA.2 b q
    ·exact(HS.o.rs.lt (Or.inr (Or.inr (Or.inr q)))).2
   omega
 have J3:Hd (2<Bm):=by have:=rd.o.2.two;have:=HC.o.h4;show _<_;omega
 clear af hgn pw HI HS lm k1 HBG
 go_wp2_with fail
 go_loopw [6] (λv wr=>∃(ys:L R3)(ls:L G3)(m1:Mm)(s1:Sb)(av1 kv1:Z)(vs1:By->Z)(r1:Rv)(la:Option Addr)(lc:X)(ov:Bool)(c:Int)(t:By)(ask:Bool)(nm:By)(stp:Int),v=J la ls.length lc/\Hd (RB W0 h mb C (J sa ss.length c1) (J ta ts.length c2) (J a is.length cap) ss ts is w ms s st av kv r Bm m T w2.heap.size (w.heap.size+1) ys ls m1 s1 av1 kv1 vs1 r1 (J la ls.length lc) ov c t ask nm stp wr)) (λv _=>201-lenV v)
 case atStart=>exact⟨[],[],ms,s,av,kv,vs,r,N,0,ov,c,t,ask,nm,stp,rfl,HRI.o⟩
 case round=>
  clear HRI;obtain⟨ys,ls,m1,s1,av1,kv1,vs1,r1,la,lc,ov,c,t,ask,nm,stp,rfl,HR⟩:=hrel;obtain⟨x0,x1,x2,x3,x4,x5,xf⟩:=Gb HR.o.tb
  cases ov with
  | true=>
   obtain⟨n,jb⟩:∃n,Ck is ys Mx (.over c t n):=by
    rcases HR.o.gn.2.2.2.2.full with⟨_,n,q⟩|⟨q,_⟩
    ·exact⟨n,q⟩
    ·cases q
   have HDN:=Ab jb;clear jb;obtain⟨U,eU⟩:=Aj wr.drew;have be:Bw wr U:=qbc;have nh:=HR.o.bl be (zo HR.o.kp.bel.size);obtain⟨y0,y1,y2,y3,y4,y5,yf⟩:=Gb nh.tb;obtain⟨z0,z1,z2,zf⟩:=Ci nh.rb;have Ge:=Ab nh;clear be nh
   go_upto_region 7 with fail
   go_region;clear eU;go_wp2_with fail;have hR:=Ge.o;obtain⟨v0,v1,v2,_⟩:=Ci (Ba hR.rb (I c) (S t) nS);exact bR (v:=Y #[J la ls.length lc,G #[I c,S t,nS]]) (by simp[results,results125,go_sem,v0,v1,v2]) rfl (Or.inl ⟨m1,s1,ys,ls,c,t,n,_,av1,kv1,vs1,r1,rfl,⟨la,ls.length,lc,rfl⟩,HDN.o,hR.ro,hR.ln,hR.lok,hR.dd,hR.pre.le (Nat.zero_le _),hR.sn,hR.ma.set3 hR.rb qh _ _ _,hR.kp.set3 qg qg _ _ _,hR.ra,hR.rk,(looks_of hR.lo gh).keptB (λb q=>Ea (λe=>by subst e;exact Ae hR.lo qh hR.rb q) _ _ _),λb q=>(hR.lo.lt b q).1⟩)
  | false=>
   obtain⟨rfl,rfl⟩:c=0/\t=⟨#[]⟩:=by
    rcases HR.o.gn.2.2.2.2 with⟨q,_⟩|⟨_,q1,q2,_⟩
    ·cases q
    ·exact⟨q1,q2⟩
   have HLE:Hd (ls.length<200):=by
    obtain⟨n,jb⟩:∃n,Ck is ys Mx (.wait ask nm n):=by
     rcases HR.o.gn.2.2.2.2.full with⟨q,_⟩|⟨_,n,q⟩
     ·cases q
     ·exact⟨n,q⟩
    have h1:=(HR.o.ro.wait jb).1;have h2:=HR.o.ro.eq;show _<_;omega
   have hl200:=HLE.o;have HL:=lookB_any W0 h mb C sa ta c1 c2 (J a is.length cap) ss ts is w ms s st av kv r Bm m T w2.heap.size (w.heap.size+1) ys ls m1 s1 av1 kv1 vs1 r1 (J la ls.length lc) 0 ⟨#[]⟩ ask nm stp wr HE.o HU.o (HW.o.trans (HR.o.kp.bel)) HC.o HR.o;clear HR;go_wp2_with fail;refine HL.mono ?_;clear x0 x1 x2 x3 x4 x5 xf HL;rintro e w3 (⟨m2,s2,av2,kv2,vs2,r2,⟨yh,yc,yt⟩,y',f,rfl,hN⟩|⟨b,v,r',ms',s',rfl,Q7,o8,hv⟩)
   ·dsimp only;obtain⟨V3,eV3⟩:=Aj (w3.alloc (O #[F yh,I yc,S yt] 191));(have au:Bw w3 V3:=by rw[<- eV3];exact Ai _ _);have hw3:=hN.kp.bel.size;have HN:Hd (NB W0 h mb C (J sa ss.length c1) (J ta ts.length c2) (J a is.length cap) ss ts is w ms s st av kv r Bm m T w2.heap.size (w.heap.size+1) ys ls m2 s2 av2 kv2 vs2 r2 (J la ls.length lc) 0 ⟨#[]⟩ ask nm stp ⟨yh,yc,yt⟩ y' f V3):=hN.bl au qg
    have HY:Hd (V3.heap[w3.heap.size]?=M (O #[F yh,I yc,S yt] 191 (0,0))):=by
     show _=_;rw[<- eV3];exact Bf _ _
    have hV3:=au.size;obtain⟨x0,x1,x2,x3,x4,x5,xf⟩:=Gb HN.o.tb;obtain⟨i0,zr,bq,bi,ci⟩:=info_parts Tryz.info194;have D1:Hd (∀o:Obj,(V3.alloc o).ownsRow w.heap.size 194 3 (J la ls.length lc) ls.length (Pv ls)):=λo=>HN.o.lo.alloc o;clear au hN
    go_upto_region 6 with(at_builtin;refine wpList_append_lies _ rfl (.tmp 29) (.tmp 36) 166 rfl w.heap.size 194 i0 (G #[ze,F false,ze]) 3 40 underlying166 zr bq bi ci rfl qh _ ls.length (Pv ls) rfl (D1.o _) ⟨V3.heap.size,0,N⟩ 1 1 [S nm,F ask,S f] rfl rfl (Ps _ _ _ _ _) (by intro u hu;simp at hu;rcases hu with rfl|rfl|rfl<;>rfl) qg qq qg qj (V3.heap.size+1) qi ?_;intro g5 cp5 w5 gw vq hl5 hlt5)
    clear x0 x1 x2 x3 x4 x5 xf;obtain⟨s5,gn5,kp5,D9⟩:=RB.appd (cp:=cp5) HC.o HN.o.ma HN.o.gn HN.o.lo HN.o.kp vq hl5;(have tb5:w5.heap[w2.heap.size]?=M (O #[F false,I 0,ze,F ask,S nm,I stp] 187 (0,0)):=by rw[D9 _ _ 187 qh HN.o.tb];exact HN.o.tb);(have rb5:w5.heap[w.heap.size+1]?=M (O #[I 0,ze,nS] 65 (0,0)):=by rw[D9 _ _ 65 qh HN.o.rb];exact HN.o.rb);(have yb5:w5.heap[w3.heap.size]?=M (O #[F yh,I yc,S yt] 191 (0,0)):=by rw[D9 _ _ 191 qh HY.o];exact HY.o);obtain⟨hBm5,mv5,mcs5,hmb5,hmc5,hmr5⟩:=HN.o.gn.mach;have hm5:w5.heap[m]?=V3.heap[m]?:=D9 m _ 251 qh hmb5;have no5:∀b,(av2.ownBlock=M b\/kv2.ownBlock=M b\/ownW r2 b)->Fz w5 m b:=λb q=>(HN.o.no b q).congr hm5;have hbW5:=HW.o.trans kp5.bel
    have HGO:Hd (Calls prog 165 #[G #[F yh,I yc,S yt],D (p_ m),D (p_ T)] w5 _):=goOn_any Bm m T is a cap ys ask nm stp ⟨yh,yc,yt⟩ y' w5 gn5 (by have:=Ag gn5.1;have:=gn5.2.2.1;omega) J3.o ⟨HRW.o.bl hbW5,λb off e=>by
     have h1:=(Ef HV.o).1;obtain⟨b',bz,e',q1,_,_⟩:=HRW.o 0 qg;rw[e]at e';cases e';have q2:b<W0.heap.size:=World.block_lt_of_cell? _ _ q1;have:=HC.o.h4;omega⟩ (rd.o.1.bl hbW5) (rd.o.2.bl hbW5) HV.o HN.o.yt HN.o.yy
    obtain⟨rr0,rr1,rr2,_⟩:=Ci yb5;have HG5:Hd (Bm<=m/\Bm<=T/\(∃cs,w5.heap[T]?=M (O cs 187 (0,0)))/\∃cs,w5.heap[m]?=M (O cs 251 (0,0))):=⟨hBm5,gn5.2.2.1,⟨_,gn5.1⟩,⟨mcs5,by rw[hm5];exact hmb5⟩⟩;have S3:=Ab gw;have iq:=Ab s5;have HT5:=Ab tb5;have X8:=Ab rb5;have HK5:=Ab kp5;have HNO5:=Ab no5;clear s5 gn5 kp5 D9 tb5 rb5 yb5 hm5 no5 hbW5 gw vq hl5 hlt5 hmb5 hmc5 hmr5 hBm5 D1 HY;go_wp2_with fail;refine HGO.o.mono ?_;rintro e w6 ⟨⟨bj,it⟩,ho6,ov',c',t',jp,nm',ri,rfl,hg6⟩;obtain⟨s6,lo6,tb6,rb6,kp6,no6⟩:=RB.went (wr:=w5) HC.o iq.o HG5.o.1 HG5.o.2.1 S3.o HT5.o X8.o HK5.o HNO5.o HG5.o.2.2.1 HG5.o.2.2.2 bj it ho6;obtain⟨j0,j1,j2,j3,j4,j5,jf⟩:=Gb tb6;have HFIN:Hd (RB W0 h mb C (J sa ss.length c1) (J ta ts.length c2) (J a is.length cap) ss ts is w ms s st av kv r Bm m T w2.heap.size (w.heap.size+1) (ys++[y']) (ls++[⟨nm,ask,f⟩]) m2 s2 av2 kv2 vs2 r2 (J (p_ g5) (ls.length+1) cp5) ov' c' t' jp nm' ri _):=RB.turned HC.o s6 HN.o.pre HN.o.ln HN.o.ro HN.o.lok HN.o.dd HN.o.sn hg6 tb6 rb6 (by rw[List.length_append,List.length_singleton,gC_snoc];exact lo6) kp6 HN.o.ra HN.o.rk no6;unfold Bc;dsimp only;clear bj it ho6 hg6 s6 lo6 tb6 rb6 kp6 no6 HGO rr0 rr1 rr2;go_wp2_with fail;refine⟨⟨ys++[y'],ls++[⟨nm,ask,f⟩],m2,s2,av2,kv2,vs2,r2,p_ g5,cp5,ov',c',t',jp,nm',ri,qi,?_⟩,by simp[lenV];omega⟩;rw[List.length_append,List.length_singleton];exact HFIN.o
   ·unfold Lm;dsimp only;have ws:Hd (KQ W0.heap.size h mb C av kv r r' w w3/\Az ss ts C.n ms s st (.run is [] []) ms' s' (.bad b)/\Dj W0.heap.size C w3 b v):=⟨Q7,o8,hv⟩;clear Q7 o8 hv;go_wp2_with fail;exact⟨rfl,Or.inr ⟨b,v,r',ms',s',rfl,ws.o.1,ws.o.2.1,ws.o.2.2⟩⟩
def Wg(ss:L S2)(ts:L T2)(n:X)(st:L By)(ms:Mm)(s:Sb)(x:By)(y:Bool)(ms':Mm)(s':Sb)(f:By):Prop:=
 (y=false/\ms'=ms/\s'=s/\f=Cz (Cj ss ts x))\/(y=true/\∃d,Az ss ts n ms s st (.make x) ms' s' (.ok d)/\f=Bp d.c d.t)
theorem Wg.said(hv:Xv ss ts)(h:Wg ss ts n st ms s x y ms' s' f)(hi:Gs ss ts ms st)(hs:Fy n s)(hn:Ao x):Kb ss ts ms' x y=M f/\Ext ms ms'/\f.size<=2002:=by
 rcases h with⟨rfl,rfl,rfl,rfl⟩|⟨rfl,d,hb,rfl⟩
 ·exact⟨rfl,Ext.refl _,Ig _⟩
 ·obtain⟨k1,k2,k3,k4⟩:=hb.inv hv hi hs hn (λb e=>qw)
  refine⟨?_,k3.ex,Dx (k1.done x d k4).t2⟩;unfold Kb;rw[if_pos rfl,show fd ms' x=M d from k4];rfl
theorem Wg.of_said(h:Kb ss ts ms x y=M f):Wg ss ts n st ms s x y ms s f:=by
 unfold Kb at h
 cases y with
 | false=>simp only[Bool.false_eq_true,if_false,Option.some.injEq]at h;exact Or.inl ⟨rfl,rfl,rfl,h.symm⟩
 | true=>
   simp only[if_true]at h
   cases hf:fd ms x with
   | none=>rw[hf]at h;cases h
   | some d=>
     rw[hf]at h;simp only[Option.map_some,Option.some.injEq]at h;exact Or.inr ⟨rfl,d,.known hf,h.symm⟩
theorem Wg.pre{c:X}(hv:Xv ss ts)(h:Wg ss ts n st ms s x y ms' s' f)(hp:Fq ss ts n ms s st sn c)(hn:Ao x)(hc:1<=c)(mo:sn'+400200*Dp ts ms st<=sn+1+400200*Dp ts ms' st):Fq ss ts n ms' s' st sn' (c-1):=by
 rcases h with⟨rfl,rfl,rfl,rfl⟩|⟨rfl,d,hb,rfl⟩
 ·have h1:=hp.ml
  have h2:=hp.sl;exact⟨hp.inv,hp.ok,qg,hp.cn,qg⟩
 ·exact hp.step hv hb hn (λb e=>qw) rfl (by simp[Pq]) hc mo
def SeeB(B h mb:X)(C:Fr)(sv tv:Z)(ss:L S2)(ts:L T2)(ms:Mm)(s:Sb)(st:L By)(av kv:Z)(r:Rv)(x:By)(y:Bool)(dn:X)(rt:By->Z->Prop)(w:E)(e:Ending)(w':E):Prop:=
 (∃v,e=H v/\∃ms' s' f av' kv' vs' r',rt f v/\Wg ss ts C.n st ms s x y ms' s' f/\Lu B h mb C sv tv ss ts w' ms' st av' kv' vs' s' r'/\KQ B h mb C av kv r r' w w'/\Am w av av'/\Am w kv kv'/\r'.sn+400200*Dp ts ms st<=r.sn+dn+400200*Dp ts ms' st)\/
 (∃v,e=Lm v/\∃b r' ms' s',KQ B h mb C av kv r r' w w'/\(y=true/\Az ss ts C.n ms s st (.make x) ms' s' (.bad b))/\Dj B C w' b v)
theorem lookB_see(W0:E)(h mb:X)(C:Fr)(sa ta:Option Addr)(c1 c2:X)(ss:L S2)(ts:L T2)(ms:Mm)(st:L By)(av kv:Z)(vs:By->Z)(s:Sb)(r:Rv)(x:By)(y:Bool)(w:E)(hE:Jf W0 sa ta ss ts)(q:Lu W0.heap.size h mb C (J sa ss.length c1) (J ta ts.length c2) ss ts w ms st av kv vs s r)(hW:Bw W0 w)(hU:Ho W0 h mb C (J sa ss.length c1) (J ta ts.length c2) ss ts st)(hP:Fq ss ts C.n ms s st r.sn 0)(cz:Ao x):Calls prog 149 #[D (p_ h),S x,F y] w λe w'=>SeeB W0.heap.size h mb C (J sa ss.length c1) (J ta ts.length c2) ss ts ms s st av kv r x y 0 (λf v=>∃b c t,v=Y #[G #[F b,I c,S t],S f]) w e w':=by
 cases y with
 | false=>
   refine(Yu W0 h mb 0 C sa ta c1 c2 ss ts ms st st (ms.length+st.length) av kv vs s r x w hE q hW).mono ?_;rintro e w' ⟨rfl,hb⟩;exact Or.inl ⟨_,rfl,ms,s,_,av,kv,vs,r,⟨_,_,_,rfl⟩,Or.inl ⟨rfl,rfl,rfl,rfl⟩,q.bl hb,KQ.of_below q hb hW.size,Am.refl _ _,Am.refl _ _,Nat.le_refl _⟩
 | true=>
   refine(Yv W0 h mb C sa ta c1 c2 ss ts ms st av kv vs s r x w hE q hW hU hP cz).mono ?_;rintro e w' ⟨ms',s',an,bv,⟨d,av',kv',vs',r',rfl,rfl,hs,hk,ha,jg,mo⟩|⟨b,v,r',rfl,rfl,hf,hk⟩⟩
   ·exact Or.inl ⟨_,rfl,ms',s',_,av',kv',vs',r',⟨_,_,_,rfl⟩,Or.inr ⟨rfl,d,bv,rfl⟩,hs,hk,ha,jg,mo⟩
   ·exact Or.inr ⟨v,rfl,b,r',ms',s',hk,⟨rfl,bv⟩,hf⟩
theorem step_call3P{f:X}{xi yi zi:X}{t1 t2 t3:TypeId}{o:Oper}{a:Act}{K:Act->E->Prop}(uj:o.guard=N)(ho:o.op=.call { callee:=.value (.func f),args:=#[.tmp xi,.tmp yi,.tmp zi],argTypes:=#[t1,t2,t3] })(v1 v2 v3:Z)(hx:a.eval (.tmp xi)=v1)(hy:a.eval (.tmp yi)=v2)(hz:a.eval (.tmp zi)=v3){P R:Z->E->Prop}(hc:Calls prog f #[v1,v2,v3] W λe w'=>(∃v,e=H v/\P v w')\/(∃v,e=Lm v/\R v w'))(hfn:∀W:E,(callFunc f #[v1,v2,v3]).run prog W=.ok (.enter f #[v1,v2,v3]) W)(h:∀v w',P v w'->K (a.put o.dst v) w')(hp:∀v w',R v w'->Q (.panic [{ v:=.iface 206 v,recovered:=false }]) a w'):if Region.wanted o (yielded ops a.tmps)=true then Oper.wp prog o a W K Q else AF:=by
 have hw:Region.wanted o (yielded ops a.tmps)=true:=qbm
 have kw:(execOp a.eval o).run prog W=.ok (.enter f #[v1,v2,v3]) W:=by
  unfold execOp;rw[ho];simp[Act.eval]at hx hy hz;simp[go_sem,Act.eval,hx,hy,hz];exact hfn W
 rw[if_pos hw];unfold Oper.wp;rw[kw,Oper.upon_enter];refine hc.mono ?_;rintro e w' (⟨v,rfl,hq⟩|⟨v,rfl,hq⟩)
 ·exact h v w' hq
 ·exact hp v w' hq
section
variable {B h mb k:X} {C:Fr} {sv tv:Z} {ss:L S2} {ts:L T2} {w w':E} {ms:Mm} {mk st:L By} {al:X} {av kv:Z} {vs:By->Z} {s s':Sb} {r r':Rv}
theorem BS.upd(q:BS B h mb k C sv tv ss ts w ms mk st al av kv vs s r)(hb:Below B w w')(hk:∀b,b<w.heap.size->¬ Lc C r b->w'.heap[b]?=w.heap[b]?)(rs:Lj B h mb C ss ts w' ms s' av kv r')(hn:∀b,Lc C r' b->Lc C r b\/w.heap.size<=b)(ho:Lr r.qv w w')(hl:slen r.qv<=slen r'.qv):BS B h mb k C sv tv ss ts w' ms mk st al av kv vs s' r'/\KQ B h mb C av kv r r' w w':=
 ⟨⟨q.mkr.kr q.rs hk,rs⟩,⟨hb,λb hl _ _ _ _ h5=>hk b hl h5,hn,ho,hl⟩⟩
open Classical in
theorem BS.seen(q:BS B h mb k C sv tv ss ts w ms mk st al av kv vs s r)(hB:B<=w.heap.size){x f:By}{y:Bool}{g:By->Bool->Option ByteArray}(hg:Rx ss ts C.n ms g)(hs:Kb ss ts ms x y=M f)(hm:Kq w' C.sb (r.sn+1) (λx' y'=>if x'=x/\y'=y then M (Ap C.n f) else g x' y'))(hw:w.grownBy w' (M C.sb)):BS B h mb k C sv tv ss ts w' ms mk st al av kv vs s ⟨r.tx,r.su,r.qv,r.nv,r.ev,r.uv,r.dv,r.sn+1⟩/\KQ B h mb C av kv r ⟨r.tx,r.su,r.qv,r.nv,r.ev,r.uv,r.dv,r.sn+1⟩ w w':=by
 obtain⟨f0,m0,m1⟩:=q.rs.sn
 have hsb:∀b cs T,w.heap[b]?=M (Obj.cells cs T (0,0))->w'.heap[b]?=M (Obj.cells cs T (0,0)):=λb cs T hb=>by
  rw[hw.block b (Ag hb) (λe=>by injection e with e;subst e;exact m0.notCells hb)];exact hb
 have kk:∀ {e sz n:X} {u:Z} {ys:L Z},w.ownsRow B e sz u n ys->w'.ownsRow B e sz u n ys:=λho=>An ho λb o=>by
  obtain⟨cs,c1⟩:=Bd ho b o;rw[c1];exact hsb b cs _ c1
 obtain⟨xs,u1,u9⟩:=q.rs.us;obtain⟨ys,d1,d2⟩:=q.rs.df;refine q.upd ((Below.refl B w).grown hw hB (λb e=>by injection e with e;subst e;exact q.rs.lb.2.2.1)) (λb hb ho=>hw.block b hb (λe=>ho (Or.inr (Or.inr (Or.inl qax))))) ?_ (λb o=>Or.inl o) (Lr.same λb o=>?_) (Nat.le_refl _)
 ·refine⟨q.rs.lb,q.rs.wd,hsb _ _ _ q.rs.bd,hsb _ _ _ q.rs.sh,⟨_,hm,?_⟩,kk q.rs.tx,kk q.rs.su,q.rs.qs.kept (λb o=>?_) (λb cs T _ hb=>hsb b cs T hb),kk q.rs.ran,kk q.rs.held,⟨xs,kk u1,u9⟩,⟨ys,kk d1,d2⟩,q.rs.ud,q.rs.ap⟩
  ·intro x' y' v e
   dsimp only at e
   by_cases hxy:x'=x/\y'=y
   ·rw[if_pos hxy]at e
    obtain⟨rfl,rfl⟩:=hxy;cases e;exact⟨f,hs,rfl⟩
   ·rw[if_neg hxy]at e
    exact hg x' y' v e
  ·exact qmc
 ·exact qmc
end
theorem Lg{v1 v2:Z}(h:w.heap[b]?=M (O #[v1,v2] T (0,0))):w.cell? ⟨b,0,N⟩=M v1/\w.cell? ⟨b,1,N⟩=M v2/\∀j,w.frozen? ⟨b,j,N⟩=false:=by
 refine⟨?_,?_,λj=>fH h j⟩<;>rw[cH h]<;>rfl
theorem Lj.cellsB{mb:X}{C:Fr}{r:Rv}(k:Lj B h mb C ss ts w ms s av kv r):w.cell? ⟨C.hb,0,N⟩=M (D (p_ C.hs))/\w.cell? ⟨C.hb,1,N⟩=M r.nv/\w.cell? ⟨C.hb,2,N⟩=M r.ev/\w.cell? ⟨C.hb,3,N⟩=M r.uv/\w.cell? ⟨C.hb,10,N⟩=M (D (p_ h))/\w.cell? ⟨C.hb,11,N⟩=M (.map (M C.sb))/\w.cell? ⟨C.hb,12,N⟩=M r.dv/\(∀j,w.frozen? ⟨C.hb,j,N⟩=false)/\w.cell? ⟨C.hs,0,N⟩=M (I C.n)/\w.cell? ⟨C.hs,1,N⟩=M r.tx/\w.cell? ⟨C.hs,2,N⟩=M r.qv/\w.cell? ⟨C.hs,3,N⟩=M r.su/\∀j,w.frozen? ⟨C.hs,j,N⟩=false:=by
 refine⟨?_,?_,?_,?_,?_,?_,?_,λj=>fH k.bd j,?_,?_,?_,?_,λj=>fH k.sh j⟩
 all_goals first|(rw[cH k.bd];rfl)|(rw[cH k.sh];rfl)
def Bo(w:E)(l:L (X×X×Z)):E:=l.foldl (λw x=>w.setCell ⟨x.1,x.2.1,N⟩ x.2.2) w
theorem Fb{b:X}:∀(l:L (X×X×Z)) (w:E),(∀x∈l,b≠x.1)->(Bo w l).heap[b]?=w.heap[b]?
 | [],w,_=>rfl
 | x::l,w,h=>by
   show(Bo (w.setCell ⟨x.1,x.2.1,N⟩ x.2.2) l).heap[b]?=_;rw[Fb l _ (λy hy=>h y (List.mem_cons_of_mem _ hy)),Dm w ⟨x.1,x.2.1,N⟩ _ b (h x (List.mem_cons_self ..))]
theorem Bg{B:X}{w:E}:∀(l:L (X×X×Z)) (w':E),Below B w w'->(∀x∈l,B<=x.1)->Below B w (Bo w' l)
 | [],w',h,_=>h
 | x::l,w',h,k=>Bg l _ (h.setCell (p:=⟨x.1,x.2.1,N⟩) (k x (List.mem_cons_self ..)) _) (λy hy=>k y (List.mem_cons_of_mem _ hy))
theorem De{b T:X}:∀(l:L (X×X×Z)) (w:E) (cs:Array Z),(∀x∈l,x.1=b)->w.heap[b]?=M (O cs T (0,0))->(Bo w l).heap[b]?=M (O (l.foldl (λa x=>a.setIfInBounds x.2.1 x.2.2) cs) T (0,0))
 | [],w,cs,_,h=>h
 | x::l,w,cs,hx,h=>by
   show(Bo (w.setCell ⟨x.1,x.2.1,N⟩ x.2.2) l).heap[b]?=_;obtain rfl:x.1=b:=hx x (List.mem_cons_self ..);exact De l _ _ (λy hy=>hx y (List.mem_cons_of_mem _ hy)) (jB h x.2.2)
theorem Fg(w:E)(o:Obj):(w.alloc o).heap[w.heap.size]?=M o:=Bf w o
theorem Ro{o o':Obj}(h:w.heap[b]?=M o):(w.alloc o').heap[b]?=M o:=by
 rw[Lib.alloc_old _ _ _ (by rcases Nat.lt_or_ge b w.heap.size with k|k;exact k;rw[Array.getElem?_eq_none k]at h;cases h)];exact h
theorem Nd(h:X)(a0 a1 a2 a3 a4 a5 a6 a7 a8 z0 z1 z2 z3 z4 z5 z6 z7 z8 z9:Z)(c:Int)(t AM AK:By)(ca:Option Addr)(cn cc:X)(w:E)(hk:w.heap[h]?=M (O #[a0,a1,a2,a3,a4,a5,a6,a7,a8,F false,z0,z1,z2,z3,z4,z5,z6,z7,z8,z9] 63 (0,0))):Calls prog 81 #[D (p_ h),G #[I c,S t,J ca cn cc,I 0,nS,nS,nS,nS,S AM,S AK]] w λe w'=>e=H (G #[I c,ze,nS])/\Below h w w'/\(∀b,b<w.heap.size->b≠h->w'.heap[b]?=w.heap[b]?)/\w'.heap[h]?=M (O #[a0,a1,a2,a3,a4,a5,a6,a7,a8,F true,I c,S t,J ca cn cc,I 0,nS,nS,nS,nS,S AM,S AK] 63 (0,0)):=by
 have ai:h<w.heap.size:=by rcases Nat.lt_or_ge h w.heap.size with k|k;exact k;rw[Array.getElem?_eq_none k]at hk;cases hk
 obtain⟨W,eW⟩:=Aj ((w.alloc (O #[I c,S t,J ca cn cc,I 0,nS,nS,nS,nS,S AM,S AK] 55)).alloc (O #[I 0,ze,nS] 65));have hW:Hd (Bw w W):=by show Below _ _ _;rw[←eW];exact(aN _ _).alloc qi _
 have HB:Hd (W.heap[w.heap.size]?=M (O #[I c,S t,J ca cn cc,I 0,nS,nS,nS,nS,S AM,S AK] 55 (0,0))):=qhd
 have HR:Hd (W.heap[w.heap.size+1]?=M (O #[I 0,ze,nS] 65 (0,0))):=by
  show _=_;rw[←eW];have:=Fg (w.alloc (O #[I c,S t,J ca cn cc,I 0,nS,nS,nS,nS,S AM,S AK] 55)) (O #[I 0,ze,nS] 65)
  rwa [show(w.alloc (O #[I c,S t,J ca cn cc,I 0,nS,nS,nS,nS,S AM,S AK] 55)).heap.size=w.heap.size+1 from qi]at this
 have HK:Hd (W.heap[h]?=M (O #[a0,a1,a2,a3,a4,a5,a6,a7,a8,F false,z0,z1,z2,z3,z4,z5,z6,z7,z8,z9] 63 (0,0))):=by show _=_;rw[hW.out.block h ai];exact hk
 have k9:=cK HK.o 9;have k10:=cK HK.o 10;have T6:=cK HK.o 11;have T5:=cK HK.o 12;have k13:=cK HK.o 13;have k14:=cK HK.o 14;have k15:=cK HK.o 15;have k16:=cK HK.o 16;have k17:=cK HK.o 17;have k18:=cK HK.o 18;have k19:=cK HK.o 19;have kf:=fZ HK.o;obtain⟨b0,b1,b2,b3,b4,b5,b6,b7,b8,b9⟩:=Et HB.o;obtain⟨r0,r1,r2⟩:=ck3 HR.o;have rf:=fZ HR.o;have hne2:h≠w.heap.size+1:=qg;clear hk;go_enter func81,ntmps81;go_wp2;have hL1:∀x∈([(h,9,F true),(h,10,I c),(h,11,S t),(h,12,J ca cn cc),(h,13,I 0),(h,14,nS),(h,15,nS),(h,16,nS),(h,17,nS),(h,18,S AM),(h,19,S AK)]:L (X×X×Z)),x.1=h:=qi;have hL2:∀x∈([(w.heap.size+1,0,I c),(w.heap.size+1,1,ze),(w.heap.size+1,2,nS)]:L (X×X×Z)),x.1=w.heap.size+1:=qi;have e1:=De _ W _ hL1 HK.o;have e2:=Fb (b:=h) [(w.heap.size+1,0,I c),(w.heap.size+1,1,ze),(w.heap.size+1,2,nS)] (Bo W [(h,9,F true),(h,10,I c),(h,11,S t),(h,12,J ca cn cc),(h,13,I 0),(h,14,nS),(h,15,nS),(h,16,nS),(h,17,nS),(h,18,S AM),(h,19,S AK)]) (λx hx=>by rw[hL2 x hx];exact hne2);have h1:Below h w (Bo (Bo W [(h,9,F true),(h,10,I c),(h,11,S t),(h,12,J ca cn cc),(h,13,I 0),(h,14,nS),(h,15,nS),(h,16,nS),(h,17,nS),(h,18,S AM),(h,19,S AK)]) [(w.heap.size+1,0,I c),(w.heap.size+1,1,ze),(w.heap.size+1,2,nS)]):=Bg [(w.heap.size+1,0,I c),(w.heap.size+1,1,ze),(w.heap.size+1,2,nS)] (Bo W [(h,9,F true),(h,10,I c),(h,11,S t),(h,12,J ca cn cc),(h,13,I 0),(h,14,nS),(h,15,nS),(h,16,nS),(h,17,nS),(h,18,S AM),(h,19,S AK)]) (Bg [(h,9,F true),(h,10,I c),(h,11,S t),(h,12,J ca cn cc),(h,13,I 0),(h,14,nS),(h,15,nS),(h,16,nS),(h,17,nS),(h,18,S AM),(h,19,S AK)] W (hW.out.mono qg) (λx hx=>by rw[hL1 x hx];exact Nat.le_refl _)) (λx hx=>by rw[hL2 x hx];omega);have h2:∀b,b<w.heap.size->b≠h->(Bo (Bo W [(h,9,F true),(h,10,I c),(h,11,S t),(h,12,J ca cn cc),(h,13,I 0),(h,14,nS),(h,15,nS),(h,16,nS),(h,17,nS),(h,18,S AM),(h,19,S AK)]) [(w.heap.size+1,0,I c),(w.heap.size+1,1,ze),(w.heap.size+1,2,nS)]).heap[b]?=w.heap[b]?:=λb hb hbh=>((Fb (b:=b) [(w.heap.size+1,0,I c),(w.heap.size+1,1,ze),(w.heap.size+1,2,nS)] (Bo W [(h,9,F true),(h,10,I c),(h,11,S t),(h,12,J ca cn cc),(h,13,I 0),(h,14,nS),(h,15,nS),(h,16,nS),(h,17,nS),(h,18,S AM),(h,19,S AK)]) (λx hx=>by rw[hL2 x hx];omega)).trans (Fb (b:=b) [(h,9,F true),(h,10,I c),(h,11,S t),(h,12,J ca cn cc),(h,13,I 0),(h,14,nS),(h,15,nS),(h,16,nS),(h,17,nS),(h,18,S AM),(h,19,S AK)] W (λx hx=>by rw[hL1 x hx];exact hbh))).trans (hW.out.block b hb);rw[e1]at e2;simp only[List.foldl_cons,List.foldl_nil,List.setIfInBounds_toArray,List.set_cons_zero,List.set_cons_succ]at e2;obtain⟨V,eV⟩:=Aj (Bo (Bo W [(h,9,F true),(h,10,I c),(h,11,S t),(h,12,J ca cn cc),(h,13,I 0),(h,14,nS),(h,15,nS),(h,16,nS),(h,17,nS),(h,18,S AM),(h,19,S AK)]) [(w.heap.size+1,0,I c),(w.heap.size+1,1,ze),(w.heap.size+1,2,nS)]);rw[eV]at e2 h1 h2;simp only[Bo,List.foldl_cons,List.foldl_nil]at eV;rw[eV]
 have hV:V.cell? ⟨w.heap.size+1,0,N⟩=M (I c)/\V.cell? ⟨w.heap.size+1,1,N⟩=M ze/\V.cell? ⟨w.heap.size+1,2,N⟩=M nS:=by
  rw[←eV];simp[go_sem,r0,r1,r2]
 obtain⟨v0,v1,v2⟩:=hV;exact bR (v:=G #[I c,ze,nS]) (by simp[results,results81,go_sem,v0,v1,v2]) rfl ⟨rfl,h1,h2,e2⟩
theorem has_any(h:X)(sa ta:Option Addr)(c1 c2:X)(ss:L S2)(ts:L T2)(nm:By)(w:E)(k0:w.cell? ⟨h,0,N⟩=M (J sa ss.length c1))(k1:w.cell? ⟨h,1,N⟩=M (J ta ts.length c2))(rs:Kn w sa ss)(rt:Km w ta ts)(hl:ss.length<=1048576)(M2:ts.length<=1048576):Calls prog 112 #[D (p_ h),S nm] w λe w'=>Bw w w'/\e=H (F (Cj ss ts nm)):=by
 have HS:=Ab rs
 have HT:=Ab rt
 clear rs rt
 go_enter func112,ntmps112
 go_wp2_with fail
 refine(Sl sa ta ts.length c1 c2 ss nm _ HS.o hl).mono ?_
 rintro e w1 ⟨ag,hr⟩
 have j0:=Aa ag k0
 have j1:=Aa ag k1
 rcases hr with⟨i,rfl,hi,e1⟩|⟨rfl,hn⟩
 ·have HO:Hd (Cj ss ts nm=true):=Se (Or.inl (e1▸Hl hi));clear hi e1 k0 k1;go_wp2_with fail;go_ret;exact⟨ag,by rw[HO.o];rfl⟩
 ·have HN:Hd (¬ El (Au ss) nm):=hn;clear hn k0 k1;go_wp2_with fail;refine(Sk sa ta ss.length c1 c2 ts nm _ (HT.o.bl ag) M2).mono ?_;rintro e w2 ⟨af,hr⟩;have bg:=bt ag af
  rcases hr with⟨i,rfl,hi,e1⟩|⟨rfl,hn⟩
  ·have HO:Hd (Cj ss ts nm=true):=Se (Or.inr (e1▸Ir hi));clear hi e1;go_wp2_with fail;go_ret;exact⟨bg,by rw[HO.o];rfl⟩
  ·have HO:Hd (Cj ss ts nm=false):=Zp (λh=>h.elim HN.o hn);clear hn;go_wp2_with fail;go_ret;exact⟨bg,by rw[HO.o];rfl⟩
theorem Tryz.info131x:(prog.info? 67).map (λi=>(i.zero,i.size,i.bytes))=M (M (G #[ze,I 0,ze,nS,I 0]),5,72):=qk
theorem step_appM{s x:Operand}{o:Oper}{a:Act}{K:Act->E->Prop}(uj:o.guard=N)(ho:o.op=.call { callee:=.builtin .append,args:=#[s,x],argTypes:=#[61,61] })(B:X)(v:Z)(nn:X)(xs:L Z)(hs:a.eval s=v)(ah:W.ownsRow B 67 5 v nn xs)(d:X)(u0 u1 u2 u3 u4:Z)(hx:a.eval x=J (p_ d) 1 1)(hc:W.heap[d]?=M (O #[u0,u1,u2,u3,u4] 67 (0,0)))(h1:∀u∈[u0,u1,u2,u3,u4],u.oneCell'=true)(hB:B<=W.heap.size)(hn:nn<=1000000000000)(h:∀g' aj w',w'.ownsRow B 67 5 (J (p_ g') (nn+1) aj) (nn+1) (xs++[u0,u1,u2,u3,u4])->W.grownBy w' v.ownBlock->(v.ownBlock=M g'\/g'=W.heap.size)->K (a.put o.dst (J (p_ g') (nn+1) aj)) w'):if Region.wanted o (yielded ops a.tmps)=true then Oper.wp prog o a W K Q else AF:=by
 obtain⟨i0,hi,bq,bi,ci⟩:=info_parts Tryz.info131x
 refine step_append_lies (w:=W) uj s x 61 ho B 67 i0 (G #[ze,I 0,ze,nS,I 0]) 5 72 underlying61 hi bq bi ci rfl qh _ nn xs hs ah ⟨d,0,N⟩ 1 1 [u0,u1,u2,u3,u4] hx rfl
  (World.news_of_block (cs:=#[u0,u1,u2,u3,u4]) (t:=67) (fr:=(0,0)) hc) h1 qg qq qg hB W.heap.size rfl ?_
 exact qgi
theorem Qq(B h n:X)(sv tv:Z)(ms:Mm)(s:Sb)(st:L By)(v:Hv)(nm:By)(d:Md)(r:Int)(w:E)(hs:Gd B h sv tv n w ms s st v)(hB:B<=w.heap.size)(hm:ms.length<=1000000000000)(hu:v.u=if 0<=r then [r.toNat] else []):Calls prog 80 #[D (p_ h),S nm,G #[I d.c,S d.t,nS],I r] w λe w'=>e=H (G #[I d.c,S d.t,nS])/\∃v',Dn B (Cx h v) (Cx h v') w w'/\Gd B h sv tv n w' (ms++[(nm,d)]) s st v'/\v'.u=[]:=by
 obtain⟨c,ec⟩:=Aj d.c;obtain⟨t,et⟩:=Aj d.t;rw[ec,et];have EC:=Ab (And.intro ec et);clear ec et;obtain⟨W,eW⟩:=Aj ((w.alloc (O #[I c,S t,nS] 65)).alloc (O #[I 0,ze,nS] 65));have HW:Hd (Bw w W):=by show Below _ _ _;rw[←eW];exact(aN _ _).alloc qi _
 have HQ:Hd (W.heap[w.heap.size]?=M (O #[I c,S t,nS] 65 (0,0))):=qhd
 have HR:Hd (W.heap[w.heap.size+1]?=M (O #[I 0,ze,nS] 65 (0,0))):=by
  show _=_;rw[←eW];have:=Fg (w.alloc (O #[I c,S t,nS] 65)) (O #[I 0,ze,nS] 65)
  rwa [show(w.alloc (O #[I c,S t,nS] 65)).heap.size=w.heap.size+1 from qi]at this
 have HS:=Ab (hs.bl HW.o);have ai:=Ag hs.blk;obtain⟨Q,eQ⟩:=Aj w.heap.size;have HHB:=Ab hs.hB;have HWS:Hd (Q+1<W.heap.size):=by show _<_;rw[←eQ];exact Ag HR.o
 clear hs;rw[eQ]at HQ HR ai hB;go_enter func80,ntmps80;go_wp2_with fail
 try rw[eQ]
 clear eW;refine Lt.begin 13 (λw'=>w'.cell? ⟨h,5,N⟩=M v.mv/\w'.heap[Q]?=M (O #[I c,S t,nS] 65 (0,0))) qk ?_;obtain⟨wD,eD⟩:=Aj W.drew;rw[eD];have dr:Bw W wD:=qaf;clear eD;replace HS:=Ab (HS.o.bl dr);replace HQ:=Ab (Af HQ.o dr);replace HR:=Ab (Af HR.o dr);replace HW:=Ab (bt HW.o dr);have gz:(λw'=>w'.cell? ⟨h,5,N⟩=M v.mv/\w'.heap[Q]?=M (O #[I c,S t,nS] 65 (0,0))) wD:=⟨(by rw[cH HS.o.blk];rfl),HQ.o⟩;change K 0 _
 iterate 9
  refine Lt.ti (v:=?_) gz ?_ ?_;rotate_left 1
  ·exact qmr
  simp only[gX]
 refine Lt.sp (i:=9) (λK hK=>?_);go_simp;refine Cb (Q:=λx=>K _ x) ?_;intro wL ie HL
 try dsimp only
 obtain⟨dL,edL⟩:=Aj wD.heap.size;rw[edL]at HL ⊢;replace HS:=Ab (HS.o.bl ie);replace HQ:=Ab (Af HQ.o ie);replace HR:=Ab (Af HR.o ie);replace HW:=Ab (bt HW.o ie);have xe:(λw'=>w'.cell? ⟨h,5,N⟩=M v.mv/\w'.heap[Q]?=M (O #[I c,S t,nS] 65 (0,0))) wL:=⟨(by rw[cH HS.o.blk];rfl),HQ.o⟩;have R4:B<=wL.heap.size:=zo HW.o.size;refine hK.out _ _ (λ_=>xe) (λ_=>?_);clear hK K 
 try simp only[gX]
 refine Lt.sp (i:=10) (λK hK=>?_);obtain⟨xs,m1,m2⟩:=HS.o.made;refine step_appM rfl qt B v.mv ms.length xs qt m1 dL _ _ _ _ _ qt HL.o qcz R4 hm ?_;intro g' aj w7 ah ae dh
 have uh:∀b,(Value.slice (p_ g') (ms.length+1) aj).ownBlock=M b->v.mv.ownBlock=M b\/wL.heap.size<=b:=λb q=>by
  obtain rfl:g'=b:=qav
  rcases dh with q|q
  ·exact Or.inl q
  ·right;omega
 have ry:=m2.2.snoc (zo m1.1) (S nm) (I c) (S t) nS r hu;have hfil:FilM (ms++[(nm,d)]) (xs++[S nm,I c,S t,nS,I r]):=by have:=m2.1.snoc (zo m1.1) nm d r;rw[EC.o.1,EC.o.2]at this;exact this
 have HG:=Ab (HS.o.growM (nw:=J (p_ g') (ms.length+1) aj) (ms':=ms++[(nm,d)]) R4 qi ah ⟨hfil,by rw[List.length_append];exact ry⟩ ae uh);have hmh:v.mv.ownBlock≠M h:=Ae m1 qh HS.o.blk;have hmq:v.mv.ownBlock≠M Q:=Ae m1 qh HQ.o;have hmr:v.mv.ownBlock≠M (Q+1):=Ae m1 qh HR.o;have t8:=Ab (Bh HS.o.blk ae hmh);have HQ7:=Ab (Bh HQ.o ae hmq);have HR7:=Ab (Bh HR.o ae hmr);have HFL:Hd (Dn B (Cx h v) (Cx h v) w wL):=Dn.of_below HW.o qg;have I1:(λw'=>w'.cell? ⟨h,5,N⟩=M v.mv/\w'.heap[Q]?=M (O #[I c,S t,nS] 65 (0,0))) w7:=⟨(by rw[cH t8.o];rfl),HQ7.o⟩;refine hK.out _ _ (λ_=>I1) (λ_=>?_);clear hK K ae ah;simp only[gX];refine Lt.sp (i:=11) (λK hK=>?_);go_simp;refine hK.out _ _ (λ_=>I1) (λ_=>?_);clear hK K 
 try simp only[gX]
 refine Lt.ti (i:=12) (v:=?_) I1 ?_ ?_;rotate_left 1
 ·exact qmr
 simp only[gX];have k5:=I1.1;have kf:=fZ t8.o;refine Lt.sp (i:=13) (λK hK=>?_);go_simp;refine hK.out _ _ (λh=>absurd rfl h) (λ_=>?_);clear hK K;refine Lt.done qk ?_ _;obtain⟨V,eV⟩:=Aj (w7.setCell ⟨h,5,N⟩ (J (p_ g') (ms.length+1) aj));rw[eV]at HG ⊢;have HQV:V.heap[Q]?=M (O #[I c,S t,nS] 65 (0,0)):=by rw[←eV];exact Fo HQ7.o qg _
 have X6:V.heap[Q+1]?=M (O #[I 0,ze,nS] 65 (0,0)):=by rw[←eV];exact Fo HR7.o qg _
 obtain⟨q0,q1,q2⟩:=Bb HQV;obtain⟨r0,r1,r2,rf⟩:=Ci X6;clear eV k5 kf I1;go_wp2_with fail;obtain⟨v0,v1,v2,_⟩:=Ci (Ba X6 (I c) (S t) nS);exact bR (v:=G #[I c,S t,nS]) (by simp[results,results80,go_sem,v0,v1,v2]) rfl ⟨rfl,_,(HFL.o.trans HG.o.2).set3 qg qg _ _ _,HG.o.1.set3 ⟨_,X6⟩ qh _ _ _,rfl⟩
theorem fd_at{nm:By}:∀ {ms:Mm} {i:X},i<ms.length->(mm ms i).1=nm->(∀j,j<i->(mm ms j).1≠nm)->fd ms nm=M (mm ms i).2
 | [],i,hi,_,_=>Wl
 | e::l,0,hi,h,hj=>by
   have h':e.1=nm:=h;unfold fd;rw[List.find?_cons_of_pos (by simp[h'])];rfl
 | e::l,i+1,hi,h,hj=>by
   have h0:e.1≠nm:=hj 0 qg;have hr:=fd_at (ms:=l) (i:=i) (by simpa using hi) h (λj q=>hj (j+1) qg);unfold fd at hr ⊢;rw[List.find?_cons_of_neg (by simp[h0])];exact hr
theorem fd_no{nm:By}:∀ {ms:Mm},(∀j,j<ms.length->(mm ms j).1≠nm)->fd ms nm=N
 | [],_=>rfl
 | e::l,hj=>by
   have h0:e.1≠nm:=hj 0 qi;have hr:=fd_no (ms:=l) (λj q=>hj (j+1) (by simpa using q));unfold fd at hr ⊢;rw[List.find?_cons_of_neg (by simp[h0])];exact hr
theorem Zy(h:i<st.length):(Ar st)[i]?=M (S (nx st i)):=by
 unfold Ar nx;rw[List.getElem?_map,gG,Hq h];rfl
theorem own_pop{a:Option Addr}(h:w.ownsRow B 9 1 (J a (st.length+1) cap) (st.length+1) (Ar (st++[nm]))):w.ownsRow B 9 1 (J a st.length cap) st.length (Ar st):=by
 refine⟨qal,?_⟩
 rcases h.2 with⟨e,h0⟩|⟨g,c,cur,e,hg,hh,h1,h2,h3,h4⟩
 ·omega
 ·cases e
  refine Or.inr ⟨g,cap,cur,rfl,hg,hh,qg,h2,h3,?_⟩;(have:(cur.toList.take ((st.length+1)*1)).take (st.length*1)=(Ar (st++[nm])).take (st.length*1):=by rw[h4]);rw[List.take_take,Nat.min_eq_left qg]at this;rw[this];simp[Ar]
theorem Gd.pop(k:Gd B h sv tv n w ms s (st++[nm]) v)(gh:B<=w.heap.size){a:Option Addr}(e:v.kv=J a (st.length+1) cap):Gd B h sv tv n (w.setCell ⟨h,6,N⟩ (J a st.length cap)) ms s st ⟨v.tx,v.qv,v.mv,J a st.length cap,v.nv,v.ev,v.u⟩/\Dn B (Cx h v) (Cx h ⟨v.tx,v.qv,v.mv,J a st.length cap,v.nv,v.ev,v.u⟩) w (w.setCell ⟨h,6,N⟩ (J a st.length cap)):=by
 have h0:=k.stk;rw[e]at h0;have h1:w.ownsRow B 9 1 (J a (st.length+1) cap) (st.length+1) (Ar (st++[nm])):=by have:=h0;rwa [List.length_append,List.length_singleton]at this
 exact k.growK gh (own_pop h1) ⟨rfl,rfl,rfl,Nat.le_refl _,λ_ _ _=>rfl⟩ (λb q=>Or.inl (by rw[e];cases a<;>exact q))
theorem Gj.less{b:Gi}(k:Gj B h (st++[nm]).length nv w b):Gj B h st.length nv w b:=by
 obtain⟨pre,e,hl,hk,he,d1,⟨xs,d2,d4⟩,d3⟩:=k;rw[List.length_append,List.length_singleton]at d4;exact⟨pre,e,hl,hk,he,d1,⟨xs,d2,qg⟩,d3⟩
theorem Gj.grow{b:Gi}{xs:L By}(hh:B<=h)(k:Gj B h (m+1) nv w b)(gh:B<=w.heap.size)(hx:w.ownsRow B 9 1 nv xs.length (Ar xs))(lq:xs.length+(m+1)<=1000)(ho:w'.ownsRow B 9 1 nw (xs.length+1) (Ar xs++[S nm]))(hg:w.grownBy w' nv.ownBlock)(ul:nw.ownBlock=nv.ownBlock\/nw.ownBlock=M w.heap.size):Gj B h m nw (w'.setCell ⟨h,7,N⟩ nw) b/\Dn B (ownD h nv) (ownD h nw) w (w'.setCell ⟨h,7,N⟩ nw):=by
 obtain⟨pre,e,hl,hk,he,d1,_,d3⟩:=k;have hne:nv.ownBlock≠M h:=Ae hx qh hk;have hb:=Bh hk hg hne
 have dh:∀b,nw.ownBlock=M b->nv.ownBlock=M b\/w.heap.size<=b:=λb q=>by
  rcases ul with r|r
  ·left;rw[←r];exact q
  ·right;rw[r]at q;cases q;exact Nat.le_refl _
 have ll:=Fa hb 7 nw
 have hlist:((pre++[Value.bool true]++e).toArray).setIfInBounds 7 nw=(pre.set 7 nw++[Value.bool true]++e).toArray:=by
  rw[List.setIfInBounds_toArray,List.set_append_left _ _ qhn,List.set_append_left _ _ qg]
 rw[hlist]at ll;refine⟨⟨pre.set 7 nw,e,by rw[List.length_set];exact hl,ll,?_,by rw[List.getElem?_set_self qg],⟨xs++[nm],?_,qbz⟩,λu b' q1 q2 q3=>?_⟩,?_⟩
 ·cases b with
  | circle ch=>
    obtain⟨cv,c1,c2⟩:=he;refine⟨cv,Ak (Pk c1 hg (λb q1 q2=>d3 cv b (by rw[c2];rfl) q1 q2)) ⟨_,hb⟩ qh _,c2⟩
  | deep nm=>exact he
  | clash A B=>exact he
  | full=>exact he
 ·have:Ar (xs++[nm])=Ar xs++[S nm]:=qal
  rw[this,List.length_append,List.length_singleton];exact Ak ho ⟨_,hb⟩ qh _
 ·rcases dh b' q3 with r|r
  ·exact d3 u b' q1 q2 r
  ·cases b with
   | circle ch=>obtain⟨cv,c1,c2⟩:=he;rw[c2]at q1;cases q1;have:=(c1.lt b' q2).2;omega
   | deep nm=>rw[show e=_ from he]at q1;cases q1;cases q2
   | clash A B=>rw[show e=_ from he]at q1;cases q1;cases q2
   | full=>rw[show e=_ from he]at q1;cases q1;cases q2
 ·refine⟨((Below.refl B w).grown hg gh (λj q=>(hx.lt j q).1)).setCell (p:=⟨h,7,N⟩) hh _,λb bv hx'=>?_,λb q=>?_⟩
  ·rw[Dm w' ⟨h,7,N⟩ _ b (λe=>hx' (Or.inl e)),hg.block b bv (λq=>hx' (Or.inr q.symm))]
  ·rcases q with q|q
   ·exact Or.inl (Or.inl q)
   ·rcases dh b q with r|r
    ·exact Or.inl (Or.inr r)
    ·exact Or.inr r
end Go.Proofs.YtnflkpmmfpfhlaaGreatDoor
