import Derived.Test.YtbkkjodaaijimaaGreatDoorBdA
namespace Go.Proofs.YtbkkjodaaijimaaGreatDoor
open _root_.Go.Proofs.Tryz Go.RowKit
open Option renaming some->M,none->N
open _root_ renaming List->L,Nat->X
set_option linter.unusedVariables false
set_option linter.unusedSimpArgs false
variable {ms ms':Mm} {nm nm':By} {d:Md} {st:L By} {ss:L S2} {ts:L T2} {a:BA} {k0 i n:X} {s s':Sb} {ls:L G3} {is is':L I3}
theorem Ia(h:fd ms nm=N):fd (ms++[(nm,d)]) nm=M d:=by
 unfold fd at *;rw[List.find?_append]
 cases hf:ms.find? (λe=>decide (e.1=nm)) with
 | some x=>rw[hf]at h;cases h
 | none=>simp
theorem Lr(h:nm'≠nm):fd (ms++[(nm,d)]) nm'=fd ms nm':=by
 unfold fd;rw[List.find?_append];have:¬ nm=nm':=λe=>h e.symm
 cases hf:ms.find? (λe=>decide (e.1=nm')) with
 | some x=>simp
 | none=>simp[this]
theorem fd_app_some{d':Md}(h:fd ms nm'=M d'):fd (ms++[(nm,d)]) nm'=M d':=by
 unfold fd at *;rw[List.find?_append]
 cases hf:ms.find? (λe=>decide (e.1=nm')) with
 | some x=>rw[hf]at h;simpa using h
 | none=>rw[hf]at h;cases h
theorem Eb{x:By}:Ed (st++[nm]) x↔Ed st x\/x=nm:=by
 constructor
 ·rintro⟨j,hj,e⟩
  rw[List.length_append,List.length_singleton]at hj
  rcases Nat.lt_or_ge j st.length with h|h
  ·left
   exact⟨j,h,by rw[←e];unfold nx;rw[gG,gG,List.getElem?_append_left h]⟩
  ·right
   obtain rfl:j=st.length:=qb;rw[←e];unfold nx;rw[gG,List.getElem?_append_right (Nat.le_refl _)];simp
 ·rintro(⟨j,hj,e⟩|rfl)
  ·exact⟨j,qgn,by rw[←e];unfold nx;rw[gG,gG,List.getElem?_append_left hj]⟩
  ·exact⟨st.length,qg,by unfold nx;rw[gG,List.getElem?_append_right (Nat.le_refl _)];simp⟩
structure Fv (ss:L S2) (ts:L T2) (ms:Mm) (st:L By):Prop where
 done:∀nm d,fd ms nm=M d->MdOk ss ts nm d
 tgt:∀nm,Ed st nm->Ed (Ak ts) nm
 nst:∀nm,Ed st nm->fd ms nm=N
theorem Fv.nil(ss:L S2)(ts:L T2):Fv ss ts [] []:=⟨λnm d h=>by simp[fd]at h,λnm h=>by obtain⟨j,hj,_⟩:=h;simp at hj,λnm h=>by obtain⟨j,hj,_⟩:=h;simp at hj⟩
theorem Fv.add(h:Fv ss ts ms st)(h1:fd ms nm=N)(h2:¬ Ed st nm)(hd:MdOk ss ts nm d):Fv ss ts (ms++[(nm,d)]) st:=by
 refine⟨λx d' hx=>?_,h.tgt,λx hx=>?_⟩
 ·by_cases e:x=nm
  ·subst e;rw[Ia h1]at hx;cases hx;exact hd
  ·rw[Lr e]at hx;exact h.done x d' hx
 ·rw[Lr (λe=>by subst e;exact h2 hx)];exact h.nst x hx
theorem Fv.push(h:Fv ss ts ms st)(h1:fd ms nm=N)(ht:Ed (Ak ts) nm):Fv ss ts ms (st++[nm]):=by
 refine⟨h.done,λx hx=>?_,λx hx=>?_⟩
 ·rcases Eb.1 hx with k|rfl
  ·exact h.tgt x k
  ·exact ht
 ·rcases Eb.1 hx with k|rfl
  ·exact h.nst x k
  ·exact h1
theorem Fv.pop(h:Fv ss ts ms (st++[nm]))(h2:¬ Ed st nm)(hd:MdOk ss ts nm d):Fv ss ts (ms++[(nm,d)]) st:=
 Fv.add ⟨h.done,λx hx=>h.tgt x (Eb.2 (Or.inl hx)),λx hx=>h.nst x (Eb.2 (Or.inl hx))⟩ (h.nst nm (Eb.2 (Or.inr rfl))) h2 hd
def Jz(n:X)(s:Sb):Prop:=Jy n s.T s.R
structure BGr (k:X) (ms:Mm) (s:Sb) (ms':Mm) (s':Sb):Prop where
 ex:∃r,ms'=ms++r
 recs:∃r,s'.R=s.R++r
 cnt:s'.ran.length+s'.held.length+ms.length<=s.ran.length+s.held.length+ms'.length+k
theorem BGr.refl(ms:Mm)(s:Sb):BGr 0 ms s ms s:=⟨⟨[],qg⟩,⟨[],qg⟩,Nat.le_refl _⟩
theorem BGr.trans{p q:X}{a b c:Mm}{x y z:Sb}(h:BGr p a x b y)(k:BGr q b y c z):BGr (p+q) a x c z:=by
 obtain⟨⟨r,rfl⟩,⟨q,e1⟩,h3⟩:=h;obtain⟨⟨r',rfl⟩,⟨q',e2⟩,k3⟩:=k;exact⟨⟨r++r',by rw[List.append_assoc]⟩,⟨q++q',by rw[e2,e1,List.append_assoc]⟩,qb⟩
theorem BGr.fd(h:BGr k0 ms s ms' s')(k:fd ms nm=M d):Go.Proofs.YtbkkjodaaijimaaGreatDoor.fd ms' nm=M d:=by
 obtain⟨⟨r,rfl⟩,_⟩:=h;exact qiy
theorem BGr.len(h:BGr k0 ms s ms' s'):s.R.length<=s'.R.length:=by
 obtain⟨_,⟨r,e⟩,_⟩:=h;rw[e,List.length_append];omega
def Mk(ls:L G3):Prop:=∀g∈ls,Ar g.name/\g.sum.size<=2002
theorem Mk.snoc{g:G3}(h:Mk ls)(h1:Ar g.name)(h2:g.sum.size<=2002):Mk (ls++[g]):=λx hx=>by
 rcases List.mem_append.1 hx with k|k
 ·exact h x k
 ·rw[List.mem_singleton]at k;subst k;exact⟨h1,h2⟩
def GsOk(gs:L G3):Prop:=gs.length<=200/\∀j,j<gs.length->Ar (gx gs j).name
def JobB(s:Sb):BJ->Prop
 | .make nm=>Ar nm
 | .work nm is=>Au is=true
 | .tri is i m=>m<=s.R.length
 | .holds gs k=>GsOk gs
 | .run is ys ls=>Gf is ys ls/\ys.length<=200/\Mk ls
def MdB(d:Md):Prop:=0<=d.c/\d.c<=5/\d.t.size<=2000/\d.ls.length<=200
def We(ms':Mm):BJ->BA->Prop
 | .make nm,.ok d=>fd ms' nm=M d
 | .work nm is,.ok d=>MdB d
 | .tri is i m,.hit c t=>0<=c/\c<=5/\t.size<=2000
 | .run is ys ls,.ok d=>MdB d
 | _,_=>True
theorem We.tri{m i' m':X}(h:We ms (.tri is i m) a):We ms (.tri is' i' m') a:=by cases a<;>exact h
theorem We.run{ys ys':L R3}{ls':L G3}(h:We ms (.run is ys ls) a):We ms (.run is' ys' ls') a:=by cases a<;>exact h
theorem We.holds{gs gs':L G3}{k k':X}(h:We ms (.holds gs k) a):We ms (.holds gs' k') a:=by cases a<;>exact h
theorem Dj.ok{T xs T':L By}{a:Option Hm}(h:Dj n T xs T' a):Uk n T->(∀x∈xs,x.size<=2002)->Uk n T':=by
 induction h with
 | nil=>intro h _;exact h
 | @go T x xs r T' T'' a h1 h2 _ ih=>
   intro h hx;refine ih ?_ (λy hy=>hx y (List.mem_cons_of_mem _ hy))
   rcases h2 with⟨_,_,e,_⟩|⟨_,_,_,e,_⟩|⟨_,_,e,_⟩|⟨h3,h4,_,e,_⟩
   ·cases e
   ·rw[e];exact h
   ·cases e
   ·obtain⟨p1,p2,p3⟩:=h1.ins (So.of_asc h.2.2) h3
    rw[e];refine⟨by rw[p3];omega,λi hi=>?_,p1.asc⟩;rw[Ol hi]
    rcases(p2 _).1 (List.getElem_mem hi)with k|k
    ·obtain⟨j,hj,ej⟩:=List.mem_iff_getElem.1 k
     rw[←ej,←Ol hj];exact h.2.1 j hj
    ·rw[k];exact hx x (List.mem_cons_self ..)
 | clash=>intro h _;exact h
 | full=>intro h _;exact h
theorem askT_size(h:Mk ls):∀x∈Iu ls,x.size<=2002:=λx hx=>by
 unfold Iu at hx;obtain⟨g,hg,rfl⟩:=List.mem_map.1 hx;exact(h g (List.mem_filter.1 hg).1).2
theorem Lp(h:i<ls.length):gx ls i∈ls:=by
 unfold gx;rw[gG,Ix h];exact List.getElem_mem _
theorem Fw.good{c:Int}{t:By}(h:Fw n s is ls c t s' N)(hs:Jz n s)(hp:Au is=true)(hl:ls.length<=200)(hls:Mk ls)(ht:t.size<=2000)(ms:Mm):Jz n s'/\BGr 0 ms s ms s':=by
 cases h with
 | ok h1 h2=>
   refine⟨⟨h1.ok hs.1 (λx hx=>?_),by simp only[List.length_append,List.length_singleton];omega,λi hi=>?_⟩,⟨⟨[],qg⟩,⟨_,rfl⟩,Nat.le_refl _⟩⟩
   ·rcases List.mem_append.1 hx with k|k
    ·exact askT_size hls x k
    ·rw[List.mem_singleton]at k;rw[k];exact Dp ht
   ·rw[List.length_append,List.length_singleton]at hi
    show Hk n (qx (s.R++[_]) i);unfold qx
    rcases Nat.lt_or_ge i s.R.length with k|k
    ·rw[gG,List.getElem?_append_left k,←gG];exact hs.2.2 i k
    ·obtain rfl:i=s.R.length:=qb
     rw[gG,List.getElem?_append_right (Nat.le_refl _)];simp only[Nat.sub_self,List.getElem?_cons_zero,Option.getD_some];refine⟨hp,Qac n _,by rw[List.length_map];exact hl,λj hj=>?_⟩;rw[List.length_map]at hj;show Ml n (gx (ls.map (Hg n)) j);rw[gx_map n ls j hj];exact⟨(hls _ (Lp hj)).1,Qac n _⟩
theorem Hz(b:Bool):(Cl b).size<=2002:=by cases b<;>decide
def Wl:BJ->X
 | .work _ _=>1
 | _=>0
theorem Bc.inv(hv:SpV ss ts){j:BJ}(h:Bc ss ts n ms s st j ms' s' a):Fv ss ts ms st->Jz n s->JobB s j->(∀b,a≠.bad b)->Fv ss ts ms' st/\Jz n s'/\BGr (Wl j) ms s ms' s'/\We ms' j a:=by
 induction h with
 | known h1=>intro hi hs _ _;exact⟨hi,hs,BGr.refl _ _,h1⟩
 | circle=>intro _ _ _ ha;exact absurd rfl (ha _)
 | source h1 h0 h2 h3=>
   intro hi hs _ _;exact⟨hi.add h1 h0 ⟨qg,qg,hv.txt _ h2,qg,λhn=>absurd (Or.inl (h3▸Hf h2)) hn⟩,hs,⟨⟨_,rfl⟩,⟨[],qg⟩,by simp only[List.length_append,List.length_singleton,Wl];omega⟩,Ia h1⟩
 | missing h1 h0 h2=>
   intro hi hs hj _;have jg:_<=60:=hj.2.1;exact⟨hi.add h1 h0 ⟨qg,qg,qh,qg,λ_=>rfl⟩,hs,⟨⟨_,rfl⟩,⟨[],qg⟩,by simp only[List.length_append,List.length_singleton,Wl];omega⟩,Ia h1⟩
 | deep=>intro _ _ _ ha;exact absurd rfl (ha _)
 | made h1 h0 h2 h3 h4 h5 _ ih=>
   intro hi hs hj _;have hth:=h4▸Il h3;obtain⟨k1,k2,k3,k4⟩:=ih (hi.push h1 hth) hs (hv.pr _ h3) (λb e=>qu);refine⟨k1.pop h0 ⟨k4.1,k4.2.1,k4.2.2.1,k4.2.2.2,λhn=>absurd (Or.inr hth) hn⟩,k2,⟨by obtain⟨r,e⟩:=k3.ex;exact⟨r++[_],by rw[e,List.append_assoc]⟩,k3.recs,by have:=k3.cnt;simp only[List.length_append,List.length_singleton,Wl]at this ⊢;omega⟩,Ia (k1.nst _ (Eb.2 (Or.inr rfl)))⟩
 | fell=>intro _ _ _ ha;exact absurd rfl (ha _)
 | held _ ih=>
   intro hi hs hj _;obtain⟨k1,k2,k3,k4⟩:=ih hi hs (Nat.le_refl _) (λb e=>qu);exact⟨k1,k2,⟨k3.ex,k3.recs,by have:=k3.cnt;simp only[List.length_append,List.length_singleton,Wl]at this ⊢;omega⟩,⟨k4.1,k4.2.1,k4.2.2,qg⟩⟩
 | tfell=>intro _ _ _ ha;exact absurd rfl (ha _)
 | ran _ _ ih ih2=>
   intro hi hs hj _;obtain⟨k1,k2,k3,k4⟩:=ih hi hs (Nat.le_refl _) (λb e=>qu);obtain⟨l1,l2,l3,l4⟩:=ih2 k1 k2 ⟨⟨hj,λi hi=>qaa,rfl⟩,qg,λg hg=>by simp at hg⟩ (λb e=>qu);exact⟨l1,l2,⟨(k3.trans l3).ex,(k3.trans l3).recs,by have:=(k3.trans l3).cnt;simp only[List.length_append,List.length_singleton,Wl]at this ⊢;omega⟩,l4⟩
 | rfell=>intro _ _ _ ha;exact absurd rfl (ha _)
 | tend=>intro hi hs _ _;exact⟨hi,hs,BGr.refl _ _,trivial⟩
 | tother h1 h2 _ ih=>intro hi hs hj ha;obtain⟨l1,l2,l3,l4⟩:=ih hi hs hj ha;exact⟨l1,l2,l3,l4.tri⟩
 | thit h1 h2 _ ih=>
   intro hi hs hj _;have hq:=hs.2.2 _ (Nat.lt_of_lt_of_le h1 hj);obtain⟨k1,k2,k3,_⟩:=ih hi hs ⟨hq.2.2.1,λj hj=>(hq.2.2.2 j hj).1⟩ (λb e=>qu);exact⟨k1,k2,k3,(rr_code h2.2).1,(rr_code h2.2).2,rr_text h2.2⟩
 | tno h1 h2 _ _ ih ih2=>
   intro hi hs hj ha;have hq:=hs.2.2 _ (Nat.lt_of_lt_of_le h1 hj);obtain⟨k1,k2,k3,_⟩:=ih hi hs ⟨hq.2.2.1,λj hj=>(hq.2.2.2 j hj).1⟩ (λb e=>qu);obtain⟨l1,l2,l3,l4⟩:=ih2 k1 k2 (Nat.le_trans hj k3.len) ha;refine⟨l1,l2,k3.trans l3,l4.tri⟩
 | tbad=>intro _ _ _ ha;exact absurd rfl (ha _)
 | hend=>intro hi hs _ _;exact⟨hi,hs,BGr.refl _ _,trivial⟩
 | hhas h1 h2 h3 _ ih=>intro hi hs hj ha;obtain⟨l1,l2,l3,l4⟩:=ih hi hs hj ha;exact⟨l1,l2,l3,l4.holds⟩
 | hhasno=>intro hi hs _ _;exact⟨hi,hs,BGr.refl _ _,trivial⟩
 | hask h1 h2 _ h4 _ ih ih2=>
   intro hi hs hj ha;obtain⟨k1,k2,k3,_⟩:=ih hi hs (hj.2 _ h1) (λb e=>qu);obtain⟨l1,l2,l3,l4⟩:=ih2 k1 k2 hj ha;exact⟨l1,l2,k3.trans l3,l4.holds⟩
 | haskno h1 h2 _ h4 ih=>
   intro hi hs hj _;obtain⟨k1,k2,k3,_⟩:=ih hi hs (hj.2 _ h1) (λb e=>qu);exact⟨k1,k2,k3,trivial⟩
 | haskbad=>intro _ _ _ ha;exact absurd rfl (ha _)
 | over h1 h2=>
   intro hi hs hj _;obtain⟨k1,k2,k3⟩:=hj.1.over h1;have hl:=hj.1.eq;have hy:=hj.2.1;obtain⟨g1,g2⟩:=h2.good hs hj.1.pr qb hj.2.2 k1 _;exact⟨hi,g1,g2,k2,k3,k1,by show _<=200;simp only;omega⟩
 | overbad=>intro _ _ _ ha;exact absurd rfl (ha _)
 | has h1 _ ih=>
   intro hi hs hj ha;obtain⟨k1,k2⟩:=hj.1.wait h1;obtain⟨l1,l2,l3,l4⟩:=ih hi hs ⟨hj.1.has _ _,qh,hj.2.2.snoc k2 (Hz _)⟩ ha;exact⟨l1,l2,l3,l4.run⟩
 | asked h1 _ _ ih ih2=>
   intro hi hs hj ha;obtain⟨k1,k2⟩:=hj.1.wait h1;obtain⟨i1,i2,i3,i4⟩:=ih hi hs k2 (λb e=>qu);have hd:=i1.done _ _ i4;obtain⟨j1,j2,j3,j4⟩:=ih2 i1 i2 ⟨hj.1.asked hd _,qh,hj.2.2.snoc k2 (Dp hd.t2)⟩ ha;exact⟨j1,j2,i3.trans j3,j4.run⟩
 | askbad=>intro _ _ _ ha;exact absurd rfl (ha _)
end Go.Proofs.YtbkkjodaaijimaaGreatDoor
