import Derived.Test.YtoakjccojifagaaGreatDoorBdA
namespace Go.Proofs.YtoakjccojifagaaGreatDoor
open _root_.Go.Proofs.Tryz Go.RowKit
open Option renaming some->M,none->N
open _root_ renaming List->L,Nat->X
set_option linter.unusedVariables false
set_option linter.unusedSimpArgs false
variable {ms ms':Mm} {nm nm':By} {d:Md} {st:L By} {ss:L S2} {ts:L T2} {a:BA} {s s':Sb} {ls:L G3} {is is':L I3} {i n:X}
theorem Ii(h:fd ms nm=N):fd (ms++[(nm,d)]) nm=M d:=by
 unfold fd at *;rw[List.find?_append]
 cases hf:ms.find? (λe=>decide (e.1=nm)) with
 | some x=>rw[hf]at h;cases h
 | none=>simp
theorem Lz(h:nm'≠nm):fd (ms++[(nm,d)]) nm'=fd ms nm':=by
 unfold fd;rw[List.find?_append];have:¬ nm=nm':=λe=>h e.symm
 cases hf:ms.find? (λe=>decide (e.1=nm')) with
 | some x=>simp
 | none=>simp[this]
theorem fd_app_some{d':Md}(h:fd ms nm'=M d'):fd (ms++[(nm,d)]) nm'=M d':=by
 unfold fd at *;rw[List.find?_append]
 cases hf:ms.find? (λe=>decide (e.1=nm')) with
 | some x=>rw[hf]at h;simpa using h
 | none=>rw[hf]at h;cases h
theorem Ee{x:By}:Eg (st++[nm]) x↔Eg st x\/x=nm:=by
 constructor
 ·rintro⟨j,hj,e⟩
  rw[List.length_append,List.length_singleton]at hj
  rcases Nat.lt_or_ge j st.length with h|h
  ·left
   exact⟨j,h,by rw[←e];unfold nx;rw[gG,gG,List.getElem?_append_left h]⟩
  ·right
   obtain rfl:j=st.length:=qb;rw[←e];unfold nx;rw[gG,List.getElem?_append_right (Nat.le_refl _)];simp
 ·rintro(⟨j,hj,e⟩|rfl)
  ·exact⟨j,qhg,by rw[←e];unfold nx;rw[gG,gG,List.getElem?_append_left hj]⟩
  ·exact⟨st.length,qg,by unfold nx;rw[gG,List.getElem?_append_right (Nat.le_refl _)];simp⟩
structure Fy (ss:L S2) (ts:L T2) (ms:Mm) (st:L By):Prop where
 done:∀nm d,fd ms nm=M d->MdOk ss ts nm d
 tgt:∀nm,Eg st nm->Eg (Ak ts) nm
 nst:∀nm,Eg st nm->fd ms nm=N
theorem Fy.nil(ss:L S2)(ts:L T2):Fy ss ts [] []:=⟨λnm d h=>by simp[fd]at h,λnm h=>by obtain⟨j,hj,_⟩:=h;simp at hj,λnm h=>by obtain⟨j,hj,_⟩:=h;simp at hj⟩
theorem Fy.add(h:Fy ss ts ms st)(h1:fd ms nm=N)(h2:¬ Eg st nm)(hd:MdOk ss ts nm d):Fy ss ts (ms++[(nm,d)]) st:=by
 refine⟨λx d' hx=>?_,h.tgt,λx hx=>?_⟩
 ·by_cases e:x=nm
  ·subst e;rw[Ii h1]at hx;cases hx;exact hd
  ·rw[Lz e]at hx;exact h.done x d' hx
 ·rw[Lz (λe=>by subst e;exact h2 hx)];exact h.nst x hx
theorem Fy.push(h:Fy ss ts ms st)(h1:fd ms nm=N)(ht:Eg (Ak ts) nm):Fy ss ts ms (st++[nm]):=by
 refine⟨h.done,λx hx=>?_,λx hx=>?_⟩
 ·rcases Ee.1 hx with k|rfl
  ·exact h.tgt x k
  ·exact ht
 ·rcases Ee.1 hx with k|rfl
  ·exact h.nst x k
  ·exact h1
theorem Fy.pop(h:Fy ss ts ms (st++[nm]))(h2:¬ Eg st nm)(hd:MdOk ss ts nm d):Fy ss ts (ms++[(nm,d)]) st:=
 Fy.add ⟨h.done,λx hx=>h.tgt x (Ee.2 (Or.inl hx)),λx hx=>h.nst x (Ee.2 (Or.inl hx))⟩ (h.nst nm (Ee.2 (Or.inr rfl))) h2 hd
def Gi(n:X)(s:Sb):Prop:=Hx n s.T s.R
structure BGr (k:X) (ms:Mm) (s:Sb) (ms':Mm) (s':Sb):Prop where
 ex:∃r,ms'=ms++r
 recs:∃r,s'.R=s.R++r
 cnt:s'.ran.length+s'.held.length+ms.length<=s.ran.length+s.held.length+ms'.length+k
theorem BGr.refl(ms:Mm)(s:Sb):BGr 0 ms s ms s:=⟨⟨[],qg⟩,⟨[],qg⟩,Nat.le_refl _⟩
theorem BGr.trans{p q:X}{a b c:Mm}{x y z:Sb}(h:BGr p a x b y)(k:BGr q b y c z):BGr (p+q) a x c z:=by
 obtain⟨⟨r,rfl⟩,⟨q,e1⟩,h3⟩:=h;obtain⟨⟨r',rfl⟩,⟨q',e2⟩,k3⟩:=k;exact⟨⟨r++r',by rw[List.append_assoc]⟩,⟨q++q',by rw[e2,e1,List.append_assoc]⟩,qb⟩
theorem BGr.len{k0:X}(h:BGr k0 ms s ms' s'):s.R.length<=s'.R.length:=by
 obtain⟨_,⟨r,e⟩,_⟩:=h;rw[e,List.length_append];omega
def Mp(ls:L G3):Prop:=∀g∈ls,Ar g.name/\g.sum.size<=2002
theorem Mp.snoc{g:G3}(h:Mp ls)(h1:Ar g.name)(h2:g.sum.size<=2002):Mp (ls++[g]):=λx hx=>by
 rcases List.mem_append.1 hx with k|k
 ·exact h x k
 ·rw[List.mem_singleton]at k;subst k;exact⟨h1,h2⟩
def GsOk(gs:L G3):Prop:=gs.length<=200/\∀j,j<gs.length->Ar (gx gs j).name
def JobB(s:Sb):BJ->Prop
 | .make nm=>Ar nm
 | .work nm is=>Ao is=true
 | .tri is i m=>m<=s.R.length
 | .holds gs k=>GsOk gs
 | .run is ys ls=>Gj is ys ls/\ys.length<=200/\Mp ls
def MdB(d:Md):Prop:=0<=d.c/\d.c<=5/\d.t.size<=2000/\d.ls.length<=200
def Wx(ms':Mm):BJ->BA->Prop
 | .make nm,.ok d=>fd ms' nm=M d
 | .work nm is,.ok d=>MdB d
 | .tri is i m,.hit c t=>0<=c/\c<=5/\t.size<=2000
 | .run is ys ls,.ok d=>MdB d
 | _,_=>True
theorem Wx.tri{m i' m':X}(h:Wx ms (.tri is i m) a):Wx ms (.tri is' i' m') a:=by cases a<;>exact h
theorem Wx.run{ys ys':L R3}{ls':L G3}(h:Wx ms (.run is ys ls) a):Wx ms (.run is' ys' ls') a:=by cases a<;>exact h
theorem Wx.holds{gs gs':L G3}{k k':X}(h:Wx ms (.holds gs k) a):Wx ms (.holds gs' k') a:=by cases a<;>exact h
theorem Dq.ok{T xs T':L By}{a:Option Gl}(h:Dq n T xs T' a):Vg n T->(∀x∈xs,x.size<=2002)->Vg n T':=by
 induction h with
 | nil=>intro h _;exact h
 | @go T x xs r T' T'' a h1 h2 _ ih=>
   intro h hx;refine ih ?_ (λy hy=>hx y (List.mem_cons_of_mem _ hy))
   rcases h2 with⟨_,_,e,_⟩|⟨_,_,_,e,_⟩|⟨_,_,e,_⟩|⟨h3,h4,_,e,_⟩
   ·cases e
   ·rw[e];exact h
   ·cases e
   ·obtain⟨p1,p2,p3⟩:=h1.ins (So.of_asc h.2.2) h3
    rw[e];refine⟨by rw[p3];omega,λi hi=>?_,p1.asc⟩;rw[Pa hi]
    rcases(p2 _).1 (List.getElem_mem hi)with k|k
    ·obtain⟨j,hj,ej⟩:=List.mem_iff_getElem.1 k
     rw[←ej,←Pa hj];exact h.2.1 j hj
    ·rw[k];exact hx x (List.mem_cons_self ..)
 | clash=>intro h _;exact h
 | full=>intro h _;exact h
theorem askT_size(h:Mp ls):∀x∈Jc ls,x.size<=2002:=λx hx=>by
 unfold Jc at hx;obtain⟨g,hg,rfl⟩:=List.mem_map.1 hx;exact(h g (List.mem_filter.1 hg).1).2
theorem Lx(h:i<ls.length):gx ls i∈ls:=by
 unfold gx;rw[gG,Jr h];exact List.getElem_mem _
theorem Fb.good{c:Int}{t:By}(h:Fb n s is ls c t s' N)(hs:Gi n s)(hp:Ao is=true)(hl:ls.length<=200)(hls:Mp ls)(ht:t.size<=2000)(ms:Mm):Gi n s'/\BGr 0 ms s ms s':=by
 cases h with
 | ok h1 h2=>
   refine⟨⟨h1.ok hs.1 (λx hx=>?_),by simp only[List.length_append,List.length_singleton];omega,λi hi=>?_⟩,⟨⟨[],qg⟩,⟨_,rfl⟩,Nat.le_refl _⟩⟩
   ·rcases List.mem_append.1 hx with k|k
    ·exact askT_size hls x k
    ·rw[List.mem_singleton]at k;rw[k];exact Dt ht
   ·rw[List.length_append,List.length_singleton]at hi
    show Hq n (qx (s.R++[_]) i);unfold qx
    rcases Nat.lt_or_ge i s.R.length with k|k
    ·rw[gG,List.getElem?_append_left k,←gG];exact hs.2.2 i k
    ·obtain rfl:i=s.R.length:=qb
     rw[gG,List.getElem?_append_right (Nat.le_refl _)];simp only[Nat.sub_self,List.getElem?_cons_zero,Option.getD_some];refine⟨hp,Qav n _,by rw[List.length_map];exact hl,λj hj=>?_⟩;rw[List.length_map]at hj;show Mq n (gx (ls.map (Hm n)) j);rw[gx_map n ls j hj];exact⟨(hls _ (Lx hj)).1,Qav n _⟩
theorem Ih(b:Bool):(Cq b).size<=2002:=by cases b<;>decide
def Vo:BJ->X
 | .work _ _=>1
 | _=>0
theorem Ba.inv(hv:SpV ss ts){j:BJ}(h:Ba ss ts n ms s st j ms' s' a):Fy ss ts ms st->Gi n s->JobB s j->(∀b,a≠.bad b)->Fy ss ts ms' st/\Gi n s'/\BGr (Vo j) ms s ms' s'/\Wx ms' j a:=by
 induction h with
 | known h1=>intro hi hs _ _;exact⟨hi,hs,BGr.refl _ _,h1⟩
 | circle=>intro _ _ _ ha;exact absurd rfl (ha _)
 | source h1 h0 h2 h3=>
   intro hi hs _ _;exact⟨hi.add h1 h0 ⟨qg,qg,hv.txt _ h2,qg,λhn=>absurd (Or.inl (h3▸Hl h2)) hn⟩,hs,⟨⟨_,rfl⟩,⟨[],qg⟩,by simp only[List.length_append,List.length_singleton,Vo];omega⟩,Ii h1⟩
 | missing h1 h0 h2=>
   intro hi hs hj _;have jy:_<=60:=hj.2.1;exact⟨hi.add h1 h0 ⟨qg,qg,qh,qg,λ_=>rfl⟩,hs,⟨⟨_,rfl⟩,⟨[],qg⟩,by simp only[List.length_append,List.length_singleton,Vo];omega⟩,Ii h1⟩
 | deep=>intro _ _ _ ha;exact absurd rfl (ha _)
 | made h1 h0 h2 h3 h4 h5 _ ih=>
   intro hi hs hj _;have hth:=h4▸Iu h3;obtain⟨k1,k2,k3,k4⟩:=ih (hi.push h1 hth) hs (hv.pr _ h3) (λb e=>qt);refine⟨k1.pop h0 ⟨k4.1,k4.2.1,k4.2.2.1,k4.2.2.2,λhn=>absurd (Or.inr hth) hn⟩,k2,⟨by obtain⟨r,e⟩:=k3.ex;exact⟨r++[_],by rw[e,List.append_assoc]⟩,k3.recs,by have:=k3.cnt;simp only[List.length_append,List.length_singleton,Vo]at this ⊢;omega⟩,Ii (k1.nst _ (Ee.2 (Or.inr rfl)))⟩
 | fell=>intro _ _ _ ha;exact absurd rfl (ha _)
 | held _ ih=>
   intro hi hs hj _;obtain⟨k1,k2,k3,k4⟩:=ih hi hs (Nat.le_refl _) (λb e=>qt);exact⟨k1,k2,⟨k3.ex,k3.recs,by have:=k3.cnt;simp only[List.length_append,List.length_singleton,Vo]at this ⊢;omega⟩,⟨k4.1,k4.2.1,k4.2.2,qg⟩⟩
 | tfell=>intro _ _ _ ha;exact absurd rfl (ha _)
 | ran _ _ ih ih2=>
   intro hi hs hj _;obtain⟨k1,k2,k3,k4⟩:=ih hi hs (Nat.le_refl _) (λb e=>qt);obtain⟨l1,l2,l3,l4⟩:=ih2 k1 k2 ⟨⟨hj,λi hi=>qai,rfl⟩,qg,λg hg=>by simp at hg⟩ (λb e=>qt);exact⟨l1,l2,⟨(k3.trans l3).ex,(k3.trans l3).recs,by have:=(k3.trans l3).cnt;simp only[List.length_append,List.length_singleton,Vo]at this ⊢;omega⟩,l4⟩
 | rfell=>intro _ _ _ ha;exact absurd rfl (ha _)
 | tend=>intro hi hs _ _;exact⟨hi,hs,BGr.refl _ _,trivial⟩
 | tother h1 h2 _ ih=>intro hi hs hj ha;obtain⟨l1,l2,l3,l4⟩:=ih hi hs hj ha;exact⟨l1,l2,l3,l4.tri⟩
 | thit h1 h2 _ ih=>
   intro hi hs hj _;have hq:=hs.2.2 _ (Nat.lt_of_lt_of_le h1 hj);obtain⟨k1,k2,k3,_⟩:=ih hi hs ⟨hq.2.2.1,λj hj=>(hq.2.2.2 j hj).1⟩ (λb e=>qt);exact⟨k1,k2,k3,(rr_code h2.2).1,(rr_code h2.2).2,rr_text h2.2⟩
 | tno h1 h2 _ _ ih ih2=>
   intro hi hs hj ha;have hq:=hs.2.2 _ (Nat.lt_of_lt_of_le h1 hj);obtain⟨k1,k2,k3,_⟩:=ih hi hs ⟨hq.2.2.1,λj hj=>(hq.2.2.2 j hj).1⟩ (λb e=>qt);obtain⟨l1,l2,l3,l4⟩:=ih2 k1 k2 (Nat.le_trans hj k3.len) ha;refine⟨l1,l2,k3.trans l3,l4.tri⟩
 | tbad=>intro _ _ _ ha;exact absurd rfl (ha _)
 | hend=>intro hi hs _ _;exact⟨hi,hs,BGr.refl _ _,trivial⟩
 | hhas h1 h2 h3 _ ih=>intro hi hs hj ha;obtain⟨l1,l2,l3,l4⟩:=ih hi hs hj ha;exact⟨l1,l2,l3,l4.holds⟩
 | hhasno=>intro hi hs _ _;exact⟨hi,hs,BGr.refl _ _,trivial⟩
 | hask h1 h2 _ h4 _ ih ih2=>
   intro hi hs hj ha;obtain⟨k1,k2,k3,_⟩:=ih hi hs (hj.2 _ h1) (λb e=>qt);obtain⟨l1,l2,l3,l4⟩:=ih2 k1 k2 hj ha;exact⟨l1,l2,k3.trans l3,l4.holds⟩
 | haskno h1 h2 _ h4 ih=>
   intro hi hs hj _;obtain⟨k1,k2,k3,_⟩:=ih hi hs (hj.2 _ h1) (λb e=>qt);exact⟨k1,k2,k3,trivial⟩
 | haskbad=>intro _ _ _ ha;exact absurd rfl (ha _)
 | over h1 h2=>
   intro hi hs hj _;obtain⟨k1,k2,k3⟩:=hj.1.over h1;have hl:=hj.1.eq;have hy:=hj.2.1;obtain⟨g1,g2⟩:=h2.good hs hj.1.pr qb hj.2.2 k1 _;exact⟨hi,g1,g2,k2,k3,k1,by show _<=200;simp only;omega⟩
 | overbad=>intro _ _ _ ha;exact absurd rfl (ha _)
 | has h1 _ ih=>
   intro hi hs hj ha;obtain⟨k1,k2⟩:=hj.1.wait h1;obtain⟨l1,l2,l3,l4⟩:=ih hi hs ⟨hj.1.has _ _,qh,hj.2.2.snoc k2 (Ih _)⟩ ha;exact⟨l1,l2,l3,l4.run⟩
 | asked h1 _ _ ih ih2=>
   intro hi hs hj ha;obtain⟨k1,k2⟩:=hj.1.wait h1;obtain⟨i1,i2,i3,i4⟩:=ih hi hs k2 (λb e=>qt);have hd:=i1.done _ _ i4;obtain⟨j1,j2,j3,j4⟩:=ih2 i1 i2 ⟨hj.1.asked hd _,qh,hj.2.2.snoc k2 (Dt hd.t2)⟩ ha;exact⟨j1,j2,i3.trans j3,j4.run⟩
 | askbad=>intro _ _ _ ha;exact absurd rfl (ha _)
end Go.Proofs.YtoakjccojifagaaGreatDoor
