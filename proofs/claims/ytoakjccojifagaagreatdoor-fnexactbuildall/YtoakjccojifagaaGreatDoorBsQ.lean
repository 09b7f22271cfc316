import Derived.Test.YtoakjccojifagaaGreatDoorBsA
import Derived.Test.YtoakjccojifagaaGreatDoorBsP
namespace Go.Proofs.YtoakjccojifagaaGreatDoor
open Value renaming slice->J,string->S,agg->G
open Option renaming some->M,none->N
open Obj renaming cells->O
open Go renaming Value->Z,World->E
open _root_ renaming List->L,Nat->X
set_option maxHeartbeats 4000000
set_option maxRecDepth 100000
open _root_.Go.Proofs.Tryz Go.RowKit Go.Deep
set_option linter.unusedVariables false
set_option linter.unusedSimpArgs false
variable {w w':E} {B e sz n h j T b:X} {u x sv tv nw:Z} {xs:L Z} {cs:Array Z} {v:Hv} {R:L T3} {ms:Mm} {s:Sb} {st l':L By} {AM X':X->Prop}
theorem Oz{row:Option X}(ho:w.ownsRow B e sz u n xs)(hg:w.grownBy w' row)(hne:∀b,u.ownBlock=M b->row≠M b):w'.ownsRow B e sz u n xs:=Al ho λb e=>hg.block b (ho.lt b e).2 (λq=>hne b e q.symm)
theorem Dg{row:Option X}(ho:w.ownsRow B e sz u n xs)(hg:w.grownBy w' row)(hne:∀b,u.ownBlock=M b->row≠M b)(hb:w'.heap[h]?=M (O cs T (0,0)))(hT:T≠e):(w'.setCell ⟨h,j,N⟩ x).ownsRow B e sz u n xs:=Ap (Oz ho hg hne) ⟨_,hb⟩ hT x
theorem apart{B' e' sz' n':X}{v:Z}{ys:L Z}(ho:w.ownsRow B e sz u n xs)(ho':w.ownsRow B' e' sz' v n' ys)(hne:e≠e'):∀b,u.ownBlock=M b->v.ownBlock≠M b:=λb e q=>by
 obtain⟨_,cur,hh⟩:=Dv ho e;exact Ae ho' hne hh q
theorem Fx.gs{v:Z}{row:Option X}(k:Fx w B v R)(hg:w.grownBy w' row)(hr:∀b,row=M b->∃cs e,w.heap[b]?=M (O cs e (0,0))/\e≠95/\e≠139/\e≠136)(hb:w'.heap[h]?=M (O cs T (0,0)))(h1:T≠95)(h2:T≠139)(h3:T≠136):Fx (w'.setCell ⟨h,j,N⟩ x) B v R:=by
 obtain⟨xs,cv,lv,r⟩:=k
 have ne:∀ {e sz n:X} {u:Z} {ys:L Z},w.ownsRow B e sz u n ys->(e=95\/e=139\/e=136)->∀b,u.ownBlock=M b->row≠M b:=λho he b q1 q2=>by
  obtain⟨cs,e',c1,c2,c3,c4⟩:=hr b q2;exact Ae ho (λq=>he.elim (λk=>c2 (q.trans k)) (λk=>k.elim (λk=>c3 (q.trans k)) (λk=>c4 (q.trans k)))) c1 q1
 refine⟨xs,cv,lv,Dg r.row hg (ne r.row (Or.inl rfl)) hb h1,r.fil,λi hi=>?_,λi hi=>?_,r.apc,r.apl⟩
 ·obtain⟨ys,a,b⟩:=r.code i hi
  exact⟨ys,Dg a hg (ne a (Or.inr (Or.inl rfl))) hb h2,b⟩
 ·obtain⟨ys,a,b⟩:=r.look i hi
  exact⟨ys,Dg a hg (ne a (Or.inr (Or.inr rfl))) hb h3,b⟩
theorem Bd(ho:w.ownsRow B e sz u n xs):∀b,u.ownBlock=M b->∃cs,w.heap[b]?=M (O cs e (0,0)):=λb q=>by
 obtain⟨_,cur,hh⟩:=Dv ho q;exact⟨cur,hh⟩
theorem Er(hb:w.heap[h]?=M (O cs 105 (0,0)))(j:X)(x:Z):(w.setCell ⟨h,j,N⟩ x).heap[h]?=M (O (cs.setIfInBounds j x) 105 (0,0)):=jB hb x
theorem Gb.growM(k:Gb B h sv tv n w ms s st v)(gi:B<=w.heap.size){xs':L Z}{ms':Mm}(hl:ms'.length=ms.length+1)(ho:w'.ownsRow B 166 5 nw (ms.length+1) xs')(hf:FilM ms' xs')(hg:w.grownBy w' v.mv.ownBlock)(ct:∀b,nw.ownBlock=M b->v.mv.ownBlock=M b\/w.heap.size<=b):Gb B h sv tv n (w'.setCell ⟨h,5,N⟩ nw) ms' s st ⟨v.tx,v.qv,nw,v.kv,v.nv,v.ev⟩/\Dc B (Cj h v) (Cj h ⟨v.tx,v.qv,nw,v.kv,v.nv,v.ev⟩) w (w'.setCell ⟨h,5,N⟩ nw):=by
 obtain⟨xs,m1,m2⟩:=k.made;obtain⟨ys,cv,lv,r⟩:=k.rcs;have hh:v.mv.ownBlock≠M h:=Ae m1 qd k.blk;have hb:w'.heap[h]?=_:=Bx k.blk hg hh;have li:=Er hb 5 nw;simp only[List.setIfInBounds_toArray,List.set_cons_zero,List.set_cons_succ]at li;have T0:∀b,v.mv.ownBlock=M b->∃cs e,w.heap[b]?=M (O cs e (0,0))/\e≠95/\e≠139/\e≠136:=λb q=>by obtain⟨cs,c1⟩:=Bd m1 b q;exact⟨cs,166,c1,qd,qd,qd⟩
 refine⟨⟨k.hB,li,Dg k.txt hg (apart k.txt m1 qd) hb qd,k.rcs.gs hg T0 hb qd qd qd,⟨xs',by rw[hl];exact Ap ho ⟨_,hb⟩ qd _,hf⟩,Dg k.stk hg (apart k.stk m1 qd) hb qd,Dg k.ran hg (apart k.ran m1 qd) hb qd,Dg k.held hg (apart k.held m1 qd) hb qd,k.txa,k.tk,k.kn,k.ne⟩,?_⟩;refine⟨((Below.refl B w).grown hg gi (λj q=>(m1.lt j q).1)).setCell (p:=⟨h,5,N⟩) k.hB _,λb bu hx=>?_,λb hx=>?_⟩
 ·rw[Dj w' ⟨h,5,N⟩ _ b (λe=>hx (Or.inl e)),hg.block b bu (λq=>hx (Or.inr (Or.inr (Or.inl q.symm))))]
 ·rcases hx with q|q|q|q|q|q
  ·exact Or.inl (Or.inl q)
  ·exact Or.inl (Or.inr (Or.inl q))
  ·rcases ct b q with q|q;exact Or.inl (Or.inr (Or.inr (Or.inl q)));exact Or.inr q
  ·exact qge
  ·exact qgb
  ·exact qga
theorem Gb.growK(k:Gb B h sv tv n w ms s st v)(gi:B<=w.heap.size){pu:L By}(ho:w'.ownsRow B 9 1 nw pu.length (Av pu))(hg:w.grownBy w' v.kv.ownBlock)(ct:∀b,nw.ownBlock=M b->v.kv.ownBlock=M b\/w.heap.size<=b):Gb B h sv tv n (w'.setCell ⟨h,6,N⟩ nw) ms s pu ⟨v.tx,v.qv,v.mv,nw,v.nv,v.ev⟩/\Dc B (Cj h v) (Cj h ⟨v.tx,v.qv,v.mv,nw,v.nv,v.ev⟩) w (w'.setCell ⟨h,6,N⟩ nw):=by
 obtain⟨xs,m1,m2⟩:=k.made;obtain⟨ys,cv,lv,r⟩:=k.rcs;have hh:v.kv.ownBlock≠M h:=Ae k.stk qd k.blk;have hb:w'.heap[h]?=_:=Bx k.blk hg hh;have li:=Er hb 6 nw;simp only[List.setIfInBounds_toArray,List.set_cons_zero,List.set_cons_succ]at li;have T0:∀b,v.kv.ownBlock=M b->∃cs e,w.heap[b]?=M (O cs e (0,0))/\e≠95/\e≠139/\e≠136:=λb q=>by obtain⟨cs,c1⟩:=Bd k.stk b q;exact⟨cs,9,c1,qd,qd,qd⟩
 refine⟨⟨k.hB,li,Dg k.txt hg (λb q=>(k.tk b q).1) hb qd,k.rcs.gs hg T0 hb qd qd qd,⟨xs,Dg m1 hg (apart m1 k.stk qd) hb qd,m2⟩,Ap ho ⟨_,hb⟩ qd _,Dg k.ran hg (λb q q2=>(k.kn b q2).1 q) hb qd,Dg k.held hg (λb q q2=>(k.kn b q2).2 q) hb qd,k.txa,λb q=>⟨(λq2=>by rcases ct b q2 with q3|q3;exact(k.tk b q).1 q3;have:=(k.txt.lt b q).2;omega),(k.tk b q).2.1,(k.tk b q).2.2⟩,λb q=>⟨(λq2=>by rcases ct b q with q3|q3;exact(k.kn b q3).1 q2;have:=(k.ran.lt b q2).2;omega),(λq2=>by rcases ct b q with q3|q3;exact(k.kn b q3).2 q2;have:=(k.held.lt b q2).2;omega)⟩,λb q=>(k.ne b q)⟩,?_⟩;refine⟨((Below.refl B w).grown hg gi (λj q=>(k.stk.lt j q).1)).setCell (p:=⟨h,6,N⟩) k.hB _,λb bu hx=>?_,λb hx=>?_⟩
 ·rw[Dj w' ⟨h,6,N⟩ _ b (λe=>hx (Or.inl e)),hg.block b bu (λq=>hx (Or.inr (Or.inr (Or.inr (Or.inl q.symm)))))]
 ·rcases hx with q|q|q|q|q|q
  ·exact Or.inl (Or.inl q)
  ·exact Or.inl (Or.inr (Or.inl q))
  ·exact Or.inl (Or.inr (Or.inr (Or.inl q)))
  ·rcases ct b q with q|q;exact Or.inl (Or.inr (Or.inr (Or.inr (Or.inl q))));exact Or.inr q
  ·exact qgb
  ·exact qga
theorem Gb.growN(k:Gb B h sv tv n w ms s st v)(gi:B<=w.heap.size)(ho:w'.ownsRow B 9 1 nw l'.length (Av l'))(hg:w.grownBy w' v.nv.ownBlock)(ct:∀b,nw.ownBlock=M b->v.nv.ownBlock=M b\/w.heap.size<=b):Gb B h sv tv n (w'.setCell ⟨h,7,N⟩ nw) ms ⟨s.T,s.R,l',s.held⟩ st ⟨v.tx,v.qv,v.mv,v.kv,nw,v.ev⟩/\Dc B (Cj h v) (Cj h ⟨v.tx,v.qv,v.mv,v.kv,nw,v.ev⟩) w (w'.setCell ⟨h,7,N⟩ nw):=by
 obtain⟨xs,m1,m2⟩:=k.made;obtain⟨ys,cv,lv,r⟩:=k.rcs;have hh:v.nv.ownBlock≠M h:=Ae k.ran qd k.blk;have hb:w'.heap[h]?=_:=Bx k.blk hg hh;have li:=Er hb 7 nw;simp only[List.setIfInBounds_toArray,List.set_cons_zero,List.set_cons_succ]at li;have T0:∀b,v.nv.ownBlock=M b->∃cs e,w.heap[b]?=M (O cs e (0,0))/\e≠95/\e≠139/\e≠136:=λb q=>by obtain⟨cs,c1⟩:=Bd k.ran b q;exact⟨cs,9,c1,qd,qd,qd⟩
 refine⟨⟨k.hB,li,Dg k.txt hg (λb q=>(k.tk b q).2.1) hb qd,k.rcs.gs hg T0 hb qd qd qd,⟨xs,Dg m1 hg (apart m1 k.ran qd) hb qd,m2⟩,Dg k.stk hg (λb q=>(k.kn b q).1) hb qd,Ap ho ⟨_,hb⟩ qd _,Dg k.held hg (λb q q2=>k.ne b q2 q) hb qd,k.txa,λb q=>⟨(k.tk b q).1,(λq2=>by rcases ct b q2 with q3|q3;exact(k.tk b q).2.1 q3;have:=(k.txt.lt b q).2;omega),(k.tk b q).2.2⟩,λb q=>⟨(λq2=>by rcases ct b q2 with q3|q3;exact(k.kn b q).1 q3;have:=(k.stk.lt b q).2;omega),(k.kn b q).2⟩,λb q=>(λq2=>by rcases ct b q with q3|q3;exact(k.ne b q3) q2;have:=(k.held.lt b q2).2;omega)⟩,?_⟩;refine⟨((Below.refl B w).grown hg gi (λj q=>(k.ran.lt j q).1)).setCell (p:=⟨h,7,N⟩) k.hB _,λb bu hx=>?_,λb hx=>?_⟩
 ·rw[Dj w' ⟨h,7,N⟩ _ b (λe=>hx (Or.inl e)),hg.block b bu (λq=>hx (Or.inr (Or.inr (Or.inr (Or.inr (Or.inl q.symm))))))]
 ·rcases hx with q|q|q|q|q|q
  ·exact Or.inl (Or.inl q)
  ·exact Or.inl (Or.inr (Or.inl q))
  ·exact Or.inl (Or.inr (Or.inr (Or.inl q)))
  ·exact qge
  ·rcases ct b q with q|q;exact Or.inl (Or.inr (Or.inr (Or.inr (Or.inr (Or.inl q)))));exact Or.inr q
  ·exact qga
theorem Gb.growE(k:Gb B h sv tv n w ms s st v)(gi:B<=w.heap.size)(ho:w'.ownsRow B 9 1 nw l'.length (Av l'))(hg:w.grownBy w' v.ev.ownBlock)(ct:∀b,nw.ownBlock=M b->v.ev.ownBlock=M b\/w.heap.size<=b):Gb B h sv tv n (w'.setCell ⟨h,8,N⟩ nw) ms ⟨s.T,s.R,s.ran,l'⟩ st ⟨v.tx,v.qv,v.mv,v.kv,v.nv,nw⟩/\Dc B (Cj h v) (Cj h ⟨v.tx,v.qv,v.mv,v.kv,v.nv,nw⟩) w (w'.setCell ⟨h,8,N⟩ nw):=by
 obtain⟨xs,m1,m2⟩:=k.made;obtain⟨ys,cv,lv,r⟩:=k.rcs;have hh:v.ev.ownBlock≠M h:=Ae k.held qd k.blk;have hb:w'.heap[h]?=_:=Bx k.blk hg hh;have li:=Er hb 8 nw;simp only[List.setIfInBounds_toArray,List.set_cons_zero,List.set_cons_succ]at li;have T0:∀b,v.ev.ownBlock=M b->∃cs e,w.heap[b]?=M (O cs e (0,0))/\e≠95/\e≠139/\e≠136:=λb q=>by obtain⟨cs,c1⟩:=Bd k.held b q;exact⟨cs,9,c1,qd,qd,qd⟩
 refine⟨⟨k.hB,li,Dg k.txt hg (λb q=>(k.tk b q).2.2) hb qd,k.rcs.gs hg T0 hb qd qd qd,⟨xs,Dg m1 hg (apart m1 k.held qd) hb qd,m2⟩,Dg k.stk hg (λb q=>(k.kn b q).2) hb qd,Dg k.ran hg (λb q=>k.ne b q) hb qd,Ap ho ⟨_,hb⟩ qd _,k.txa,λb q=>⟨(k.tk b q).1,(k.tk b q).2.1,(λq2=>by rcases ct b q2 with q3|q3;exact(k.tk b q).2.2 q3;have:=(k.txt.lt b q).2;omega)⟩,λb q=>⟨(k.kn b q).1,(λq2=>by rcases ct b q2 with q3|q3;exact(k.kn b q).2 q3;have:=(k.stk.lt b q).2;omega)⟩,λb q=>(λq2=>by rcases ct b q2 with q3|q3;exact(k.ne b q) q3;have:=(k.ran.lt b q).2;omega)⟩,?_⟩;refine⟨((Below.refl B w).grown hg gi (λj q=>(k.held.lt j q).1)).setCell (p:=⟨h,8,N⟩) k.hB _,λb bu hx=>?_,λb hx=>?_⟩
 ·rw[Dj w' ⟨h,8,N⟩ _ b (λe=>hx (Or.inl e)),hg.block b bu (λq=>hx (Or.inr (Or.inr (Or.inr (Or.inr (Or.inr q.symm))))))]
 ·rcases hx with q|q|q|q|q|q
  ·exact Or.inl (Or.inl q)
  ·exact Or.inl (Or.inr (Or.inl q))
  ·exact Or.inl (Or.inr (Or.inr (Or.inl q)))
  ·exact qge
  ·exact qgb
  ·rcases ct b q with q|q;exact Or.inl (Or.inr (Or.inr (Or.inr (Or.inr (Or.inr q)))));exact Or.inr q
theorem Fx.set1{v:Z}(k:Fx w B v R)(hb:Dn w b T)(h1:T≠95)(h2:T≠139)(h3:T≠136)(x:Z):Fx (w.setCell ⟨b,j,N⟩ x) B v R:=by
 obtain⟨xs,cv,lv,r⟩:=k;exact⟨xs,cv,lv,Ap r.row hb h1 x,r.fil,λi hi=>by obtain⟨ys,a,b⟩:=r.code i hi;exact⟨ys,Ap a hb h2 x,b⟩,λi hi=>by obtain⟨ys,a,b⟩:=r.look i hi;exact⟨ys,Ap a hb h3 x,b⟩,r.apc,r.apl⟩
theorem Gb.setTx{w1:E}(k:Gb B h sv tv n w ms s st v)(gi:B<=w.heap.size)(hb:Bw w w1){T':L By}{g p:X}(ho:w1.ownsRow B 9 1 (J (p_ g) T'.length p) T'.length (Av T'))(hg:v.tx.ownBlock=M g\/w.heap.size<=g):Gb B h sv tv n (((w1.setCell ⟨h,2,N⟩ (I n)).setCell ⟨h,3,N⟩ (J (p_ g) T'.length p)).setCell ⟨h,4,N⟩ v.qv) ms ⟨T',s.R,s.ran,s.held⟩ st ⟨J (p_ g) T'.length p,v.qv,v.mv,v.kv,v.nv,v.ev⟩/\Dc B (Cj h v) (Cj h ⟨J (p_ g) T'.length p,v.qv,v.mv,v.kv,v.nv,v.ev⟩) w (((w1.setCell ⟨h,2,N⟩ (I n)).setCell ⟨h,3,N⟩ (J (p_ g) T'.length p)).setCell ⟨h,4,N⟩ v.qv):=by
 have q:=k.bl hb;obtain⟨xs,m1,m2⟩:=q.made;have hh:Dn w1 h 105:=⟨_,q.blk⟩;obtain⟨x2,ex2⟩:=Aj (I n);obtain⟨x3,ex3⟩:∃x:Z,J (p_ g) T'.length p=x:=⟨_,rfl⟩;have a1:Dn (w1.setCell ⟨h,2,N⟩ x2) h 105:=hh.set x2;have a2:Dn ((w1.setCell ⟨h,2,N⟩ x2).setCell ⟨h,3,N⟩ x3) h 105:=a1.set x3;have li:=Er (Er (Er q.blk 2 x2) 3 x3) 4 v.qv;simp only[List.setIfInBounds_toArray,List.set_cons_zero,List.set_cons_succ]at li;have s3:∀ {e sz l:X} {u:Z} {ys:L Z},w1.ownsRow B e sz u l ys->105≠e->(((w1.setCell ⟨h,2,N⟩ x2).setCell ⟨h,3,N⟩ x3).setCell ⟨h,4,N⟩ v.qv).ownsRow B e sz u l ys:=λr hne=>Ap (Ap (Ap r hh hne x2) a1 hne x3) a2 hne v.qv
 have hd:∀b,(Value.slice (p_ g) T'.length p).ownBlock=M b->v.kv.ownBlock≠M b/\v.nv.ownBlock≠M b/\v.ev.ownBlock≠M b:=λb e=>by
  obtain rfl:g=b:=qct
  rcases hg with q|q
  ·exact k.tk g q
  ·exact⟨λe=>by have:=(k.stk.lt g e).2;omega,λe=>by have:=(k.ran.lt g e).2;omega,λe=>by have:=(k.held.lt g e).2;omega⟩
 have hrc:=((q.rcs.set1 (j:=2) hh qd qd qd x2).set1 (j:=3) a1 qd qd qd x3).set1 (j:=4) a2 qd qd qd v.qv;rw[ex2,ex3];rw[ex3]at ho hd;refine⟨⟨k.hB,by rw[ex2];exact li,s3 ho qd,hrc,⟨xs,s3 m1 qd,m2⟩,s3 q.stk qd,s3 q.ran qd,s3 q.held qd,⟨g,p,ex3.symm⟩,hd,k.kn,k.ne⟩,?_⟩;refine⟨(((hb.mono gi).setCell (p:=⟨h,2,N⟩) k.hB _).setCell (p:=⟨h,3,N⟩) k.hB _).setCell (p:=⟨h,4,N⟩) k.hB _,λb hl hx=>?_,λb hx=>Or.inl hx⟩;have hne:b≠h:=λe=>hx (Or.inl e);rw[Dj _ ⟨h,4,N⟩ _ b hne,Dj _ ⟨h,3,N⟩ _ b hne,Dj _ ⟨h,2,N⟩ _ b hne];exact hb.block b hl
theorem Dc.set1(h:Dc B AM X' w w')(hb:w.heap.size<=b)(hB:B<=b)(j:X)(u:Z):Dc B AM X' w (w'.setCell ⟨b,j,N⟩ u):=
 ⟨h.bel.setCell (p:=⟨b,j,N⟩) hB u,λc hc hx=>by rw[Dj w' ⟨b,j,N⟩ u c (by show c≠b;omega)];exact h.keep c hc hx,h.new⟩
theorem Dc.set3(h:Dc B AM X' w w')(hb:w.heap.size<=b)(hB:B<=b)(u0 u1 u2:Z):Dc B AM X' w (((w'.setCell ⟨b,0,N⟩ u0).setCell ⟨b,1,N⟩ u1).setCell ⟨b,2,N⟩ u2):=((h.set1 hb hB 0 u0).set1 hb hB 1 u1).set1 hb hB 2 u2
theorem Gb.set1(k:Gb B h sv tv n w ms s st v)(hb:Dn w b T)(h1:T≠105/\T≠9/\T≠166/\T≠95/\T≠139/\T≠136)(j:X)(x:Z):Gb B h sv tv n (w.setCell ⟨b,j,N⟩ x) ms s st v:=by
 obtain⟨a1,a2,a3,a4,a5,a6⟩:=h1;obtain⟨xs,m1,m2⟩:=k.made
 have hne:h≠b:=λe=>by
  obtain⟨cs,hc⟩:=hb;have:=k.blk;rw[e,hc]at this;injection this with this;injection this with _ h5;exact a1 h5
 exact⟨k.hB,Fk k.blk hne x,Ap k.txt hb a2 x,k.rcs.set1 hb a4 a5 a6 x,⟨xs,Ap m1 hb a3 x,m2⟩,Ap k.stk hb a2 x,Ap k.ran hb a2 x,Ap k.held hb a2 x,k.txa,k.tk,k.kn,k.ne⟩
theorem Gb.set3(k:Gb B h sv tv n w ms s st v)(hb:Dn w b T)(h1:T≠105/\T≠9/\T≠166/\T≠95/\T≠139/\T≠136)(u0 u1 u2:Z):Gb B h sv tv n (((w.setCell ⟨b,0,N⟩ u0).setCell ⟨b,1,N⟩ u1).setCell ⟨b,2,N⟩ u2) ms s st v:=((k.set1 hb h1 0 u0).set1 (hb.set u0) h1 1 u1).set1 ((hb.set u0).set u1) h1 2 u2
theorem has_any(h:X)(sa ta:Option Addr)(c1 c2:X)(ss:L S2)(ts:L T2)(nm:By)(w:E)(k0:w.cell? ⟨h,0,N⟩=M (J sa ss.length c1))(k1:w.cell? ⟨h,1,N⟩=M (J ta ts.length c2))(rs:Hr w sa ss)(rt:Hb w ta ts)(hl:ss.length<=1048576)(K8:ts.length<=1048576):Calls prog 123 #[.pointer (p_ h),S nm] w λe w'=>Bw w w'/\e=.returned (.bool (Ck ss ts nm)):=by
 have HS:Hd (Hr w sa ss):=rs
 have HT:Hd (Hb w ta ts):=rt
 clear rs rt
 go_enter func123,ntmps123
 go_wp2_with fail
 refine(Ru sa ta ts.length c1 c2 ss nm _ HS.o hl).mono ?_
 rintro e w1 ⟨af,hr⟩
 have j0:=Aa af k0
 have j1:=Aa af k1
 rcases hr with⟨i,rfl,hi,e1⟩|⟨rfl,hn⟩
 ·have HO:Hd (Ck ss ts nm=true):=Ro (Or.inl (e1▸Hl hi));have d0:decide ((0:Int)<=(i:Int))=true:=qg;clear hi e1 k0 k1;go_wp2_with fail;go_ret;exact⟨af,by rw[HO.o];rfl⟩
 ·have HN:Hd (¬ Eg (Am ss) nm):=hn;clear hn k0 k1;go_wp2_with fail;refine(Rt sa ta ss.length c1 c2 ts nm _ (HT.o.bl af) K8).mono ?_;rintro e w2 ⟨ag,hr⟩;have bg:=bt af ag
  rcases hr with⟨i,rfl,hi,e1⟩|⟨rfl,hn⟩
  ·have HO:Hd (Ck ss ts nm=true):=Ro (Or.inr (e1▸Iu hi));have d0:decide ((0:Int)<=(i:Int))=true:=qg;clear hi e1;go_wp2_with fail;go_ret;exact⟨bg,by rw[HO.o];rfl⟩
  ·have HO:Hd (Ck ss ts nm=false):=Yj (λh=>h.elim HN.o hn);clear hn;go_wp2_with fail;go_ret;exact⟨bg,by rw[HO.o];rfl⟩
theorem Tryz.info131x:(prog.info? 166).map (λi=>(i.zero,i.size,i.bytes))=M (M (G #[ze,I 0,ze,nS,I 0]),5,72):=qi
theorem step_appM{s x:Operand}{W:E}{ops:Array Oper}{o:Oper}{a:Act}{K:Act->E->Prop}{Q:Exit->Act->E->Prop}{AF:Prop}(ru:o.guard=N)(ho:o.op=.call { callee:=.builtin .append,args:=#[s,x],argTypes:=#[103,103] })(B:X)(v:Z)(nn:X)(xs:L Z)(hs:a.eval s=v)(ah:W.ownsRow B 166 5 v nn xs)(d:X)(u0 u1 u2 u3 u4:Z)(hx:a.eval x=J (p_ d) 1 1)(hc:W.heap[d]?=M (O #[u0,u1,u2,u3,u4] 166 (0,0)))(h1:∀u∈[u0,u1,u2,u3,u4],u.oneCell'=true)(hB:B<=W.heap.size)(hn:nn<=1000000000000)(h:∀g' ai w',w'.ownsRow B 166 5 (J (p_ g') (nn+1) ai) (nn+1) (xs++[u0,u1,u2,u3,u4])->W.grownBy w' v.ownBlock->(v.ownBlock=M g'\/g'=W.heap.size)->K (a.put o.dst (J (p_ g') (nn+1) ai)) w'):if Region.wanted o (yielded ops a.tmps)=true then Oper.wp prog o a W K Q else AF:=by
 obtain⟨i0,hi,bo,bm,cm⟩:=info_parts Tryz.info131x
 refine step_append_lies (w:=W) ru s x 103 ho B 166 i0 (G #[ze,I 0,ze,nS,I 0]) 5 72 underlying103 hi bo bm cm rfl qd _ nn xs hs ah ⟨d,0,N⟩ 1 1 [u0,u1,u2,u3,u4] hx rfl
  (World.news_of_block (cs:=#[u0,u1,u2,u3,u4]) (t:=166) (fr:=(0,0)) hc) h1 qb qm qb hB W.heap.size rfl ?_
 exact qgd
theorem Qd(B h n:X)(sv tv:Z)(ms:Mm)(s:Sb)(st:L By)(v:Hv)(nm:By)(d:Md)(r:Int)(w:E)(hs:Gb B h sv tv n w ms s st v)(hB:B<=w.heap.size)(hm:ms.length<=1000000000000):Calls prog 95 #[.pointer (p_ h),S nm,G #[I d.c,S d.t,nS],I r] w λe w'=>e=.returned (G #[I d.c,S d.t,nS])/\∃v',Dc B (Cj h v) (Cj h v') w w'/\Gb B h sv tv n w' (ms++[(nm,d)]) s st v':=by
 obtain⟨c,ec⟩:=Aj d.c;obtain⟨t,et⟩:=Aj d.t;rw[ec,et];have EC:=Ad (And.intro ec et);clear ec et;obtain⟨W,eW⟩:=Aj ((w.alloc (O #[I c,S t,nS] 121)).alloc (O #[I 0,ze,nS] 121));have HW:Hd (Bw w W):=by show Below _ _ _;rw[←eW];exact(aN _ _).alloc qg _
 have HQ:Hd (W.heap[w.heap.size]?=M (O #[I c,S t,nS] 121 (0,0))):=qel
 have HR:Hd (W.heap[w.heap.size+1]?=M (O #[I 0,ze,nS] 121 (0,0))):=by
  show _=_;rw[←eW];have:=Hj (w.alloc (O #[I c,S t,nS] 121)) (O #[I 0,ze,nS] 121)
  rwa [show(w.alloc (O #[I c,S t,nS] 121)).heap.size=w.heap.size+1 from qg]at this
 have HS:=Ad (hs.bl HW.o);have aj:h<w.heap.size:=Ag hs.blk;obtain⟨Q,eQ⟩:=Aj w.heap.size;have HHB:=Ad hs.hB;have HWS:Hd (Q+1<W.heap.size):=by show _<_;rw[←eQ];exact Ag HR.o
 clear hs;rw[eQ]at HQ HR aj hB;go_enter func95,ntmps95;go_wp2_with fail
 try rw[eQ]
 clear eW;refine Lt.begin 13 (λw'=>w'.cell? ⟨h,5,N⟩=M v.mv/\w'.heap[Q]?=M (O #[I c,S t,nS] 121 (0,0))) qi ?_;obtain⟨wD,eD⟩:=Aj W.drew;rw[eD];have dj:Bw W wD:=qab;clear eD;replace HS:=Ad (HS.o.bl dj);replace HQ:=Ad (Af HQ.o dj);replace HR:=Ad (Af HR.o dj);replace HW:=Ad (bt HW.o dj);have ia:(λw'=>w'.cell? ⟨h,5,N⟩=M v.mv/\w'.heap[Q]?=M (O #[I c,S t,nS] 121 (0,0))) wD:=⟨(by rw[cH HS.o.blk];rfl),HQ.o⟩;change K 0 _
 iterate 9
  refine Lt.ti (v:=?_) ia ?_ ?_;rotate_left 1
  ·exact qmb
  simp only[gX]
 refine Lt.sp (i:=9) (λK hK=>?_);go_simp;refine Bq (Q:=λx=>K _ x) ?_;intro wL ib HL
 try dsimp only
 obtain⟨dL,edL⟩:=Aj wD.heap.size;rw[edL]at HL ⊢;replace HS:=Ad (HS.o.bl ib);replace HQ:=Ad (Af HQ.o ib);replace HR:=Ad (Af HR.o ib);replace HW:=Ad (bt HW.o ib);have wg:(λw'=>w'.cell? ⟨h,5,N⟩=M v.mv/\w'.heap[Q]?=M (O #[I c,S t,nS] 121 (0,0))) wL:=⟨(by rw[cH HS.o.blk];rfl),HQ.o⟩;have Q2:B<=wL.heap.size:=zo HW.o.size;refine hK.out _ _ (λ_=>wg) (λ_=>?_);clear hK K 
 try simp only[gX]
 refine Lt.sp (i:=10) (λK hK=>?_);obtain⟨xs,m1,m2⟩:=HS.o.made;refine step_appM rfl qo B v.mv ms.length xs qo m1 dL _ _ _ _ _ qo HL.o qcx Q2 hm ?_;intro g' ai w7 ah ae ct
 have sw:∀b,(Value.slice (p_ g') (ms.length+1) ai).ownBlock=M b->v.mv.ownBlock=M b\/wL.heap.size<=b:=λb q=>by
  obtain rfl:g'=b:=qar
  rcases ct with q|q
  ·exact Or.inl q
  ·right;omega
 have hfil:FilM (ms++[(nm,d)]) (xs++[S nm,I c,S t,nS,I r]):=by have:=m2.snoc (zo m1.1) nm d r;rw[EC.o.1,EC.o.2]at this;exact this
 have HG:=Ad (HS.o.growM (nw:=J (p_ g') (ms.length+1) ai) (ms':=ms++[(nm,d)]) Q2 qg ah hfil ae sw);have hmh:v.mv.ownBlock≠M h:=Ae m1 qd HS.o.blk;have hmq:v.mv.ownBlock≠M Q:=Ae m1 qd HQ.o;have hmr:v.mv.ownBlock≠M (Q+1):=Ae m1 qd HR.o;have N6:=Ad (Bx HS.o.blk ae hmh);have HQ7:=Ad (Bx HQ.o ae hmq);have HR7:=Ad (Bx HR.o ae hmr);have HFL:Hd (Dc B (Cj h v) (Cj h v) w wL):=Dc.of_below HW.o qb;have H9:(λw'=>w'.cell? ⟨h,5,N⟩=M v.mv/\w'.heap[Q]?=M (O #[I c,S t,nS] 121 (0,0))) w7:=⟨(by rw[cH N6.o];rfl),HQ7.o⟩;refine hK.out _ _ (λ_=>H9) (λ_=>?_);clear hK K ae ah;simp only[gX];refine Lt.sp (i:=11) (λK hK=>?_);go_simp;refine hK.out _ _ (λ_=>H9) (λ_=>?_);clear hK K 
 try simp only[gX]
 refine Lt.ti (i:=12) (v:=?_) H9 ?_ ?_;rotate_left 1
 ·exact qmb
 simp only[gX];have k5:w7.cell? ⟨h,5,N⟩=M v.mv:=H9.1;have kf:=fZ N6.o;refine Lt.sp (i:=13) (λK hK=>?_);go_simp;refine hK.out _ _ (λh=>absurd rfl h) (λ_=>?_);clear hK K;refine Lt.done qi ?_ _;obtain⟨V,eV⟩:=Aj (w7.setCell ⟨h,5,N⟩ (J (p_ g') (ms.length+1) ai));rw[eV]at HG ⊢;have HQV:V.heap[Q]?=M (O #[I c,S t,nS] 121 (0,0)):=by rw[←eV];exact Fk HQ7.o qb _
 have Q8:V.heap[Q+1]?=M (O #[I 0,ze,nS] 121 (0,0)):=by rw[←eV];exact Fk HR7.o qb _
 obtain⟨q0,q1,q2⟩:=Bb HQV;obtain⟨r0,r1,r2,rf⟩:=Dx Q8;have hRs:Q+1<V.heap.size:=Ag Q8;clear eV k5 kf H9;go_wp2_with fail;obtain⟨v0,v1,v2,_⟩:=Dx (Bp Q8 (I c) (S t) nS);exact bR (v:=G #[I c,S t,nS]) (by simp[results,results95,go_sem,v0,v1,v2]) rfl ⟨rfl,_,(HFL.o.trans HG.o.2).set3 qb qb _ _ _,HG.o.1.set3 ⟨_,Q8⟩ qd _ _ _⟩
end Go.Proofs.YtoakjccojifagaaGreatDoor
