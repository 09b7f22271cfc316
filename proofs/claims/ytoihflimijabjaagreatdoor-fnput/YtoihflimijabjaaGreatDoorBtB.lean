import Derived.Test.YtoihflimijabjaaGreatDoorBsA
import Derived.Test.YtoihflimijabjaaGreatDoorBsP
import Derived.Test.YtoihflimijabjaaGreatDoorEdF
namespace Go.Proofs.YtoihflimijabjaaGreatDoor
open Value renaming slice->J,string->S,agg->G
open Option renaming some->M,none->N
open Obj renaming cells->O
open Go renaming Value->Z,World->E
open _root_ renaming List->L,Nat->X
set_option maxHeartbeats 4000000
set_option maxRecDepth 100000
open _root_.Go.Proofs.Tryz Go.RowKit Go.Deep
set_option linter.unusedVariables false
set_option linter.unusedSimpArgs false
variable {w':E} {B e sz n h j T b:X} {u x sv tv nw nv:Z} {xs:L Z} {cs:Array Z} {v:Hv} {R:L T3} {ms:Mm} {s:Sb} {l':L By} {AN X':X->Prop} {a:Option Addr} {nm:By}
theorem Ex{w:E}{row:Option X}(ho:w.ownsRow B e sz u n xs)(hg:w.grownBy w' row)(aq:∀b,u.ownBlock=M b->row≠M b):w'.ownsRow B e sz u n xs:=Cc ho λb e=>hg.block b (ho.lt b e).2 (λq=>aq b e q.symm)
theorem Cw{w:E}{row:Option X}(ho:w.ownsRow B e sz u n xs)(hg:w.grownBy w' row)(aq:∀b,u.ownBlock=M b->row≠M b)(hb:w'.heap[h]?=M (O cs T (0,0)))(hT:T≠e):(w'.setCell ⟨h,j,N⟩ x).ownsRow B e sz u n xs:=Ak (Ex ho hg aq) ⟨_,hb⟩ hT x
theorem apart{w:E}{B' e' sz' n':X}{v:Z}{ys:L Z}(ho:w.ownsRow B e sz u n xs)(As:w.ownsRow B' e' sz' v n' ys)(aq:e≠e'):∀b,u.ownBlock=M b->v.ownBlock≠M b:=λb e q=>by
 obtain⟨_,cur,hh⟩:=Bh ho e;exact Ah As aq hh q
theorem Gr.gs{w:E}{v:Z}{row:Option X}(k:Gr w B v R)(hg:w.grownBy w' row)(hr:∀b,row=M b->∃cs e,w.heap[b]?=M (O cs e (0,0))/\e≠56/\e≠103/\e≠79)(hb:w'.heap[h]?=M (O cs T (0,0)))(h1:T≠56)(h2:T≠103)(h3:T≠79):Gr (w'.setCell ⟨h,j,N⟩ x) B v R:=by
 obtain⟨xs,cv,lv,r⟩:=k
 have ne:∀ {e sz n:X} {u:Z} {ys:L Z},w.ownsRow B e sz u n ys->(e=56\/e=103\/e=79)->∀b,u.ownBlock=M b->row≠M b:=λho he b q1 q2=>by
  obtain⟨cs,e',c1,c2,c3,c4⟩:=hr b q2;exact Ah ho (λq=>he.elim (λk=>c2 (q.trans k)) (λk=>k.elim (λk=>c3 (q.trans k)) (λk=>c4 (q.trans k)))) c1 q1
 refine⟨xs,cv,lv,Cw r.row hg (ne r.row (Or.inl rfl)) hb h1,r.fil,λi hi=>?_,λi hi=>?_,r.apc,r.apl⟩
 ·obtain⟨ys,a,b⟩:=r.code i hi
  exact⟨ys,Cw a hg (ne a (Or.inr (Or.inl rfl))) hb h2,b⟩
 ·obtain⟨ys,a,b⟩:=r.look i hi
  exact⟨ys,Cw a hg (ne a (Or.inr (Or.inr rfl))) hb h3,b⟩
theorem Hk{w:E}(ho:w.ownsRow B e sz u n xs):∀b,u.ownBlock=M b->∃cs,w.heap[b]?=M (O cs e (0,0)):=λb q=>by
 obtain⟨_,cur,hh⟩:=Bh ho q;exact⟨cur,hh⟩
theorem Ej{w:E}(hb:w.heap[h]?=M (O cs 120 (0,0)))(j:X)(x:Z):(w.setCell ⟨h,j,N⟩ x).heap[h]?=M (O (cs.setIfInBounds j x) 120 (0,0)):=jB hb x
theorem Fl.growM{w:E}{st:L By}(k:Fl B h sv tv n w ms s st v)(aj:B<=w.heap.size){R8:L Z}{ms':Mm}(hl:ms'.length=ms.length+1)(ho:w'.ownsRow B 140 5 nw (ms.length+1) R8)(hf:FilM ms' R8)(hg:w.grownBy w' v.mv.ownBlock)(br:∀b,nw.ownBlock=M b->v.mv.ownBlock=M b\/w.heap.size<=b):Fl B h sv tv n (w'.setCell ⟨h,5,N⟩ nw) ms' s st ⟨v.tx,v.qv,nw,v.kv,v.nv,v.ev⟩/\Cp B (Bs h v) (Bs h ⟨v.tx,v.qv,nw,v.kv,v.nv,v.ev⟩) w (w'.setCell ⟨h,5,N⟩ nw):=by
 obtain⟨xs,m1,m2⟩:=k.made;obtain⟨ys,cv,lv,r⟩:=k.rcs;have hh:v.mv.ownBlock≠M h:=Ah m1 qh k.blk;have hb:w'.heap[h]?=_:=Ao k.blk hg hh;have gy:=Ej hb 5 nw;simp only[List.setIfInBounds_toArray,List.set_cons_zero,List.set_cons_succ]at gy;have hrk:∀b,v.mv.ownBlock=M b->∃cs e,w.heap[b]?=M (O cs e (0,0))/\e≠56/\e≠103/\e≠79:=λb q=>by obtain⟨cs,c1⟩:=Hk m1 b q;exact⟨cs,140,c1,qh,qh,qh⟩
 refine⟨⟨k.hB,gy,Cw k.txt hg (apart k.txt m1 qh) hb qh,k.rcs.gs hg hrk hb qh qh qh,⟨R8,by rw[hl];exact Ak ho ⟨_,hb⟩ qh _,hf⟩,Cw k.stk hg (apart k.stk m1 qh) hb qh,Cw k.ran hg (apart k.ran m1 qh) hb qh,Cw k.held hg (apart k.held m1 qh) hb qh,k.txa,k.tk,k.kn,k.ne⟩,?_⟩;refine⟨((Below.refl B w).grown hg aj (λj q=>(m1.lt j q).1)).setCell (p:=⟨h,5,N⟩) k.hB _,λb di hx=>?_,λb hx=>?_⟩
 ·rw[hC w' ⟨h,5,N⟩ _ b (λe=>hx (Or.inl e)),hg.block b di (λq=>hx (Or.inr (Or.inr (Or.inl q.symm))))]
 ·rcases hx with q|q|q|q|q|q
  ·exact Or.inl (Or.inl q)
  ·exact Or.inl (Or.inr (Or.inl q))
  ·rcases br b q with q|q;exact Or.inl (Or.inr (Or.inr (Or.inl q)));exact Or.inr q
  ·exact qev
  ·exact qet
  ·exact qes
theorem Fl.growK{w:E}{st:L By}(k:Fl B h sv tv n w ms s st v)(aj:B<=w.heap.size){st':L By}(ho:w'.ownsRow B 9 1 nw st'.length (Ar st'))(hg:w.grownBy w' v.kv.ownBlock)(br:∀b,nw.ownBlock=M b->v.kv.ownBlock=M b\/w.heap.size<=b):Fl B h sv tv n (w'.setCell ⟨h,6,N⟩ nw) ms s st' ⟨v.tx,v.qv,v.mv,nw,v.nv,v.ev⟩/\Cp B (Bs h v) (Bs h ⟨v.tx,v.qv,v.mv,nw,v.nv,v.ev⟩) w (w'.setCell ⟨h,6,N⟩ nw):=by
 obtain⟨xs,m1,m2⟩:=k.made;obtain⟨ys,cv,lv,r⟩:=k.rcs;have hh:v.kv.ownBlock≠M h:=Ah k.stk qh k.blk;have hb:w'.heap[h]?=_:=Ao k.blk hg hh;have gy:=Ej hb 6 nw;simp only[List.setIfInBounds_toArray,List.set_cons_zero,List.set_cons_succ]at gy;have hrk:∀b,v.kv.ownBlock=M b->∃cs e,w.heap[b]?=M (O cs e (0,0))/\e≠56/\e≠103/\e≠79:=λb q=>by obtain⟨cs,c1⟩:=Hk k.stk b q;exact⟨cs,9,c1,qh,qh,qh⟩
 refine⟨⟨k.hB,gy,Cw k.txt hg (λb q=>(k.tk b q).1) hb qh,k.rcs.gs hg hrk hb qh qh qh,⟨xs,Cw m1 hg (apart m1 k.stk qh) hb qh,m2⟩,Ak ho ⟨_,hb⟩ qh _,Cw k.ran hg (λb q q2=>(k.kn b q2).1 q) hb qh,Cw k.held hg (λb q q2=>(k.kn b q2).2 q) hb qh,k.txa,λb q=>⟨(λq2=>by rcases br b q2 with q3|q3;exact(k.tk b q).1 q3;have:=(k.txt.lt b q).2;omega),(k.tk b q).2.1,(k.tk b q).2.2⟩,λb q=>⟨(λq2=>by rcases br b q with q3|q3;exact(k.kn b q3).1 q2;have:=(k.ran.lt b q2).2;omega),(λq2=>by rcases br b q with q3|q3;exact(k.kn b q3).2 q2;have:=(k.held.lt b q2).2;omega)⟩,λb q=>(k.ne b q)⟩,?_⟩;refine⟨((Below.refl B w).grown hg aj (λj q=>(k.stk.lt j q).1)).setCell (p:=⟨h,6,N⟩) k.hB _,λb di hx=>?_,λb hx=>?_⟩
 ·rw[hC w' ⟨h,6,N⟩ _ b (λe=>hx (Or.inl e)),hg.block b di (λq=>hx (Or.inr (Or.inr (Or.inr (Or.inl q.symm)))))]
 ·rcases hx with q|q|q|q|q|q
  ·exact Or.inl (Or.inl q)
  ·exact Or.inl (Or.inr (Or.inl q))
  ·exact Or.inl (Or.inr (Or.inr (Or.inl q)))
  ·rcases br b q with q|q;exact Or.inl (Or.inr (Or.inr (Or.inr (Or.inl q))));exact Or.inr q
  ·exact qet
  ·exact qes
theorem Fl.growN{w:E}{st:L By}(k:Fl B h sv tv n w ms s st v)(aj:B<=w.heap.size)(ho:w'.ownsRow B 9 1 nw l'.length (Ar l'))(hg:w.grownBy w' v.nv.ownBlock)(br:∀b,nw.ownBlock=M b->v.nv.ownBlock=M b\/w.heap.size<=b):Fl B h sv tv n (w'.setCell ⟨h,7,N⟩ nw) ms ⟨s.T,s.R,l',s.held⟩ st ⟨v.tx,v.qv,v.mv,v.kv,nw,v.ev⟩/\Cp B (Bs h v) (Bs h ⟨v.tx,v.qv,v.mv,v.kv,nw,v.ev⟩) w (w'.setCell ⟨h,7,N⟩ nw):=by
 obtain⟨xs,m1,m2⟩:=k.made;obtain⟨ys,cv,lv,r⟩:=k.rcs;have hh:v.nv.ownBlock≠M h:=Ah k.ran qh k.blk;have hb:w'.heap[h]?=_:=Ao k.blk hg hh;have gy:=Ej hb 7 nw;simp only[List.setIfInBounds_toArray,List.set_cons_zero,List.set_cons_succ]at gy;have hrk:∀b,v.nv.ownBlock=M b->∃cs e,w.heap[b]?=M (O cs e (0,0))/\e≠56/\e≠103/\e≠79:=λb q=>by obtain⟨cs,c1⟩:=Hk k.ran b q;exact⟨cs,9,c1,qh,qh,qh⟩
 refine⟨⟨k.hB,gy,Cw k.txt hg (λb q=>(k.tk b q).2.1) hb qh,k.rcs.gs hg hrk hb qh qh qh,⟨xs,Cw m1 hg (apart m1 k.ran qh) hb qh,m2⟩,Cw k.stk hg (λb q=>(k.kn b q).1) hb qh,Ak ho ⟨_,hb⟩ qh _,Cw k.held hg (λb q q2=>k.ne b q2 q) hb qh,k.txa,λb q=>⟨(k.tk b q).1,(λq2=>by rcases br b q2 with q3|q3;exact(k.tk b q).2.1 q3;have:=(k.txt.lt b q).2;omega),(k.tk b q).2.2⟩,λb q=>⟨(λq2=>by rcases br b q2 with q3|q3;exact(k.kn b q).1 q3;have:=(k.stk.lt b q).2;omega),(k.kn b q).2⟩,λb q=>(λq2=>by rcases br b q with q3|q3;exact(k.ne b q3) q2;have:=(k.held.lt b q2).2;omega)⟩,?_⟩;refine⟨((Below.refl B w).grown hg aj (λj q=>(k.ran.lt j q).1)).setCell (p:=⟨h,7,N⟩) k.hB _,λb di hx=>?_,λb hx=>?_⟩
 ·rw[hC w' ⟨h,7,N⟩ _ b (λe=>hx (Or.inl e)),hg.block b di (λq=>hx (Or.inr (Or.inr (Or.inr (Or.inr (Or.inl q.symm))))))]
 ·rcases hx with q|q|q|q|q|q
  ·exact Or.inl (Or.inl q)
  ·exact Or.inl (Or.inr (Or.inl q))
  ·exact Or.inl (Or.inr (Or.inr (Or.inl q)))
  ·exact qev
  ·rcases br b q with q|q;exact Or.inl (Or.inr (Or.inr (Or.inr (Or.inr (Or.inl q)))));exact Or.inr q
  ·exact qes
theorem Fl.growE{w:E}{st:L By}(k:Fl B h sv tv n w ms s st v)(aj:B<=w.heap.size)(ho:w'.ownsRow B 9 1 nw l'.length (Ar l'))(hg:w.grownBy w' v.ev.ownBlock)(br:∀b,nw.ownBlock=M b->v.ev.ownBlock=M b\/w.heap.size<=b):Fl B h sv tv n (w'.setCell ⟨h,8,N⟩ nw) ms ⟨s.T,s.R,s.ran,l'⟩ st ⟨v.tx,v.qv,v.mv,v.kv,v.nv,nw⟩/\Cp B (Bs h v) (Bs h ⟨v.tx,v.qv,v.mv,v.kv,v.nv,nw⟩) w (w'.setCell ⟨h,8,N⟩ nw):=by
 obtain⟨xs,m1,m2⟩:=k.made;obtain⟨ys,cv,lv,r⟩:=k.rcs;have hh:v.ev.ownBlock≠M h:=Ah k.held qh k.blk;have hb:w'.heap[h]?=_:=Ao k.blk hg hh;have gy:=Ej hb 8 nw;simp only[List.setIfInBounds_toArray,List.set_cons_zero,List.set_cons_succ]at gy;have hrk:∀b,v.ev.ownBlock=M b->∃cs e,w.heap[b]?=M (O cs e (0,0))/\e≠56/\e≠103/\e≠79:=λb q=>by obtain⟨cs,c1⟩:=Hk k.held b q;exact⟨cs,9,c1,qh,qh,qh⟩
 refine⟨⟨k.hB,gy,Cw k.txt hg (λb q=>(k.tk b q).2.2) hb qh,k.rcs.gs hg hrk hb qh qh qh,⟨xs,Cw m1 hg (apart m1 k.held qh) hb qh,m2⟩,Cw k.stk hg (λb q=>(k.kn b q).2) hb qh,Cw k.ran hg (λb q=>k.ne b q) hb qh,Ak ho ⟨_,hb⟩ qh _,k.txa,λb q=>⟨(k.tk b q).1,(k.tk b q).2.1,(λq2=>by rcases br b q2 with q3|q3;exact(k.tk b q).2.2 q3;have:=(k.txt.lt b q).2;omega)⟩,λb q=>⟨(k.kn b q).1,(λq2=>by rcases br b q2 with q3|q3;exact(k.kn b q).2 q3;have:=(k.stk.lt b q).2;omega)⟩,λb q=>(λq2=>by rcases br b q2 with q3|q3;exact(k.ne b q) q3;have:=(k.ran.lt b q).2;omega)⟩,?_⟩;refine⟨((Below.refl B w).grown hg aj (λj q=>(k.held.lt j q).1)).setCell (p:=⟨h,8,N⟩) k.hB _,λb di hx=>?_,λb hx=>?_⟩
 ·rw[hC w' ⟨h,8,N⟩ _ b (λe=>hx (Or.inl e)),hg.block b di (λq=>hx (Or.inr (Or.inr (Or.inr (Or.inr (Or.inr q.symm))))))]
 ·rcases hx with q|q|q|q|q|q
  ·exact Or.inl (Or.inl q)
  ·exact Or.inl (Or.inr (Or.inl q))
  ·exact Or.inl (Or.inr (Or.inr (Or.inl q)))
  ·exact qev
  ·exact qet
  ·rcases br b q with q|q;exact Or.inl (Or.inr (Or.inr (Or.inr (Or.inr (Or.inr q)))));exact Or.inr q
theorem Gr.set1{w:E}{v:Z}(k:Gr w B v R)(hb:Ai w b T)(h1:T≠56)(h2:T≠103)(h3:T≠79)(x:Z):Gr (w.setCell ⟨b,j,N⟩ x) B v R:=by
 obtain⟨xs,cv,lv,r⟩:=k;exact⟨xs,cv,lv,Ak r.row hb h1 x,r.fil,λi hi=>by obtain⟨ys,a,b⟩:=r.code i hi;exact⟨ys,Ak a hb h2 x,b⟩,λi hi=>by obtain⟨ys,a,b⟩:=r.look i hi;exact⟨ys,Ak a hb h3 x,b⟩,r.apc,r.apl⟩
theorem Fl.setTx{w w1:E}{st:L By}(k:Fl B h sv tv n w ms s st v)(aj:B<=w.heap.size)(hb:Bw w w1){T':L By}{g p:X}(ho:w1.ownsRow B 9 1 (J (p_ g) T'.length p) T'.length (Ar T'))(hg:v.tx.ownBlock=M g\/w.heap.size<=g):Fl B h sv tv n (((w1.setCell ⟨h,2,N⟩ (I n)).setCell ⟨h,3,N⟩ (J (p_ g) T'.length p)).setCell ⟨h,4,N⟩ v.qv) ms ⟨T',s.R,s.ran,s.held⟩ st ⟨J (p_ g) T'.length p,v.qv,v.mv,v.kv,v.nv,v.ev⟩/\Cp B (Bs h v) (Bs h ⟨J (p_ g) T'.length p,v.qv,v.mv,v.kv,v.nv,v.ev⟩) w (((w1.setCell ⟨h,2,N⟩ (I n)).setCell ⟨h,3,N⟩ (J (p_ g) T'.length p)).setCell ⟨h,4,N⟩ v.qv):=by
 have q:=k.bl hb;obtain⟨xs,m1,m2⟩:=q.made;have hh:Ai w1 h 120:=⟨_,q.blk⟩;obtain⟨x2,ex2⟩:=Aj (I n);obtain⟨x3,ex3⟩:∃x:Z,J (p_ g) T'.length p=x:=⟨_,rfl⟩;have a1:Ai (w1.setCell ⟨h,2,N⟩ x2) h 120:=hh.set x2;have a2:Ai ((w1.setCell ⟨h,2,N⟩ x2).setCell ⟨h,3,N⟩ x3) h 120:=a1.set x3;have gy:=Ej (Ej (Ej q.blk 2 x2) 3 x3) 4 v.qv;simp only[List.setIfInBounds_toArray,List.set_cons_zero,List.set_cons_succ]at gy;have s3:∀ {e sz l:X} {u:Z} {ys:L Z},w1.ownsRow B e sz u l ys->120≠e->(((w1.setCell ⟨h,2,N⟩ x2).setCell ⟨h,3,N⟩ x3).setCell ⟨h,4,N⟩ v.qv).ownsRow B e sz u l ys:=λr aq=>Ak (Ak (Ak r hh aq x2) a1 aq x3) a2 aq v.qv
 have hd:∀b,(Value.slice (p_ g) T'.length p).ownBlock=M b->v.kv.ownBlock≠M b/\v.nv.ownBlock≠M b/\v.ev.ownBlock≠M b:=λb e=>by
  obtain rfl:g=b:=by simpa [Value.ownBlock] using e
  rcases hg with q|q
  ·exact k.tk g q
  ·exact⟨λe=>by have:=(k.stk.lt g e).2;omega,λe=>by have:=(k.ran.lt g e).2;omega,λe=>by have:=(k.held.lt g e).2;omega⟩
 have hrc:=((q.rcs.set1 (j:=2) hh qh qh qh x2).set1 (j:=3) a1 qh qh qh x3).set1 (j:=4) a2 qh qh qh v.qv;rw[ex2,ex3];rw[ex3]at ho hd;refine⟨⟨k.hB,by rw[ex2];exact gy,s3 ho qh,hrc,⟨xs,s3 m1 qh,m2⟩,s3 q.stk qh,s3 q.ran qh,s3 q.held qh,⟨g,p,ex3.symm⟩,hd,k.kn,k.ne⟩,?_⟩;refine⟨(((hb.mono aj).setCell (p:=⟨h,2,N⟩) k.hB _).setCell (p:=⟨h,3,N⟩) k.hB _).setCell (p:=⟨h,4,N⟩) k.hB _,λb hl hx=>?_,λb hx=>Or.inl hx⟩;have aq:b≠h:=λe=>hx (Or.inl e);rw[hC _ ⟨h,4,N⟩ _ b aq,hC _ ⟨h,3,N⟩ _ b aq,hC _ ⟨h,2,N⟩ _ b aq];exact hb.block b hl
theorem Cp.set1{w:E}(h:Cp B AN X' w w')(hb:w.heap.size<=b)(hB:B<=b)(j:X)(u:Z):Cp B AN X' w (w'.setCell ⟨b,j,N⟩ u):=
 ⟨h.bel.setCell (p:=⟨b,j,N⟩) hB u,λc hc hx=>by rw[hC w' ⟨b,j,N⟩ u c (by show c≠b;omega)];exact h.keep c hc hx,h.new⟩
theorem Cp.set3{w:E}(h:Cp B AN X' w w')(hb:w.heap.size<=b)(hB:B<=b)(u0 u1 u2:Z):Cp B AN X' w (((w'.setCell ⟨b,0,N⟩ u0).setCell ⟨b,1,N⟩ u1).setCell ⟨b,2,N⟩ u2):=((h.set1 hb hB 0 u0).set1 hb hB 1 u1).set1 hb hB 2 u2
theorem Fl.set1{w:E}{st:L By}(k:Fl B h sv tv n w ms s st v)(hb:Ai w b T)(h1:T≠120/\T≠9/\T≠140/\T≠56/\T≠103/\T≠79)(j:X)(x:Z):Fl B h sv tv n (w.setCell ⟨b,j,N⟩ x) ms s st v:=by
 obtain⟨a1,a2,a3,a4,a5,a6⟩:=h1;obtain⟨xs,m1,m2⟩:=k.made
 have aq:h≠b:=λe=>by
  obtain⟨cs,hc⟩:=hb;have:=k.blk;rw[e,hc]at this;injection this with this;injection this with _ h5;exact a1 h5
 exact⟨k.hB,Af k.blk aq x,Ak k.txt hb a2 x,k.rcs.set1 hb a4 a5 a6 x,⟨xs,Ak m1 hb a3 x,m2⟩,Ak k.stk hb a2 x,Ak k.ran hb a2 x,Ak k.held hb a2 x,k.txa,k.tk,k.kn,k.ne⟩
theorem Fl.set3{w:E}{st:L By}(k:Fl B h sv tv n w ms s st v)(hb:Ai w b T)(h1:T≠120/\T≠9/\T≠140/\T≠56/\T≠103/\T≠79)(u0 u1 u2:Z):Fl B h sv tv n (((w.setCell ⟨b,0,N⟩ u0).setCell ⟨b,1,N⟩ u1).setCell ⟨b,2,N⟩ u2) ms s st v:=((k.set1 hb h1 0 u0).set1 (hb.set u0) h1 1 u1).set1 ((hb.set u0).set u1) h1 2 u2
theorem has_any(h:X)(sa ta:Option Addr)(c1 c2:X)(ss:L S2)(ts:L T2)(nm:By)(w:E)(k0:w.cell? ⟨h,0,N⟩=M (J sa ss.length c1))(k1:w.cell? ⟨h,1,N⟩=M (J ta ts.length c2))(rs:Hz w sa ss)(rt:Jq w ta ts)(hl:ss.length<=1048576)(xq:ts.length<=1048576):Calls prog 105 #[.pointer (p_ h),S nm] w λe w'=>Bw w w'/\e=.returned (.bool (Du ss ts nm)):=by
 have HS:Hd (Hz w sa ss):=rs
 have HT:Hd (Jq w ta ts):=rt
 clear rs rt
 go_enter func105,ntmps105
 go_wp2_with fail
 refine(Ps sa ta ts.length c1 c2 ss nm _ HS.o hl).mono ?_
 rintro e w1 ⟨ah,hr⟩
 have j0:=Aa ah k0
 have j1:=Aa ah k1
 rcases hr with⟨i,rfl,hi,e1⟩|⟨rfl,hn⟩
 ·have HO:Hd (Du ss ts nm=true):=Pm (Or.inl (e1▸Gm hi));have d0:decide ((0:Int)<=(i:Int))=true:=qi;clear hi e1 k0 k1;go_wp2_with fail;go_ret;exact⟨ah,by rw[HO.o];rfl⟩
 ·have HN:Hd (¬ Hs (Av ss) nm):=hn;clear hn k0 k1;go_wp2_with fail;refine(Pr sa ta ss.length c1 c2 ts nm _ (HT.o.bl ah) xq).mono ?_;rintro e w2 ⟨a9,hr⟩;have bp:=bt ah a9
  rcases hr with⟨i,rfl,hi,e1⟩|⟨rfl,hn⟩
  ·have HO:Hd (Du ss ts nm=true):=Pm (Or.inr (e1▸Il hi));have d0:decide ((0:Int)<=(i:Int))=true:=qi;clear hi e1;go_wp2_with fail;go_ret;exact⟨bp,by rw[HO.o];rfl⟩
  ·have HO:Hd (Du ss ts nm=false):=Ul (λh=>h.elim HN.o hn);clear hn;go_wp2_with fail;go_ret;exact⟨bp,by rw[HO.o];rfl⟩
theorem Tryz.info131x:(prog.info? 140).map (λi=>(i.zero,i.size,i.bytes))=M (M (G #[ze,I 0,ze,nS,I 0]),5,72):=qk
theorem step_appM{s x:Operand}{W:E}{ops:Array Oper}{o:Oper}{a:Act}{K:Act->E->Prop}{Q:Exit->Act->E->Prop}{AG:Prop}(mg:o.guard=N)(ho:o.op=.call { callee:=.builtin .append,args:=#[s,x],argTypes:=#[118,118] })(B:X)(v:Z)(nn:X)(xs:L Z)(hs:a.eval s=v)(ak:W.ownsRow B 140 5 v nn xs)(d:X)(u0 u1 u2 u3 u4:Z)(hx:a.eval x=J (p_ d) 1 1)(hc:W.heap[d]?=M (O #[u0,u1,u2,u3,u4] 140 (0,0)))(h1:∀u∈[u0,u1,u2,u3,u4],u.oneCell'=true)(hB:B<=W.heap.size)(hn:nn<=1000000000000)(h:∀g' ai w',w'.ownsRow B 140 5 (J (p_ g') (nn+1) ai) (nn+1) (xs++[u0,u1,u2,u3,u4])->W.grownBy w' v.ownBlock->(v.ownBlock=M g'\/g'=W.heap.size)->K (a.put o.dst (J (p_ g') (nn+1) ai)) w'):if Region.wanted o (yielded ops a.tmps)=true then Oper.wp prog o a W K Q else AG:=by
 obtain⟨i0,hi,bm,bg,bi⟩:=info_parts Tryz.info131x
 refine step_append_lies (w:=W) mg s x 118 ho B 140 i0 (G #[ze,I 0,ze,nS,I 0]) 5 72 underlying118 hi bm bg bi rfl qh _ nn xs hs ak ⟨d,0,N⟩ 1 1 [u0,u1,u2,u3,u4] hx rfl
  (World.news_of_block (cs:=#[u0,u1,u2,u3,u4]) (t:=140) (fr:=(0,0)) hc) h1 qg qn qg hB W.heap.size rfl ?_
 exact qcy
theorem Nk(B h n:X)(sv tv:Z)(ms:Mm)(s:Sb)(st:L By)(v:Hv)(nm:By)(d:Md)(r:Int)(w:E)(hs:Fl B h sv tv n w ms s st v)(hB:B<=w.heap.size)(hm:ms.length<=1000000000000):Calls prog 94 #[.pointer (p_ h),S nm,G #[I d.c,S d.t,nS],I r] w λe w'=>e=.returned (G #[I d.c,S d.t,nS])/\∃v',Cp B (Bs h v) (Bs h v') w w'/\Fl B h sv tv n w' (ms++[(nm,d)]) s st v':=by
 obtain⟨c,ec⟩:=Aj d.c;obtain⟨t,et⟩:=Aj d.t;rw[ec,et];have EC:=Ad (And.intro ec et);clear ec et;obtain⟨W,eW⟩:=Aj ((w.alloc (O #[I c,S t,nS] 134)).alloc (O #[I 0,ze,nS] 134));have HW:Hd (Bw w W):=by show Below _ _ _;rw[←eW];exact(aN _ _).alloc qi _
 have HQ:Hd (W.heap[w.heap.size]?=M (O #[I c,S t,nS] 134 (0,0))):=by show _=_;rw[←eW];exact Rm (Ma _ _)
 have HR:Hd (W.heap[w.heap.size+1]?=M (O #[I 0,ze,nS] 134 (0,0))):=by
  show _=_;rw[←eW];have:=Ma (w.alloc (O #[I c,S t,nS] 134)) (O #[I 0,ze,nS] 134)
  rwa [show(w.alloc (O #[I c,S t,nS] 134)).heap.size=w.heap.size+1 from qi]at this
 have HS:=Ad (hs.bl HW.o);have au:h<w.heap.size:=Bq hs.blk;obtain⟨Q,eQ⟩:=Aj w.heap.size;have HHB:=Ad hs.hB;have HWS:Hd (Q+1<W.heap.size):=by show _<_;rw[←eQ];exact Bq HR.o
 clear hs;rw[eQ]at HQ HR au hB;go_enter func94,ntmps94;go_wp2_with fail
 try rw[eQ]
 clear eW;refine Lt.begin 13 (λw'=>w'.cell? ⟨h,5,N⟩=M v.mv/\w'.heap[Q]?=M (O #[I c,S t,nS] 134 (0,0))) qk ?_;obtain⟨wD,eD⟩:=Aj W.drew;rw[eD];have ao:Bw W wD:=qq;clear eD;replace HS:=Ad (HS.o.bl ao);replace HQ:=Ad (Ac HQ.o ao);replace HR:=Ad (Ac HR.o ao);replace HW:=Ad (bt HW.o ao);have aw:(λw'=>w'.cell? ⟨h,5,N⟩=M v.mv/\w'.heap[Q]?=M (O #[I c,S t,nS] 134 (0,0))) wD:=⟨(by rw[cH HS.o.blk];rfl),HQ.o⟩;change K 0 _
 iterate 9
  refine Lt.ti (v:=?_) aw ?_ ?_;rotate_left 1
  ·exact qkv
  simp only[gX]
 refine Lt.sp (i:=9) (λK hK=>?_);go_simp;refine Bm (Q:=λx=>K _ x) ?_;intro wL bz HL
 try dsimp only
 obtain⟨dL,edL⟩:=Aj wD.heap.size;rw[edL]at HL ⊢;replace HS:=Ad (HS.o.bl bz);replace HQ:=Ad (Ac HQ.o bz);replace HR:=Ad (Ac HR.o bz);replace HW:=Ad (bt HW.o bz);have bj:(λw'=>w'.cell? ⟨h,5,N⟩=M v.mv/\w'.heap[Q]?=M (O #[I c,S t,nS] 134 (0,0))) wL:=⟨(by rw[cH HS.o.blk];rfl),HQ.o⟩;have B1:B<=wL.heap.size:=zo HW.o.size;refine hK.out _ _ (λ_=>bj) (λ_=>?_);clear hK K 
 try simp only[gX]
 refine Lt.sp (i:=10) (λK hK=>?_);obtain⟨xs,m1,m2⟩:=HS.o.made;refine step_appM rfl qo B v.mv ms.length xs qo m1 dL _ _ _ _ _ qo HL.o qcu B1 hm ?_;intro g' ai w7 ak ae br
 have oc:∀b,(Value.slice (p_ g') (ms.length+1) ai).ownBlock=M b->v.mv.ownBlock=M b\/wL.heap.size<=b:=λb q=>by
  obtain rfl:g'=b:=qcr
  rcases br with q|q
  ·exact Or.inl q
  ·right;omega
 have hfil:FilM (ms++[(nm,d)]) (xs++[S nm,I c,S t,nS,I r]):=by have:=m2.snoc (zo m1.1) nm d r;rw[EC.o.1,EC.o.2]at this;exact this
 have HG:=Ad (HS.o.growM (nw:=J (p_ g') (ms.length+1) ai) (ms':=ms++[(nm,d)]) B1 qi ak hfil ae oc);have hmh:v.mv.ownBlock≠M h:=Ah m1 qh HS.o.blk;have hmq:v.mv.ownBlock≠M Q:=Ah m1 qh HQ.o;have hmr:v.mv.ownBlock≠M (Q+1):=Ah m1 qh HR.o;have I2:=Ad (Ao HS.o.blk ae hmh);have Q7:=Ad (Ao HQ.o ae hmq);have L6:=Ad (Ao HR.o ae hmr);have HFL:Hd (Cp B (Bs h v) (Bs h v) w wL):=Cp.of_below HW.o qg;have li:(λw'=>w'.cell? ⟨h,5,N⟩=M v.mv/\w'.heap[Q]?=M (O #[I c,S t,nS] 134 (0,0))) w7:=⟨(by rw[cH I2.o];rfl),Q7.o⟩;refine hK.out _ _ (λ_=>li) (λ_=>?_);clear hK K ae ak;simp only[gX];refine Lt.sp (i:=11) (λK hK=>?_);go_simp;refine hK.out _ _ (λ_=>li) (λ_=>?_);clear hK K 
 try simp only[gX]
 refine Lt.ti (i:=12) (v:=?_) li ?_ ?_;rotate_left 1
 ·exact qkv
 simp only[gX];have k5:w7.cell? ⟨h,5,N⟩=M v.mv:=li.1;have kf:=fZ I2.o;refine Lt.sp (i:=13) (λK hK=>?_);go_simp;refine hK.out _ _ (λh=>absurd rfl h) (λ_=>?_);clear hK K;refine Lt.done qk ?_ _;obtain⟨V,eV⟩:=Aj (w7.setCell ⟨h,5,N⟩ (J (p_ g') (ms.length+1) ai));rw[eV]at HG ⊢;have HQV:V.heap[Q]?=M (O #[I c,S t,nS] 134 (0,0)):=by rw[←eV];exact Af Q7.o qg _
 have HRV:V.heap[Q+1]?=M (O #[I 0,ze,nS] 134 (0,0)):=by rw[←eV];exact Af L6.o qg _
 obtain⟨q0,q1,q2⟩:=Ab HQV;obtain⟨r0,r1,r2,rf⟩:=Jp HRV;have E4:Q+1<V.heap.size:=Bq HRV;clear eV k5 kf li;go_wp2_with fail;obtain⟨v0,v1,v2,_⟩:=Jp (Cx HRV (I c) (S t) nS);exact bR (v:=G #[I c,S t,nS]) (by simp[results,results94,go_sem,v0,v1,v2]) rfl ⟨rfl,_,(HFL.o.trans HG.o.2).set3 qg qg _ _ _,HG.o.1.set3 ⟨_,HRV⟩ qh _ _ _⟩
theorem fd_at{nm:By}:∀ {ms:Mm} {i:X},i<ms.length->(mm ms i).1=nm->(∀j,j<i->(mm ms j).1≠nm)->fd ms nm=M (mm ms i).2
 | [],i,hi,_,_=>Zk
 | e::l,0,hi,h,hj=>by
   have h':e.1=nm:=h;unfold fd;rw[List.find?_cons_of_pos (by simp[h'])];rfl
 | e::l,i+1,hi,h,hj=>by
   have h0:e.1≠nm:=hj 0 qg;have hr:=fd_at (ms:=l) (i:=i) (by simpa using hi) h (λj q=>hj (j+1) qg);unfold fd at hr ⊢;rw[List.find?_cons_of_neg (by simp[h0])];exact hr
theorem fd_no{nm:By}:∀ {ms:Mm},(∀j,j<ms.length->(mm ms j).1≠nm)->fd ms nm=N
 | [],_=>rfl
 | e::l,hj=>by
   have h0:e.1≠nm:=hj 0 qi;have hr:=fd_no (ms:=l) (λj q=>hj (j+1) (by simpa using q));unfold fd at hr ⊢;rw[List.find?_cons_of_neg (by simp[h0])];exact hr
theorem Ke{st:L By}{i:X}(h:i<st.length):(Ar st)[i]?=M (S (nx st i)):=by
 unfold Ar nx;rw[List.getElem?_map,gG,gQ h];rfl
theorem own_pop{w:E}{cap:X}{st:L By}(h:w.ownsRow B 9 1 (J a (st.length+1) cap) (st.length+1) (Ar (st++[nm]))):w.ownsRow B 9 1 (J a st.length cap) st.length (Ar st):=by
 refine⟨qbw,?_⟩
 rcases h.2 with⟨e,h0⟩|⟨g,c,cur,e,hg,hh,h1,h2,h3,h4⟩
 ·omega
 ·cases e
  refine Or.inr ⟨g,cap,cur,rfl,hg,hh,qg,h2,h3,?_⟩;(have:(cur.toList.take ((st.length+1)*1)).take (st.length*1)=(Ar (st++[nm])).take (st.length*1):=by rw[h4]);rw[List.take_take,Nat.min_eq_left qg]at this;rw[this];simp[Ar]
theorem Fl.pop{w:E}{st:L By}(k:Fl B h sv tv n w ms s (st++[nm]) v)(aj:B<=w.heap.size){cap:X}(e:v.kv=J a (st.length+1) cap):Fl B h sv tv n (w.setCell ⟨h,6,N⟩ (J a st.length cap)) ms s st ⟨v.tx,v.qv,v.mv,J a st.length cap,v.nv,v.ev⟩/\Cp B (Bs h v) (Bs h ⟨v.tx,v.qv,v.mv,J a st.length cap,v.nv,v.ev⟩) w (w.setCell ⟨h,6,N⟩ (J a st.length cap)):=by
 have h0:=k.stk;rw[e]at h0;have h1:w.ownsRow B 9 1 (J a (st.length+1) cap) (st.length+1) (Ar (st++[nm])):=by have:=h0;rwa [List.length_append,List.length_singleton]at this
 exact k.growK aj (own_pop h1) ⟨rfl,rfl,rfl,Nat.le_refl _,λ_ _ _=>rfl⟩ (λb q=>Or.inl (by rw[e];cases a<;>exact q))
theorem Fk.less{st:L By}{w:E}{b:He}(k:Fk B h (st++[nm]).length nv w b):Fk B h st.length nv w b:=by
 obtain⟨pre,e,hl,hk,he,d1,⟨xs,d2,d4⟩,d3⟩:=k;rw[List.length_append,List.length_singleton]at d4;exact⟨pre,e,hl,hk,he,d1,⟨xs,d2,qg⟩,d3⟩
theorem Fk.grow{m:X}{w:E}{b:He}{xs:L By}(hh:B<=h)(k:Fk B h (m+1) nv w b)(aj:B<=w.heap.size)(hx:w.ownsRow B 9 1 nv xs.length (Ar xs))(pi:xs.length+(m+1)<=1000)(ho:w'.ownsRow B 9 1 nw (xs.length+1) (Ar xs++[S nm]))(hg:w.grownBy w' nv.ownBlock)(lh:nw.ownBlock=nv.ownBlock\/nw.ownBlock=M w.heap.size):Fk B h m nw (w'.setCell ⟨h,7,N⟩ nw) b/\Cp B (Vd h nv) (Vd h nw) w (w'.setCell ⟨h,7,N⟩ nw):=by
 obtain⟨pre,e,hl,hk,he,d1,_,d3⟩:=k;have aq:nv.ownBlock≠M h:=Ah hx qh hk;have hb:=Ao hk hg aq
 have br:∀b,nw.ownBlock=M b->nv.ownBlock=M b\/w.heap.size<=b:=λb q=>by
  rcases lh with r|r
  ·left;rw[←r];exact q
  ·right;rw[r]at q;cases q;exact Nat.le_refl _
 have gy:=Ej hb 7 nw
 have hlist:((pre++[Value.bool true]++e).toArray).setIfInBounds 7 nw=(pre.set 7 nw++[Value.bool true]++e).toArray:=by
  rw[List.setIfInBounds_toArray,List.set_append_left _ _ qgb,List.set_append_left _ _ qg]
 rw[hlist]at gy;refine⟨⟨pre.set 7 nw,e,by rw[List.length_set];exact hl,gy,?_,by rw[List.getElem?_set_self qg],⟨xs++[nm],?_,qco⟩,λu b' q1 q2 q3=>?_⟩,?_⟩
 ·cases b with
  | circle ch=>
    obtain⟨cv,c1,c2⟩:=he;refine⟨cv,Ak (Ex c1 hg (λb q1 q2=>d3 cv b (by rw[c2];rfl) q1 q2)) ⟨_,hb⟩ qh _,c2⟩
  | deep nm=>exact he
  | clash A B=>exact he
  | full=>exact he
 ·have:Ar (xs++[nm])=Ar xs++[S nm]:=qbw
  rw[this,List.length_append,List.length_singleton];exact Ak ho ⟨_,hb⟩ qh _
 ·rcases br b' q3 with r|r
  ·exact d3 u b' q1 q2 r
  ·cases b with
   | circle ch=>obtain⟨cv,c1,c2⟩:=he;rw[c2]at q1;cases q1;have:=(c1.lt b' q2).2;omega
   | deep nm=>rw[show e=_ from he]at q1;cases q1;cases q2
   | clash A B=>rw[show e=_ from he]at q1;cases q1;cases q2
   | full=>rw[show e=_ from he]at q1;cases q1;cases q2
 ·refine⟨((Below.refl B w).grown hg aj (λj q=>(hx.lt j q).1)).setCell (p:=⟨h,7,N⟩) hh _,λb di hx'=>?_,λb q=>?_⟩
  ·rw[hC w' ⟨h,7,N⟩ _ b (λe=>hx' (Or.inl e)),hg.block b di (λq=>hx' (Or.inr q.symm))]
  ·rcases q with q|q
   ·exact Or.inl (Or.inl q)
   ·rcases br b q with r|r
    ·exact Or.inl (Or.inr r)
    ·exact Or.inr r
end Go.Proofs.YtoihflimijabjaaGreatDoor
