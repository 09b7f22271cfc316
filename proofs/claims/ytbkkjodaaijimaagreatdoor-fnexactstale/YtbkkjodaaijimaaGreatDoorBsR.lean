import Derived.Test.YtbkkjodaaijimaaGreatDoorBdA
import Derived.Test.YtbkkjodaaijimaaGreatDoorTClK
namespace Go.Proofs.YtbkkjodaaijimaaGreatDoor
open Value renaming slice->J,string->S
open Option renaming some->M,none->N
open Obj renaming cells->O
open Go renaming Value->Z,World->E
open _root_ renaming List->L,Nat->X
set_option maxHeartbeats 400000
open _root_.Go.Proofs.Tryz Go.RowKit Go.Deep
set_option linter.unusedVariables false
set_option linter.unusedSimpArgs false
variable {B b B' e sz n j i T h m:X} {AM X':X->Prop} {w w' w1:E} {u nv sv tv x nw:Z} {xs ys:L Z} {ms:Mm} {a:Option Addr} {R:L T3} {s:Sb} {st l':L By} {cs:Array Z}
structure Cw (B:X) (AM X':X->Prop) (w w':E):Prop where
 bel:Below B w w'
 keep:∀b,b<w.heap.size->¬ AM b->w'.heap[b]?=w.heap[b]?
 new:∀b,X' b->AM b\/w.heap.size<=b
theorem Cw.no(h:Cw B AM X' w w')(hb:b<w.heap.size)(hx:¬ AM b):¬ X' b:=λk=>by
 rcases h.new b k with q|q
 ·exact hx q
 ·omega
theorem Cw.trans{X'':X->Prop}{w2:E}(h:Cw B AM X' w w1)(k:Cw B X' X'' w1 w2):Cw B AM X'' w w2:=by
 have hs:=h.bel.size;refine⟨h.bel.trans k.bel,λb hb hx=>(k.keep b qb (h.no hb hx)).trans (h.keep b hb hx),λb hb=>?_⟩
 rcases k.new b hb with q|q
 ·exact h.new b q
 ·right;omega
theorem Cw.refl(w:E):Cw B AM AM w w:=⟨Below.refl _ _,λ_ _ _=>rfl,λ_ h=>Or.inl h⟩
theorem Cw.of_below(h:Bw w w')(hB:B<=w.heap.size):Cw B AM AM w w':=⟨h.mono hB,λb hb _=>h.block b hb,λ_ h=>Or.inl h⟩
theorem Cw.blk(h:Cw B AM X' w w'){o:Obj}(hb:w.heap[b]?=M o)(hx:¬ AM b):w'.heap[b]?=M o:=(h.keep b (Ag hb) hx).trans hb
theorem Cw.own(h:Cw B AM X' w w')(ho:w.ownsRow B' e sz u n xs)(hx:∀b,u.ownBlock=M b->¬ AM b):w'.ownsRow B' e sz u n xs:=Al ho λb e=>h.keep b (ho.lt b e).2 (hx b e)
theorem Cw.cell(h:Cw B AM X' w w'){v:Z}(hc:w.cell? ⟨b,j,N⟩=M v)(hx:¬ AM b):w'.cell? ⟨b,j,N⟩=M v:=by
 have hb:=World.block_lt_of_cell? w _ hc;have hk:=h.keep b hb hx;have:w'.cell? ⟨b,j,N⟩=w.cell? ⟨b,j,N⟩:=by unfold World.cell?;simp only[hk]
 rw[this];exact hc
structure Hv where
 tx:Z
 qv:Z
 mv:Z
 kv:Z
 nv:Z
 ev:Z
def Bz(h:X)(v:Hv)(b:X):Prop:=b=h\/v.qv.ownBlock=M b\/v.mv.ownBlock=M b\/v.kv.ownBlock=M b\/v.nv.ownBlock=M b\/v.ev.ownBlock=M b
def mm(ms:Mm)(i:X):By×Md:=ms.getD i (⟨#[]⟩,⟨0,⟨#[]⟩,[]⟩)
def FilM(ms:Mm)(xs:L Z):Prop:=∀i,i<ms.length->xs[i*5]?=M (S (mm ms i).1)/\xs[i*5+1]?=M (I (mm ms i).2.c)/\xs[i*5+2]?=M (S (mm ms i).2.t)/\xs[i*5+3]?=M nS/\∃r,xs[i*5+4]?=M (I r)
theorem mm_lt{e:By×Md}(h:i<ms.length):mm (ms++[e]) i=mm ms i:=by
 unfold mm;rw[gG,List.getElem?_append_left h,gG]
theorem mm_at(ms:Mm)(e:By×Md):mm (ms++[e]) ms.length=e:=by
 unfold mm;rw[gG,List.getElem?_append_right (Nat.le_refl _)];simp
theorem FilM.snoc(h:FilM ms xs)(hl:xs.length=ms.length*5)(nm:By)(d:Md)(r:Int):FilM (ms++[(nm,d)]) (xs++[S nm,I d.c,S d.t,nS,I r]):=by
 intro i hi;rw[List.length_append,List.length_singleton]at hi
 rcases Nat.lt_or_ge i ms.length with k|k
 ·obtain⟨a,b,c,e,q,f⟩:=h i k
  rw[mm_lt k];refine⟨?_,?_,?_,?_,q,?_⟩<;>rw[List.getElem?_append_left qb]<;>assumption
 ·obtain rfl:i=ms.length:=qb
  rw[mm_at];refine⟨?_,?_,?_,?_,r,?_⟩
  ·rw[List.getElem?_append_right qb,show ms.length*5-xs.length=0 from qb];rfl
  ·rw[List.getElem?_append_right qb,show ms.length*5+1-xs.length=1 from qb];rfl
  ·rw[List.getElem?_append_right qb,show ms.length*5+2-xs.length=2 from qb];rfl
  ·rw[List.getElem?_append_right qb,show ms.length*5+3-xs.length=3 from qb];rfl
  ·rw[List.getElem?_append_right qb,show ms.length*5+4-xs.length=4 from qb];rfl
structure Jd (w:E) (B:X) (v:Z) (R:L T3) (xs:L Z) (cv lv:X->Z):Prop where
 row:w.ownsRow B 94 3 v R.length xs
 fil:∀i,i<R.length->xs[i*3]?=M (cv i)/\xs[i*3+1]?=M (lv i)/\xs[i*3+2]?=M (S (qx R i).out)
 code:∀i,i<R.length->∃ys,w.ownsRow B 143 3 (cv i) (qx R i).code.length ys/\Ck (qx R i).code (qx R i).code.length ys
 look:∀i,i<R.length->∃ys,w.ownsRow B 145 3 (lv i) (qx R i).looks.length ys/\Bk (qx R i).looks (qx R i).looks.length ys
 apc:∀i j,i<j->j<R.length->∀b,(cv i).ownBlock=M b->(cv j).ownBlock≠M b
 apl:∀i j,i<j->j<R.length->∀b,(lv i).ownBlock=M b->(lv j).ownBlock≠M b
def Ex(w:E)(B:X)(v:Z)(R:L T3):Prop:=∃xs cv lv,Jd w B v R xs cv lv
theorem Ay{v:Z}(h:w.ownsRow B e sz v n xs):∃a cap,v=J a n cap:=by
 rcases h.2 with⟨e,h0⟩|⟨g,c,cur,e,_⟩
 ·exact qdl
 ·exact⟨_,c,e⟩
theorem Tl{v:Z}{is:L I3}(h:w.ownsRow B 143 3 v is.length ys)(hf:Ck is is.length ys):∃a cap,v=J a is.length cap/\Bu w a is:=by
 have h':=h
 rcases h.2 with⟨e,h0⟩|⟨g,c,cur,e,_⟩
 ·exact⟨N,0,by rw[e,h0],λi hi=>qb⟩
 ·rw[e]at h'
  exact⟨_,c,e,row3_own rfl h' hf⟩
theorem Ha{v:Z}{gs:L G3}(h:w.ownsRow B T 3 v gs.length ys)(hf:Bk gs gs.length ys):∃a cap,v=J a gs.length cap/\Fr w a gs:=by
 have h':=h
 rcases h.2 with⟨e,h0⟩|⟨g,c,cur,e,_⟩
 ·exact⟨N,0,by rw[e,h0],λi hi=>qb⟩
 ·rw[e]at h'
  exact⟨_,c,e,Qan rfl h' hf⟩
theorem Cy{cap:X}(h:w.ownsRow B e sz (J a n cap) n xs)(hj:xs[j]?=M u):∃b,a=p_ b/\w.cell? ⟨b,j,N⟩=M u:=by
 rcases h.2 with⟨e,h0⟩|⟨g,c,cur,e,hg,hh,h1,h2,h3,h4⟩
 ·have:=h.1
  rw[h0,Nat.zero_mul]at this;rw[List.eq_nil_of_length_eq_zero this]at hj;simp at hj
 ·cases e
  refine⟨g,rfl,?_⟩;rw[cH hh,←Array.getElem?_toList];rw[←h4,List.getElem?_take]at hj
  split at hj
  ·exact hj
  ·cases hj
theorem Ex.at{cap:X}(h:Ex w B (J a R.length cap) R)(hi:i<R.length):∃b ca cc la lc,a=p_ b/\w.cell? ⟨b,i*3,N⟩=M (J ca (qx R i).code.length cc)/\w.cell? ⟨b,i*3+1,N⟩=M (J la (qx R i).looks.length lc)/\w.cell? ⟨b,i*3+2,N⟩=M (S (qx R i).out)/\Bu w ca (qx R i).code/\Fr w la (qx R i).looks:=by
 obtain⟨xs,cv,lv,h⟩:=h;obtain⟨f1,f2,f3⟩:=h.fil i hi;obtain⟨ys,k1,k2⟩:=h.code i hi;obtain⟨zs,l1,l2⟩:=h.look i hi;obtain⟨ca,cc,e1,r1⟩:=Tl k1 k2;obtain⟨la,lc,e2,r2⟩:=Ha l1 l2;rw[e1]at f1;rw[e2]at f2;obtain⟨b,rfl,c1⟩:=Cy h.row f1;obtain⟨b',q,c2⟩:=Cy h.row f2;cases q;obtain⟨b',q,c3⟩:=Cy h.row f3;cases q;exact⟨b,ca,cc,la,lc,rfl,c1,c2,c3,r1,r2⟩
structure Fy (B h:X) (sv tv:Z) (n:X) (w:E) (ms:Mm) (s:Sb) (st:L By) (v:Hv):Prop where
 hB:B<=h
 blk:w.heap[h]?=M (O #[sv,tv,I n,v.tx,v.qv,v.mv,v.kv,v.nv,v.ev,.bool false,I 0,ze,nS,I 0,nS,nS,nS,nS,ze,ze] 86 (0,0))
 txt:w.ownsRow B 9 1 v.tx s.T.length (Aq s.T)
 rcs:Ex w B v.qv s.R
 made:∃xs,w.ownsRow B 153 5 v.mv ms.length xs/\FilM ms xs
 stk:w.ownsRow B 9 1 v.kv st.length (Aq st)
 ran:w.ownsRow B 9 1 v.nv s.ran.length (Aq s.ran)
 held:w.ownsRow B 9 1 v.ev s.held.length (Aq s.held)
 txa:∃g p,v.tx=J (p_ g) s.T.length p
 tk:∀b,v.tx.ownBlock=M b->v.kv.ownBlock≠M b/\v.nv.ownBlock≠M b/\v.ev.ownBlock≠M b
 kn:∀b,v.kv.ownBlock=M b->v.nv.ownBlock≠M b/\v.ev.ownBlock≠M b
 ne:∀b,v.nv.ownBlock=M b->v.ev.ownBlock≠M b
def Jh(B:X)(w:E)(b:Hm)(e:L Z):Prop:=
 match b with
 | .circle ch=>∃cv,w.ownsRow B 9 1 cv ch.length (Aq ch)/\e=[I 6,ze,cv,I 0,nS,nS,nS,nS,ze,ze]
 | .deep nm=>e=[I 7,S nm,nS,I 0,nS,nS,nS,nS,ze,ze]
 | .clash A B=>e=[I 10,ze,nS,I 0,nS,nS,nS,nS,S A,S B]
 | .full=>e=[I 11,ze,nS,I 0,nS,nS,nS,nS,ze,ze]
def Jw:Hm->Int
 | .circle _=>6
 | .deep _=>7
 | .clash _ _=>10
 | .full=>11
def Yo(h:X)(nv:Z)(b:X):Prop:=b=h\/nv.ownBlock=M b
def DeadR(B k:X)(nv:Z)(w:E)(pre e:L Z):Prop:=pre[7]?=M nv/\(∃xs:L By,w.ownsRow B 9 1 nv xs.length (Aq xs)/\xs.length+k<=1000)/\∀u b,e[2]?=M u->u.ownBlock=M b->nv.ownBlock≠M b
def Fx(B h k:X)(nv:Z)(w:E)(b:Hm):Prop:=∃pre e,pre.length=9/\w.heap[h]?=M (O ((pre++[Value.bool true]++e).toArray) 86 (0,0))/\Jh B w b e/\DeadR B k nv w pre e
theorem Jh.code{b:Hm}{e:L Z}(h:Jh B w b e):e.length=10/\e[0]?=M (I (Jw b)):=by
 cases b with
 | circle ch=>obtain⟨cv,_,rfl⟩:=h;exact⟨rfl,rfl⟩
 | deep nm=>cases h;exact⟨rfl,rfl⟩
 | clash A B=>cases h;exact⟨rfl,rfl⟩
 | full=>cases h;exact⟨rfl,rfl⟩
theorem Fx.cells{b:Hm}(k:Fx B h m nv w b):w.cell? ⟨h,9,N⟩=M (.bool true)/\w.cell? ⟨h,10,N⟩=M (I (Jw b))/\h<w.heap.size:=by
 obtain⟨pre,e,hl,hb,he,_⟩:=k;obtain⟨e1,e2⟩:=he.code;refine⟨?_,?_,Ag hb⟩
 ·rw[cH hb]
  simp[List.getElem?_append,hl]
 ·rw[cH hb]
  simp[List.getElem?_append,hl,e2]
theorem Fx.frx{b:Hm}(k:Fx B h m nv w b)(hb:Bw w w'):Fx B h m nv w' b:=by
 obtain⟨pre,e,hl,hk,he,d1,⟨xs,d2,d4⟩,d3⟩:=k;refine⟨pre,e,hl,Af hk hb,?_,d1,⟨xs,Ab d2 hb,d4⟩,d3⟩
 cases b with
 | circle ch=>obtain⟨cv,h1,h2⟩:=he;exact⟨cv,Ab h1 hb,h2⟩
 | deep nm=>exact he
 | clash A B=>exact he
 | full=>exact he
theorem Fy.bl{v:Hv}(k:Fy B h sv tv n w ms s st v)(hb:Bw w w'):Fy B h sv tv n w' ms s st v:=by
 obtain⟨xs,m1,m2⟩:=k.made;refine⟨k.hB,Af k.blk hb,Ab k.txt hb,?_,⟨xs,Ab m1 hb,m2⟩,Ab k.stk hb,Ab k.ran hb,Ab k.held hb,k.txa,k.tk,k.kn,k.ne⟩;obtain⟨xs,cv,lv,r⟩:=k.rcs;exact⟨xs,cv,lv,Ab r.row hb,r.fil,λi hi=>by obtain⟨ys,a,b⟩:=r.code i hi;exact⟨ys,Ab a hb,b⟩,λi hi=>by obtain⟨ys,a,b⟩:=r.look i hi;exact⟨ys,Ab a hb,b⟩,r.apc,r.apl⟩
theorem Fy.not{v:Hv}(k:Fy B h sv tv n w ms s st v)(hb:w.heap.size<=b):¬ Bz h v b:=by
 have h0:=Ag k.blk;obtain⟨xs,m1,m2⟩:=k.made;obtain⟨ys,cv,lv,r⟩:=k.rcs;rintro(e|e|e|e|e|e)
 ·omega
 ·have:=(r.row.lt b e).2;omega
 ·have:=(m1.lt b e).2;omega
 ·have:=(k.stk.lt b e).2;omega
 ·have:=(k.ran.lt b e).2;omega
 ·have:=(k.held.lt b e).2;omega
theorem Ok{row:Option X}(ho:w.ownsRow B e sz u n xs)(hg:w.grownBy w' row)(hne:∀b,u.ownBlock=M b->row≠M b):w'.ownsRow B e sz u n xs:=Al ho λb e=>hg.block b (ho.lt b e).2 (λq=>hne b e q.symm)
theorem Da{row:Option X}(ho:w.ownsRow B e sz u n xs)(hg:w.grownBy w' row)(hne:∀b,u.ownBlock=M b->row≠M b)(hb:w'.heap[h]?=M (O cs T (0,0)))(hT:T≠e):(w'.setCell ⟨h,j,N⟩ x).ownsRow B e sz u n xs:=Ao (Ok ho hg hne) ⟨_,hb⟩ hT x
theorem apart{e' P2 n':X}{v:Z}(ho:w.ownsRow B e sz u n xs)(ho':w.ownsRow B' e' P2 v n' ys)(hne:e≠e'):∀b,u.ownBlock=M b->v.ownBlock≠M b:=λb e q=>by
 obtain⟨_,cur,hh⟩:=Dr ho e;exact Ae ho' hne hh q
theorem Ex.gs{v:Z}{row:Option X}(k:Ex w B v R)(hg:w.grownBy w' row)(hr:∀b,row=M b->∃cs e,w.heap[b]?=M (O cs e (0,0))/\e≠94/\e≠143/\e≠145)(hb:w'.heap[h]?=M (O cs T (0,0)))(h1:T≠94)(h2:T≠143)(h3:T≠145):Ex (w'.setCell ⟨h,j,N⟩ x) B v R:=by
 obtain⟨xs,cv,lv,r⟩:=k
 have ne:∀ {e sz n:X} {u:Z} {ys:L Z},w.ownsRow B e sz u n ys->(e=94\/e=143\/e=145)->∀b,u.ownBlock=M b->row≠M b:=λho he b q1 q2=>by
  obtain⟨cs,e',c1,c2,c3,c4⟩:=hr b q2;exact Ae ho (λq=>he.elim (λk=>c2 (q.trans k)) (λk=>k.elim (λk=>c3 (q.trans k)) (λk=>c4 (q.trans k)))) c1 q1
 refine⟨xs,cv,lv,Da r.row hg (ne r.row (Or.inl rfl)) hb h1,r.fil,λi hi=>?_,λi hi=>?_,r.apc,r.apl⟩
 ·obtain⟨ys,a,b⟩:=r.code i hi
  exact⟨ys,Da a hg (ne a (Or.inr (Or.inl rfl))) hb h2,b⟩
 ·obtain⟨ys,a,b⟩:=r.look i hi
  exact⟨ys,Da a hg (ne a (Or.inr (Or.inr rfl))) hb h3,b⟩
theorem Az(ho:w.ownsRow B e sz u n xs):∀b,u.ownBlock=M b->∃cs,w.heap[b]?=M (O cs e (0,0)):=λb q=>by
 obtain⟨_,cur,hh⟩:=Dr ho q;exact⟨cur,hh⟩
theorem Eo(hb:w.heap[h]?=M (O cs 86 (0,0)))(j:X)(x:Z):(w.setCell ⟨h,j,N⟩ x).heap[h]?=M (O (cs.setIfInBounds j x) 86 (0,0)):=jB hb x
theorem Fy.growM{v:Hv}(k:Fy B h sv tv n w ms s st v)(fy:B<=w.heap.size){xs':L Z}{ms':Mm}(hl:ms'.length=ms.length+1)(ho:w'.ownsRow B 153 5 nw (ms.length+1) xs')(hf:FilM ms' xs')(hg:w.grownBy w' v.mv.ownBlock)(ci:∀b,nw.ownBlock=M b->v.mv.ownBlock=M b\/w.heap.size<=b):Fy B h sv tv n (w'.setCell ⟨h,5,N⟩ nw) ms' s st ⟨v.tx,v.qv,nw,v.kv,v.nv,v.ev⟩/\Cw B (Bz h v) (Bz h ⟨v.tx,v.qv,nw,v.kv,v.nv,v.ev⟩) w (w'.setCell ⟨h,5,N⟩ nw):=by
 obtain⟨xs,m1,m2⟩:=k.made;obtain⟨ys,cv,lv,r⟩:=k.rcs;have hh:v.mv.ownBlock≠M h:=Ae m1 qd k.blk;have hb:w'.heap[h]?=_:=Br k.blk hg hh;have ig:=Eo hb 5 nw;simp only[List.setIfInBounds_toArray,List.set_cons_zero,List.set_cons_succ]at ig;have M2:∀b,v.mv.ownBlock=M b->∃cs e,w.heap[b]?=M (O cs e (0,0))/\e≠94/\e≠143/\e≠145:=λb q=>by obtain⟨cs,c1⟩:=Az m1 b q;exact⟨cs,153,c1,qd,qd,qd⟩
 refine⟨⟨k.hB,ig,Da k.txt hg (apart k.txt m1 qd) hb qd,k.rcs.gs hg M2 hb qd qd qd,⟨xs',by rw[hl];exact Ao ho ⟨_,hb⟩ qd _,hf⟩,Da k.stk hg (apart k.stk m1 qd) hb qd,Da k.ran hg (apart k.ran m1 qd) hb qd,Da k.held hg (apart k.held m1 qd) hb qd,k.txa,k.tk,k.kn,k.ne⟩,?_⟩;refine⟨((Below.refl B w).grown hg fy (λj q=>(m1.lt j q).1)).setCell (p:=⟨h,5,N⟩) k.hB _,λb bi hx=>?_,λb hx=>?_⟩
 ·rw[hC w' ⟨h,5,N⟩ _ b (λe=>hx (Or.inl e)),hg.block b bi (λq=>hx (Or.inr (Or.inr (Or.inl q.symm))))]
 ·rcases hx with q|q|q|q|q|q
  ·exact Or.inl (Or.inl q)
  ·exact Or.inl (Or.inr (Or.inl q))
  ·rcases ci b q with q|q;exact Or.inl (Or.inr (Or.inr (Or.inl q)));exact Or.inr q
  ·exact qfi
  ·exact qff
  ·exact qfe
theorem Fy.growK{v:Hv}(k:Fy B h sv tv n w ms s st v)(fy:B<=w.heap.size){nh:L By}(ho:w'.ownsRow B 9 1 nw nh.length (Aq nh))(hg:w.grownBy w' v.kv.ownBlock)(ci:∀b,nw.ownBlock=M b->v.kv.ownBlock=M b\/w.heap.size<=b):Fy B h sv tv n (w'.setCell ⟨h,6,N⟩ nw) ms s nh ⟨v.tx,v.qv,v.mv,nw,v.nv,v.ev⟩/\Cw B (Bz h v) (Bz h ⟨v.tx,v.qv,v.mv,nw,v.nv,v.ev⟩) w (w'.setCell ⟨h,6,N⟩ nw):=by
 obtain⟨xs,m1,m2⟩:=k.made;obtain⟨ys,cv,lv,r⟩:=k.rcs;have hh:v.kv.ownBlock≠M h:=Ae k.stk qd k.blk;have hb:w'.heap[h]?=_:=Br k.blk hg hh;have ig:=Eo hb 6 nw;simp only[List.setIfInBounds_toArray,List.set_cons_zero,List.set_cons_succ]at ig;have M2:∀b,v.kv.ownBlock=M b->∃cs e,w.heap[b]?=M (O cs e (0,0))/\e≠94/\e≠143/\e≠145:=λb q=>by obtain⟨cs,c1⟩:=Az k.stk b q;exact⟨cs,9,c1,qd,qd,qd⟩
 refine⟨⟨k.hB,ig,Da k.txt hg (λb q=>(k.tk b q).1) hb qd,k.rcs.gs hg M2 hb qd qd qd,⟨xs,Da m1 hg (apart m1 k.stk qd) hb qd,m2⟩,Ao ho ⟨_,hb⟩ qd _,Da k.ran hg (λb q q2=>(k.kn b q2).1 q) hb qd,Da k.held hg (λb q q2=>(k.kn b q2).2 q) hb qd,k.txa,λb q=>⟨(λq2=>by rcases ci b q2 with q3|q3;exact(k.tk b q).1 q3;have:=(k.txt.lt b q).2;omega),(k.tk b q).2.1,(k.tk b q).2.2⟩,λb q=>⟨(λq2=>by rcases ci b q with q3|q3;exact(k.kn b q3).1 q2;have:=(k.ran.lt b q2).2;omega),(λq2=>by rcases ci b q with q3|q3;exact(k.kn b q3).2 q2;have:=(k.held.lt b q2).2;omega)⟩,λb q=>(k.ne b q)⟩,?_⟩;refine⟨((Below.refl B w).grown hg fy (λj q=>(k.stk.lt j q).1)).setCell (p:=⟨h,6,N⟩) k.hB _,λb bi hx=>?_,λb hx=>?_⟩
 ·rw[hC w' ⟨h,6,N⟩ _ b (λe=>hx (Or.inl e)),hg.block b bi (λq=>hx (Or.inr (Or.inr (Or.inr (Or.inl q.symm)))))]
 ·rcases hx with q|q|q|q|q|q
  ·exact Or.inl (Or.inl q)
  ·exact Or.inl (Or.inr (Or.inl q))
  ·exact Or.inl (Or.inr (Or.inr (Or.inl q)))
  ·rcases ci b q with q|q;exact Or.inl (Or.inr (Or.inr (Or.inr (Or.inl q))));exact Or.inr q
  ·exact qff
  ·exact qfe
theorem Fy.growN{v:Hv}(k:Fy B h sv tv n w ms s st v)(fy:B<=w.heap.size)(ho:w'.ownsRow B 9 1 nw l'.length (Aq l'))(hg:w.grownBy w' v.nv.ownBlock)(ci:∀b,nw.ownBlock=M b->v.nv.ownBlock=M b\/w.heap.size<=b):Fy B h sv tv n (w'.setCell ⟨h,7,N⟩ nw) ms ⟨s.T,s.R,l',s.held⟩ st ⟨v.tx,v.qv,v.mv,v.kv,nw,v.ev⟩/\Cw B (Bz h v) (Bz h ⟨v.tx,v.qv,v.mv,v.kv,nw,v.ev⟩) w (w'.setCell ⟨h,7,N⟩ nw):=by
 obtain⟨xs,m1,m2⟩:=k.made;obtain⟨ys,cv,lv,r⟩:=k.rcs;have hh:v.nv.ownBlock≠M h:=Ae k.ran qd k.blk;have hb:w'.heap[h]?=_:=Br k.blk hg hh;have ig:=Eo hb 7 nw;simp only[List.setIfInBounds_toArray,List.set_cons_zero,List.set_cons_succ]at ig;have M2:∀b,v.nv.ownBlock=M b->∃cs e,w.heap[b]?=M (O cs e (0,0))/\e≠94/\e≠143/\e≠145:=λb q=>by obtain⟨cs,c1⟩:=Az k.ran b q;exact⟨cs,9,c1,qd,qd,qd⟩
 refine⟨⟨k.hB,ig,Da k.txt hg (λb q=>(k.tk b q).2.1) hb qd,k.rcs.gs hg M2 hb qd qd qd,⟨xs,Da m1 hg (apart m1 k.ran qd) hb qd,m2⟩,Da k.stk hg (λb q=>(k.kn b q).1) hb qd,Ao ho ⟨_,hb⟩ qd _,Da k.held hg (λb q q2=>k.ne b q2 q) hb qd,k.txa,λb q=>⟨(k.tk b q).1,(λq2=>by rcases ci b q2 with q3|q3;exact(k.tk b q).2.1 q3;have:=(k.txt.lt b q).2;omega),(k.tk b q).2.2⟩,λb q=>⟨(λq2=>by rcases ci b q2 with q3|q3;exact(k.kn b q).1 q3;have:=(k.stk.lt b q).2;omega),(k.kn b q).2⟩,λb q=>(λq2=>by rcases ci b q with q3|q3;exact(k.ne b q3) q2;have:=(k.held.lt b q2).2;omega)⟩,?_⟩;refine⟨((Below.refl B w).grown hg fy (λj q=>(k.ran.lt j q).1)).setCell (p:=⟨h,7,N⟩) k.hB _,λb bi hx=>?_,λb hx=>?_⟩
 ·rw[hC w' ⟨h,7,N⟩ _ b (λe=>hx (Or.inl e)),hg.block b bi (λq=>hx (Or.inr (Or.inr (Or.inr (Or.inr (Or.inl q.symm))))))]
 ·rcases hx with q|q|q|q|q|q
  ·exact Or.inl (Or.inl q)
  ·exact Or.inl (Or.inr (Or.inl q))
  ·exact Or.inl (Or.inr (Or.inr (Or.inl q)))
  ·exact qfi
  ·rcases ci b q with q|q;exact Or.inl (Or.inr (Or.inr (Or.inr (Or.inr (Or.inl q)))));exact Or.inr q
  ·exact qfe
theorem Fy.growE{v:Hv}(k:Fy B h sv tv n w ms s st v)(fy:B<=w.heap.size)(ho:w'.ownsRow B 9 1 nw l'.length (Aq l'))(hg:w.grownBy w' v.ev.ownBlock)(ci:∀b,nw.ownBlock=M b->v.ev.ownBlock=M b\/w.heap.size<=b):Fy B h sv tv n (w'.setCell ⟨h,8,N⟩ nw) ms ⟨s.T,s.R,s.ran,l'⟩ st ⟨v.tx,v.qv,v.mv,v.kv,v.nv,nw⟩/\Cw B (Bz h v) (Bz h ⟨v.tx,v.qv,v.mv,v.kv,v.nv,nw⟩) w (w'.setCell ⟨h,8,N⟩ nw):=by
 obtain⟨xs,m1,m2⟩:=k.made;obtain⟨ys,cv,lv,r⟩:=k.rcs;have hh:v.ev.ownBlock≠M h:=Ae k.held qd k.blk;have hb:w'.heap[h]?=_:=Br k.blk hg hh;have ig:=Eo hb 8 nw;simp only[List.setIfInBounds_toArray,List.set_cons_zero,List.set_cons_succ]at ig;have M2:∀b,v.ev.ownBlock=M b->∃cs e,w.heap[b]?=M (O cs e (0,0))/\e≠94/\e≠143/\e≠145:=λb q=>by obtain⟨cs,c1⟩:=Az k.held b q;exact⟨cs,9,c1,qd,qd,qd⟩
 refine⟨⟨k.hB,ig,Da k.txt hg (λb q=>(k.tk b q).2.2) hb qd,k.rcs.gs hg M2 hb qd qd qd,⟨xs,Da m1 hg (apart m1 k.held qd) hb qd,m2⟩,Da k.stk hg (λb q=>(k.kn b q).2) hb qd,Da k.ran hg (λb q=>k.ne b q) hb qd,Ao ho ⟨_,hb⟩ qd _,k.txa,λb q=>⟨(k.tk b q).1,(k.tk b q).2.1,(λq2=>by rcases ci b q2 with q3|q3;exact(k.tk b q).2.2 q3;have:=(k.txt.lt b q).2;omega)⟩,λb q=>⟨(k.kn b q).1,(λq2=>by rcases ci b q2 with q3|q3;exact(k.kn b q).2 q3;have:=(k.stk.lt b q).2;omega)⟩,λb q=>(λq2=>by rcases ci b q2 with q3|q3;exact(k.ne b q) q3;have:=(k.ran.lt b q).2;omega)⟩,?_⟩;refine⟨((Below.refl B w).grown hg fy (λj q=>(k.held.lt j q).1)).setCell (p:=⟨h,8,N⟩) k.hB _,λb bi hx=>?_,λb hx=>?_⟩
 ·rw[hC w' ⟨h,8,N⟩ _ b (λe=>hx (Or.inl e)),hg.block b bi (λq=>hx (Or.inr (Or.inr (Or.inr (Or.inr (Or.inr q.symm))))))]
 ·rcases hx with q|q|q|q|q|q
  ·exact Or.inl (Or.inl q)
  ·exact Or.inl (Or.inr (Or.inl q))
  ·exact Or.inl (Or.inr (Or.inr (Or.inl q)))
  ·exact qfi
  ·exact qff
  ·rcases ci b q with q|q;exact Or.inl (Or.inr (Or.inr (Or.inr (Or.inr (Or.inr q)))));exact Or.inr q
theorem Ex.set1{v:Z}(k:Ex w B v R)(hb:Cv w b T)(h1:T≠94)(h2:T≠143)(h3:T≠145)(x:Z):Ex (w.setCell ⟨b,j,N⟩ x) B v R:=by
 obtain⟨xs,cv,lv,r⟩:=k;exact⟨xs,cv,lv,Ao r.row hb h1 x,r.fil,λi hi=>by obtain⟨ys,a,b⟩:=r.code i hi;exact⟨ys,Ao a hb h2 x,b⟩,λi hi=>by obtain⟨ys,a,b⟩:=r.look i hi;exact⟨ys,Ao a hb h3 x,b⟩,r.apc,r.apl⟩
theorem Fy.setTx{v:Hv}(k:Fy B h sv tv n w ms s st v)(fy:B<=w.heap.size)(hb:Bw w w1){T':L By}{g p:X}(ho:w1.ownsRow B 9 1 (J (p_ g) T'.length p) T'.length (Aq T'))(hg:v.tx.ownBlock=M g\/w.heap.size<=g):Fy B h sv tv n (((w1.setCell ⟨h,2,N⟩ (I n)).setCell ⟨h,3,N⟩ (J (p_ g) T'.length p)).setCell ⟨h,4,N⟩ v.qv) ms ⟨T',s.R,s.ran,s.held⟩ st ⟨J (p_ g) T'.length p,v.qv,v.mv,v.kv,v.nv,v.ev⟩/\Cw B (Bz h v) (Bz h ⟨J (p_ g) T'.length p,v.qv,v.mv,v.kv,v.nv,v.ev⟩) w (((w1.setCell ⟨h,2,N⟩ (I n)).setCell ⟨h,3,N⟩ (J (p_ g) T'.length p)).setCell ⟨h,4,N⟩ v.qv):=by
 have q:=k.bl hb;obtain⟨xs,m1,m2⟩:=q.made;have hh:Cv w1 h 86:=⟨_,q.blk⟩;obtain⟨x2,ex2⟩:=Aj (I n);obtain⟨x3,ex3⟩:∃x:Z,J (p_ g) T'.length p=x:=⟨_,rfl⟩;have a1:Cv (w1.setCell ⟨h,2,N⟩ x2) h 86:=hh.set x2;have a2:Cv ((w1.setCell ⟨h,2,N⟩ x2).setCell ⟨h,3,N⟩ x3) h 86:=a1.set x3;have ig:=Eo (Eo (Eo q.blk 2 x2) 3 x3) 4 v.qv;simp only[List.setIfInBounds_toArray,List.set_cons_zero,List.set_cons_succ]at ig;have s3:∀ {e sz l:X} {u:Z} {ys:L Z},w1.ownsRow B e sz u l ys->86≠e->(((w1.setCell ⟨h,2,N⟩ x2).setCell ⟨h,3,N⟩ x3).setCell ⟨h,4,N⟩ v.qv).ownsRow B e sz u l ys:=λr hne=>Ao (Ao (Ao r hh hne x2) a1 hne x3) a2 hne v.qv
 have hd:∀b,(Value.slice (p_ g) T'.length p).ownBlock=M b->v.kv.ownBlock≠M b/\v.nv.ownBlock≠M b/\v.ev.ownBlock≠M b:=λb e=>by
  obtain rfl:g=b:=qcn
  rcases hg with q|q
  ·exact k.tk g q
  ·exact⟨λe=>by have:=(k.stk.lt g e).2;omega,λe=>by have:=(k.ran.lt g e).2;omega,λe=>by have:=(k.held.lt g e).2;omega⟩
 have hrc:=((q.rcs.set1 (j:=2) hh qd qd qd x2).set1 (j:=3) a1 qd qd qd x3).set1 (j:=4) a2 qd qd qd v.qv;rw[ex2,ex3];rw[ex3]at ho hd;refine⟨⟨k.hB,by rw[ex2];exact ig,s3 ho qd,hrc,⟨xs,s3 m1 qd,m2⟩,s3 q.stk qd,s3 q.ran qd,s3 q.held qd,⟨g,p,ex3.symm⟩,hd,k.kn,k.ne⟩,?_⟩;refine⟨(((hb.mono fy).setCell (p:=⟨h,2,N⟩) k.hB _).setCell (p:=⟨h,3,N⟩) k.hB _).setCell (p:=⟨h,4,N⟩) k.hB _,λb hl hx=>?_,λb hx=>Or.inl hx⟩;have hne:b≠h:=λe=>hx (Or.inl e);rw[hC _ ⟨h,4,N⟩ _ b hne,hC _ ⟨h,3,N⟩ _ b hne,hC _ ⟨h,2,N⟩ _ b hne];exact hb.block b hl
theorem Cw.set1(h:Cw B AM X' w w')(hb:w.heap.size<=b)(hB:B<=b)(j:X)(u:Z):Cw B AM X' w (w'.setCell ⟨b,j,N⟩ u):=
 ⟨h.bel.setCell (p:=⟨b,j,N⟩) hB u,λc hc hx=>by rw[hC w' ⟨b,j,N⟩ u c (by show c≠b;omega)];exact h.keep c hc hx,h.new⟩
theorem Cw.set3(h:Cw B AM X' w w')(hb:w.heap.size<=b)(hB:B<=b)(u0 u1 u2:Z):Cw B AM X' w (((w'.setCell ⟨b,0,N⟩ u0).setCell ⟨b,1,N⟩ u1).setCell ⟨b,2,N⟩ u2):=((h.set1 hb hB 0 u0).set1 hb hB 1 u1).set1 hb hB 2 u2
theorem Fy.set1{v:Hv}(k:Fy B h sv tv n w ms s st v)(hb:Cv w b T)(h1:T≠86/\T≠9/\T≠153/\T≠94/\T≠143/\T≠145)(j:X)(x:Z):Fy B h sv tv n (w.setCell ⟨b,j,N⟩ x) ms s st v:=by
 obtain⟨a1,a2,a3,a4,a5,a6⟩:=h1;obtain⟨xs,m1,m2⟩:=k.made
 have hne:h≠b:=λe=>by
  obtain⟨cs,hc⟩:=hb;have:=k.blk;rw[e,hc]at this;injection this with this;injection this with _ h5;exact a1 h5
 exact⟨k.hB,Fi k.blk hne x,Ao k.txt hb a2 x,k.rcs.set1 hb a4 a5 a6 x,⟨xs,Ao m1 hb a3 x,m2⟩,Ao k.stk hb a2 x,Ao k.ran hb a2 x,Ao k.held hb a2 x,k.txa,k.tk,k.kn,k.ne⟩
theorem Fy.set3{v:Hv}(k:Fy B h sv tv n w ms s st v)(hb:Cv w b T)(h1:T≠86/\T≠9/\T≠153/\T≠94/\T≠143/\T≠145)(u0 u1 u2:Z):Fy B h sv tv n (((w.setCell ⟨b,0,N⟩ u0).setCell ⟨b,1,N⟩ u1).setCell ⟨b,2,N⟩ u2) ms s st v:=((k.set1 hb h1 0 u0).set1 (hb.set u0) h1 1 u1).set1 ((hb.set u0).set u1) h1 2 u2
end Go.Proofs.YtbkkjodaaijimaaGreatDoor
