import Derived.Test.YtbkkjodaaijimaaGreatDoorBdC
import Derived.Test.YtbkkjodaaijimaaGreatDoorBsR
import Derived.Test.YtbkkjodaaijimaaGreatDoorBuA
namespace Go.Proofs.YtbkkjodaaijimaaGreatDoor
open _root_.Go.Proofs.Tryz Go.RowKit Go.Deep
open Value renaming slice->J,string->S,bool->F,agg->G,pointer->D,tuple->Y
open Option renaming some->M,none->N
open Obj renaming cells->O
open Go renaming Value->Z,World->E
open Ending renaming returned->H
open _root_ renaming List->L,Nat->X
set_option linter.unusedVariables false
set_option linter.unusedSimpArgs false
set_option maxHeartbeats 8000000
set_option maxRecDepth 100000
variable {a:BA} {b n k j B sn sn' h al:X} {ms ms':Mm} {nm x f:By} {ss:L S2} {ts:L T2} {y:Bool} {l:L Z} {w w' w1:E} {C:Gg} {s s':Sb} {st:L By} {sv tv av kv u0 u1 u2:Z} {vs:By->Z} {T:TypeId}
noncomputable def Jc (ss:L S2) (ts:L T2) (ms:Mm) (x:By) (y:Bool):Option ByteArray:=if y then (fd ms x).map (λd=>Bi d.c d.t) else M (Cl (Cf ss ts x))
def Ext(ms ms':Mm):Prop:=∃r,ms'=ms++r
theorem Ext.refl(ms:Mm):Ext ms ms:=⟨[],qg⟩
theorem Ext.trans{a b c:Mm}(h:Ext a b)(k:Ext b c):Ext a c:=by
 obtain⟨r,rfl⟩:=h;obtain⟨q,rfl⟩:=k;exact⟨r++q,by rw[List.append_assoc]⟩
theorem Ext.fd(h:Ext ms ms'){d:Md}(k:fd ms nm=M d):Go.Proofs.YtbkkjodaaijimaaGreatDoor.fd ms' nm=M d:=by
 obtain⟨r,rfl⟩:=h;exact qiy
theorem Qf(h:Ext ms ms')(k:Jc ss ts ms x y=M f):Jc ss ts ms' x y=M f:=by
 unfold Jc at *
 cases y with
 | false=>exact k
 | true=>
   simp only[if_true]at *
   cases hf:fd ms x with
   | none=>rw[hf]at k;cases k
   | some d=>rw[hf]at k;rw[h.fd hf];exact k
def Ow(ss:L S2)(ts:L T2)(n:X)(ms:Mm)(f:By->Bool->Option ByteArray):Prop:=∀x y v,f x y=M v->∃q,Jc ss ts ms x y=M q/\v=Av n q
theorem Ow.ext{f:By->Bool->Option ByteArray}(h:Ow ss ts n ms f)(k:Ext ms ms'):Ow ss ts n ms' f:=λx y v e=>by
 obtain⟨q,h1,h2⟩:=h x y v e;exact⟨q,Qf k h1,h2⟩
def Eqs(ss:L S2)(ts:L T2)(n:X)(ms:Mm)(gs:L G3)(k:X):Prop:=∀j,j<k->∃f,Jc ss ts ms (gx gs j).name (gx gs j).ask=M f/\Av n f=(gx gs j).sum
theorem Eqs.ext{gs:L G3}(h:Eqs ss ts n ms gs k)(e:Ext ms ms'):Eqs ss ts n ms' gs k:=λj hj=>by
 obtain⟨f,h1,h2⟩:=h j hj;exact⟨f,Qf e h1,h2⟩
theorem Eqs.succ{gs:L G3}(h:Eqs ss ts n ms gs k)(h1:Jc ss ts ms (gx gs k).name (gx gs k).ask=M f)(h2:Av n f=(gx gs k).sum):Eqs ss ts n ms gs (k+1):=λj hj=>by
 rcases Nat.lt_or_ge j k with q|q
 ·exact h j q
 ·obtain rfl:j=k:=qb
  exact⟨f,h1,h2⟩
def NoH(ss:L S2)(ts:L T2)(n:X)(ms:Mm)(gs:L G3):Prop:=∃k,k<gs.length/\Eqs ss ts n ms gs k/\∃f,Jc ss ts ms (gx gs k).name (gx gs k).ask=M f/\Av n f≠(gx gs k).sum
theorem NoH.ext{gs:L G3}(h:NoH ss ts n ms gs)(e:Ext ms ms'):NoH ss ts n ms' gs:=by
 obtain⟨k,h1,h2,f,h3,h4⟩:=h;exact⟨k,h1,h2.ext e,f,Qf e h3,h4⟩
theorem NoH.bld{gs:L G3}(h:NoH ss ts n ms gs)(s:Sb)(st:L By):Bc ss ts n ms s st (.holds gs 0) ms s .no:=by
 obtain⟨k,h1,h2,f,h3,h4⟩:=h
 have aux:∀m i,i+m=k->Bc ss ts n ms s st (.holds gs i) ms s .no:=by
  intro m
  induction m with
  | zero=>
    intro i hi;obtain rfl:i=k:=qb;unfold Jc at h3
    cases ha:(gx gs i).ask with
    | false=>
      rw[ha]at h3;simp only[Bool.false_eq_true,if_false,Option.some.injEq]at h3;exact .hhasno h1 ha (by rw[h3];exact h4)
    | true=>
      rw[ha]at h3;simp only[if_true]at h3
      cases hf:fd ms (gx gs i).name with
      | none=>rw[hf]at h3;cases h3
      | some d=>
        rw[hf]at h3;simp only[Option.map_some,Option.some.injEq]at h3;exact .haskno h1 ha (.known hf) (by rw[h3];exact h4)
  | succ m ih=>
    intro i hi;obtain⟨f',q1,q2⟩:=h2 i qb;unfold Jc at q1
    cases ha:(gx gs i).ask with
    | false=>
      rw[ha]at q1;simp only[Bool.false_eq_true,if_false,Option.some.injEq]at q1;exact .hhas qb ha (by rw[q1];exact q2) (ih (i+1) qb)
    | true=>
      rw[ha]at q1;simp only[if_true]at q1
      cases hf:fd ms (gx gs i).name with
      | none=>rw[hf]at q1;cases q1
      | some d=>
        rw[hf]at q1;simp only[Option.map_some,Option.some.injEq]at q1;exact .hask qb ha (.known hf) (by rw[q1];exact q2) (ih (i+1) qb)
 exact aux k 0 qb
def Hp(l:L Z):Prop:=l.Pairwise λu v=>∀b,u.ownBlock=M b->v.ownBlock≠M b
theorem Hp.set(h:Hp l)(i:X)(u:Z){AI:X}(hi:i<l.length)(hu:∀b,u.ownBlock=M b->l[i].ownBlock=M b\/AI<=b)(aj:∀v∈l,∀b,v.ownBlock=M b->b<AI):Hp (l.set i u):=by
 unfold Hp at *;rw[List.pairwise_iff_getElem]at *;intro a c ha hc hac b e1 e2;rw[List.length_set]at ha hc;rw[List.getElem_set]at e1 e2
 split at e1
 ·rename_i q
  subst q;rw[if_neg qb]at e2
  rcases hu b e1 with k|k
  ·exact h i c hi hc hac b k e2
  ·have:=aj _ (List.getElem_mem hc) b e2;omega
 ·split at e2
  ·rename_i q q2
   subst q2
   rcases hu b e2 with k|k
   ·exact h a i ha hi hac b e1 k
   ·have:=aj _ (List.getElem_mem ha) b e1;omega
  ·exact h a c ha hc hac b e1 e2
theorem Hp.ne(h:Hp l){i:X}(rh:i≠j)(hi:i<l.length)(hj:j<l.length):∀b,l[i].ownBlock=M b->l[j].ownBlock≠M b:=λb e1 e2=>by
 unfold Hp at h;rw[List.pairwise_iff_getElem]at h
 rcases Nat.lt_or_ge i j with q|q
 ·exact h i j hi hj q b e1 e2
 ·exact h j i hj hi qb b e2 e1
structure Rv where
 tx:Z
 su:Z
 qv:Z
 nv:Z
 ev:Z
 uv:Z
 dv:Z
 sn:X
def Mw(r:Rv):L Z:=[r.tx,r.su,r.qv,r.nv,r.ev,r.uv,r.dv]
def Ks(C:Gg)(r:Rv)(b:X):Prop:=b=C.hb\/b=C.hs\/b=C.sb\/∃u∈Mw r,u.ownBlock=M b
def Pv(C:Gg)(h:X)(r:Rv):Array Z:=#[D (p_ C.hs),r.nv,r.ev,r.uv,I 0,I 0,nS,nS,ze,ze,D (p_ h),.map (M C.sb),r.dv]
structure Kx (B h mb:X) (C:Gg) (ss:L S2) (ts:L T2) (w:E) (ms:Mm) (s:Sb) (av kv:Z) (r:Rv):Prop where
 lb:B<=C.hb/\B<=C.hs/\B<=C.sb/\mb≠C.sb
 wd:1<=C.n/\C.n<=8
 bd:w.heap[C.hb]?=M (O (Pv C h r) 168 (0,0))
 sh:w.heap[C.hs]?=M (O #[I C.n,r.tx,r.qv,r.su] 171 (0,0))
 sn:∃f,Kb w C.sb r.sn f/\Ow ss ts C.n ms f
 tx:w.ownsRow B 9 1 r.tx s.T.length (Aq s.T)
 su:w.ownsRow B 9 1 r.su s.T.length (Aq (s.T.map (Av C.n)))
 qs:Ex w B r.qv s.R
 ran:w.ownsRow B 9 1 r.nv s.ran.length (Aq s.ran)
 held:w.ownsRow B 9 1 r.ev s.held.length (Aq s.held)
 us:∃xs:L Bool,w.ownsRow B 4 1 r.uv s.R.length (xs.map .bool)
 df:∃xs:L Bool,w.ownsRow B 4 1 r.dv s.R.length (xs.map .bool)/\∀i:X,xs[i]?=M true->NoH ss ts C.n ms (qx s.R i).looks
 ud:∀b,r.uv.ownBlock=M b->r.dv.ownBlock≠M b
 ap:Hp [av,kv,r.tx,r.su,r.nv,r.ev]
theorem Ex.kept{v:Z}{R:L T3}(k:Ex w B v R)(h1:∀b,v.ownBlock=M b->w'.heap[b]?=w.heap[b]?)(h2:∀(b:X)(cs:Array Z)(T:TypeId),(T=143\/T=145)->w.heap[b]?=M (O cs T (0,0))->w'.heap[b]?=M (O cs T (0,0))):Ex w' B v R:=by
 obtain⟨xs,cv,lv,r⟩:=k
 have kk:∀ {e sz n:X} {u:Z} {ys:L Z},w.ownsRow B e sz u n ys->(e=143\/e=145)->w'.ownsRow B e sz u n ys:=λho he=>Al ho λb q=>by
  obtain⟨cs,c1⟩:=Az ho b q;rw[c1];exact h2 b cs _ he c1
 exact⟨xs,cv,lv,Al r.row h1,r.fil,λi hi=>by obtain⟨ys,a,b⟩:=r.code i hi;exact⟨ys,kk a (Or.inl rfl),b⟩,λi hi=>by obtain⟨ys,a,b⟩:=r.look i hi;exact⟨ys,kk a (Or.inr rfl),b⟩,r.apc,r.apl⟩
section
variable {B h mb:X} {C:Gg} {ss:L S2} {ts:L T2} {w w':E} {ms:Mm} {s:Sb} {av kv:Z} {r:Rv}
theorem Aw(C:Gg){r:Rv}{u:Z}{b:X}(hu:u∈Mw r)(q:u.ownBlock=M b):Ks C r b:=Or.inr (Or.inr (Or.inr ⟨u,hu,q⟩))
theorem Kx.kept(k:Kx B h mb C ss ts w ms s av kv r)(h1:∀b,Ks C r b->w'.heap[b]?=w.heap[b]?)(h2:∀(b:X)(cs:Array Z)(T:TypeId),(T=143\/T=145)->w.heap[b]?=M (O cs T (0,0))->w'.heap[b]?=M (O cs T (0,0))):Kx B h mb C ss ts w' ms s av kv r:=by
 obtain⟨f,f1,f2⟩:=k.sn;obtain⟨xs,u1⟩:=k.us;obtain⟨ys,d1,d2⟩:=k.df;have kk:∀ {e sz n:X} {u:Z} {ys:L Z},w.ownsRow B e sz u n ys->u∈Mw r->w'.ownsRow B e sz u n ys:=λho hu=>Al ho λb q=>h1 b (Aw C hu q);exact⟨k.lb,k.wd,by rw[h1 _ (Or.inl rfl)];exact k.bd,by rw[h1 _ (Or.inr (Or.inl rfl))];exact k.sh,⟨f,f1.same (h1 _ (Or.inr (Or.inr (Or.inl rfl)))),f2⟩,kk k.tx qq,kk k.su qq,k.qs.kept (λb q=>h1 b (Aw C (u:=r.qv) qq q)) h2,kk k.ran qq,kk k.held qq,⟨xs,kk u1 qq⟩,⟨ys,kk d1 qq,d2⟩,k.ud,k.ap⟩
theorem Kx.rowT(k:Kx B h mb C ss ts w ms s av kv r){u:Z}(hu:u∈Mw r){b:X}(q:u.ownBlock=M b):B<=b/\∃cs T,w.heap[b]?=M (O cs T (0,0))/\(T=9\/T=94\/T=4):=by
 exact qhd
theorem Kx.lt(k:Kx B h mb C ss ts w ms s av kv r){b:X}(q:Ks C r b):B<=b/\b<w.heap.size:=by
 obtain⟨f,f1,f2⟩:=k.sn
 rcases q with rfl|rfl|rfl|⟨u,hu,q⟩
 ·exact⟨k.lb.1,Ag k.bd⟩
 ·exact⟨k.lb.2.1,Ag k.sh⟩
 ·exact⟨k.lb.2.2.1,f1.lt⟩
 ·obtain⟨hB,cs,T,c1,_⟩:=k.rowT hu q
  exact⟨hB,Ag c1⟩
theorem Kx.bl(k:Kx B h mb C ss ts w ms s av kv r)(hb:Bw w w'):Kx B h mb C ss ts w' ms s av kv r:=k.kept (λb q=>hb.block b (k.lt q).2) (λb cs T _ q=>by rw[hb.block b (Ag q)];exact q)
theorem Kx.far(k:Kx B h mb C ss ts w ms s av kv r){b:X}{T:TypeId}{cs:Array Z}(hb:w.heap[b]?=M (O cs T (0,0)))(hT:T≠168/\T≠171/\T≠9/\T≠94/\T≠4):¬ Ks C r b:=by
 obtain⟨f,f1,f2⟩:=k.sn;rintro(rfl|rfl|rfl|⟨u,hu,q⟩)
 ·have q:=k.bd;rw[hb]at q;injection q with q;injection q with _ q;exact hT.1 q
 ·have q:=k.sh;rw[hb]at q;injection q with q;injection q with _ q;exact hT.2.1 q
 ·exact f1.notCells hb
 ·obtain⟨_,cs',T',c1,c2⟩:=k.rowT hu q
  rw[hb]at c1;injection c1 with c1;injection c1 with _ c1
  rcases c2 with e|e|e
  ·exact hT.2.2.1 (c1.trans e)
  ·exact hT.2.2.2.1 (c1.trans e)
  ·exact hT.2.2.2.2 (c1.trans e)
theorem Kx.ne9(k:Kx B h mb C ss ts w ms s av kv r){b:X}(q:av.ownBlock=M b\/kv.ownBlock=M b)(hc:∃cs,w.heap[b]?=M (O cs 9 (0,0))):¬ Ks C r b:=by
 obtain⟨f,f1,f2⟩:=k.sn;obtain⟨cs,hb⟩:=hc;obtain⟨xs,u1⟩:=k.us;obtain⟨ys,d1,d2⟩:=k.df;obtain⟨zs,cv,lv,qr⟩:=k.qs;rintro(rfl|rfl|rfl|⟨u,hu,q2⟩)
 ·exact qlx
 ·exact qlw
 ·exact f1.notCells hb
 ·have ap:=k.ap
  have aux:∀(i j:X)(hi:i<6)(hj:j<6),i≠j->[av,kv,r.tx,r.su,r.nv,r.ev][i].ownBlock=M b->[av,kv,r.tx,r.su,r.nv,r.ev][j].ownBlock≠M b:=λi j hi hj rh=>ap.ne rh hi hj b;simp only[Mw,List.mem_cons,List.not_mem_nil,or_false]at hu
  rcases hu with rfl|rfl|rfl|rfl|rfl|rfl|rfl
  ·exact q.elim (λq=>aux 0 2 qd qd qd q q2) (λq=>aux 1 2 qd qd qd q q2)
  ·exact q.elim (λq=>aux 0 3 qd qd qd q q2) (λq=>aux 1 3 qd qd qd q q2)
  ·exact Ae qr.row qd hb q2
  ·exact q.elim (λq=>aux 0 4 qd qd qd q q2) (λq=>aux 1 4 qd qd qd q q2)
  ·exact q.elim (λq=>aux 0 5 qd qd qd q q2) (λq=>aux 1 5 qd qd qd q q2)
  ·exact Ae u1 qd hb q2
  ·exact Ae d1 qd hb q2
theorem Kx.set(k:Kx B h mb C ss ts w ms s av kv r){b:X}{T:TypeId}{cs:Array Z}(hb:w.heap[b]?=M (O cs T (0,0)))(hT:T≠168/\T≠171/\T≠9/\T≠94/\T≠4)(hT2:T≠143/\T≠145)(j:X)(u:Z):Kx B h mb C ss ts (w.setCell ⟨b,j,N⟩ u) ms s av kv r:=
 k.kept (λb' q=>hC w ⟨b,j,N⟩ _ b' (λe=>k.far hb hT (by have e:b'=b:=e;exact e▸q))) (λb' cs' T' G2 q=>by
  rw[hC w ⟨b,j,N⟩ _ b' (λe=>by
   have e:b'=b:=e;subst e;rw[hb]at q;injection q with q;injection q with _ q
   rcases G2 with e|e
   ·exact hT2.1 (q.trans e)
   ·exact hT2.2 (q.trans e))]
  exact q)
theorem Kx.ext(k:Kx B h mb C ss ts w ms s av kv r){ms':Mm}(e:Ext ms ms'):Kx B h mb C ss ts w ms' s av kv r:=by
 obtain⟨f,f1,f2⟩:=k.sn;obtain⟨ys,d1,d2⟩:=k.df;exact⟨k.lb,k.wd,k.bd,k.sh,⟨f,f1,f2.ext e⟩,k.tx,k.su,k.qs,k.ran,k.held,k.us,⟨ys,d1,λi q=>(d2 i q).ext e⟩,k.ud,k.ap⟩
theorem Kx.kp{kk:X}{sv tv fv:Z}{mk st:L By}{al:X}{vs:By->Z}{ms0:Mm}(k:Kx B h mb C ss ts w ms s av kv r)(m:Mj B h mb kk sv tv fv w ms0 mk st al av kv vs)(hk:KP B h mb av kv w w'):Kx B h mb C ss ts w' ms s av kv r:=by
 obtain⟨n,hn,hm⟩:=m.map;obtain⟨xs,e,ha⟩:=m.ask;refine k.kept (λb q=>hk.keep b (k.lt q).2 (λe=>?_) (λe=>?_) (λe=>?_) (λe=>?_)) (λb cs T hT q=>?_)
 ·subst e;exact k.far m.blk qd q
 ·subst e
  rcases q with q|q|q|⟨u,hu,q⟩
  ·subst q;exact hm.notCells k.bd
  ·subst q;exact hm.notCells k.sh
  ·exact k.lb.2.2.2 q
  ·obtain⟨_,cs,T,c1,_⟩:=k.rowT hu q
   exact hm.notCells c1
 ·exact k.ne9 (Or.inl e) (Az ha b e) q
 ·exact k.ne9 (Or.inr e) (Az m.stk b e) q
 ·rw[hk.keep b (Ag q) (λe=>?_) (λe=>?_) (λe=>?_) (λe=>?_)]
  ·exact q
  ·subst e
   have q2:=m.blk;rw[q]at q2;injection q2 with q2;injection q2 with _ q2
   rcases hT with e|e<;>rw[e]at q2<;>exact absurd q2 qd
  ·subst e;exact hm.notCells q
  ·exact Ae ha (by rcases hT with e|e<;>rw[e]<;>decide) q e
  ·exact Ae m.stk (by rcases hT with e|e<;>rw[e]<;>decide) q e
theorem Kx.l6(k:Kx B h mb C ss ts w ms s av kv r)(ha:∀b,av.ownBlock=M b->b<w.heap.size)(hk:∀b,kv.ownBlock=M b->b<w.heap.size):∀v∈[av,kv,r.tx,r.su,r.nv,r.ev],∀b,v.ownBlock=M b->b<w.heap.size:=by
 intro v hv b q;simp only[List.mem_cons,List.not_mem_nil,or_false]at hv
 rcases hv with rfl|rfl|rfl|rfl|rfl|rfl
 ·exact ha b q
 ·exact hk b q
 ·exact(k.tx.lt b q).2
 ·exact(k.su.lt b q).2
 ·exact(k.ran.lt b q).2
 ·exact(k.held.lt b q).2
theorem Kx.av'(k:Kx B h mb C ss ts w' ms s av kv r)(k0:Kx B h mb C ss ts w ms s av kv r)(ha:∀b,av.ownBlock=M b->b<w.heap.size)(hk:∀b,kv.ownBlock=M b->b<w.heap.size){u:Z}(hu:An w av u):Kx B h mb C ss ts w' ms s u kv r:=
 ⟨k.lb,k.wd,k.bd,k.sh,k.sn,k.tx,k.su,k.qs,k.ran,k.held,k.us,k.df,k.ud,Hp.set k.ap 0 u qg hu (k0.l6 ha hk)⟩
theorem Kx.kv'(k:Kx B h mb C ss ts w' ms s av kv r)(k0:Kx B h mb C ss ts w ms s av kv r)(ha:∀b,av.ownBlock=M b->b<w.heap.size)(hk:∀b,kv.ownBlock=M b->b<w.heap.size){u:Z}(hu:An w kv u):Kx B h mb C ss ts w' ms s av u r:=
 ⟨k.lb,k.wd,k.bd,k.sh,k.sn,k.tx,k.su,k.qs,k.ran,k.held,k.us,k.df,k.ud,Hp.set k.ap 1 u qg hu (k0.l6 ha hk)⟩
theorem Mj.kr{kk:X}{sv tv fv:Z}{mk st:L By}{al:X}{vs:By->Z}{ms0:Mm}(m:Mj B h mb kk sv tv fv w ms0 mk st al av kv vs)(k:Kx B h mb C ss ts w ms s av kv r)(hk:∀b,b<w.heap.size->¬ Ks C r b->w'.heap[b]?=w.heap[b]?):Mj B h mb kk sv tv fv w' ms0 mk st al av kv vs:=by
 obtain⟨n,hn,hm⟩:=m.map;obtain⟨xs,e,ha⟩:=m.ask;refine m.kept λb q=>hk b (m.lt q) ?_
 rcases q with rfl|rfl|q|q
 ·exact k.far m.blk qd
 ·rintro(q|q|q|⟨u,hu,q⟩)
  ·subst q;exact hm.notCells k.bd
  ·subst q;exact hm.notCells k.sh
  ·exact k.lb.2.2.2 q
  ·obtain⟨_,cs,T,c1,_⟩:=k.rowT hu q
   exact hm.notCells c1
 ·exact k.ne9 (Or.inl q) (Az ha b q)
 ·exact k.ne9 (Or.inr q) (Az m.stk b q)
end
def slen:Z->X
 | J _ n _=>n
 | _=>0
def Ka(v:Z)(w w':E):Prop:=∀g l cp (cs:Array Z),v=J (p_ g) l cp->w.heap[g]?=M (O cs 94 (0,0))->∃cs',w'.heap[g]?=M (O cs' 94 (0,0))/\∀j,j<l*3->cs'[j]?=cs[j]?
structure KQ (B h mb:X) (C:Gg) (av kv:Z) (r r':Rv) (w w':E):Prop where
 bel:Below B w w'
 keep:∀b,b<w.heap.size->b≠h->b≠mb->av.ownBlock≠M b->kv.ownBlock≠M b->¬ Ks C r b->w'.heap[b]?=w.heap[b]?
 new:∀b,Ks C r' b->Ks C r b\/w.heap.size<=b
 old:Ka r.qv w w'
 len:slen r.qv<=slen r'.qv
structure BS (B h mb k:X) (C:Gg) (sv tv:Z) (ss:L S2) (ts:L T2) (w:E) (ms:Mm) (mk st:L By) (al:X) (av kv:Z) (vs:By->Z) (s:Sb) (r:Rv):Prop where
 mkr:Mj B h mb k sv tv (fvC C) w ms mk st al av kv vs
 rs:Kx B h mb C ss ts w ms s av kv r
abbrev Iw(B h mb:X)(C:Gg)(sv tv:Z)(ss:L S2)(ts:L T2)(w:E)(ms:Mm)(st:L By)(av kv:Z)(vs:By->Z)(s:Sb)(r:Rv):Prop:=BS B h mb 0 C sv tv ss ts w ms st st (ms.length+st.length) av kv vs s r
def TyO(T:TypeId):Prop:=T≠211/\T≠168/\T≠171/\T≠9/\T≠94/\T≠4/\T≠143/\T≠145
instance (T:TypeId):Decidable (TyO T):=by unfold TyO;infer_instance
section
variable {B h mb k:X} {C:Gg} {sv tv:Z} {ss:L S2} {ts:L T2} {w w':E} {ms:Mm} {mk st:L By} {al:X} {av kv:Z} {vs:By->Z} {s:Sb} {r r' r'':Rv}
theorem BS.bl(q:BS B h mb k C sv tv ss ts w ms mk st al av kv vs s r)(hb:Bw w w'):BS B h mb k C sv tv ss ts w' ms mk st al av kv vs s r:=⟨q.mkr.bl hb,q.rs.bl hb⟩
theorem BS.le{k':X}(q:BS B h mb k C sv tv ss ts w ms mk st al av kv vs s r)(hk:k'<=k):BS B h mb k' C sv tv ss ts w ms mk st al av kv vs s r:=⟨q.mkr.le hk,q.rs⟩
theorem BS.set(q:BS B h mb k C sv tv ss ts w ms mk st al av kv vs s r){b:X}{T:TypeId}{cs:Array Z}(hb:w.heap[b]?=M (O cs T (0,0)))(hT:TyO T)(j:X)(u:Z):BS B h mb k C sv tv ss ts (w.setCell ⟨b,j,N⟩ u) ms mk st al av kv vs s r:=
 ⟨q.mkr.set hb hT.1 hT.2.2.2.1 j u,q.rs.set hb ⟨hT.2.1,hT.2.2.1,hT.2.2.2.1,hT.2.2.2.2.1,hT.2.2.2.2.2.1⟩ hT.2.2.2.2.2.2 j u⟩
theorem BS.ownA(q:BS B h mb k C sv tv ss ts w ms mk st al av kv vs s r):(∀b,av.ownBlock=M b->b<w.heap.size)/\(∀b,kv.ownBlock=M b->b<w.heap.size):=⟨λb e=>q.mkr.lt (by simp[e]),λb e=>q.mkr.lt (by simp[e])⟩
theorem BS.noneA(q:BS B h mb k C sv tv ss ts w ms mk st al av kv vs s r){b:X}{T:TypeId}{cs:Array Z}(hb:w.heap[b]?=M (O cs T (0,0)))(hT:TyO T):b≠h/\b≠mb/\av.ownBlock≠M b/\kv.ownBlock≠M b/\¬ Ks C r b:=
 ⟨λe=>q.mkr.far hb hT.1 hT.2.2.2.1 (Or.inl e) rfl,λe=>q.mkr.far hb hT.1 hT.2.2.2.1 (Or.inr (Or.inl e)) rfl,λe=>q.mkr.far hb hT.1 hT.2.2.2.1 (Or.inr (Or.inr (Or.inl e))) rfl,λe=>q.mkr.far hb hT.1 hT.2.2.2.1 (Or.inr (Or.inr (Or.inr e))) rfl,q.rs.far hb ⟨hT.2.1,hT.2.2.1,hT.2.2.2.1,hT.2.2.2.2.1,hT.2.2.2.2.2.1⟩⟩
theorem KQ.blk(K:KQ B h mb C av kv r r' w w')(q:BS B h mb k C sv tv ss ts w ms mk st al av kv vs s r){b:X}{T:TypeId}{cs:Array Z}(hb:w.heap[b]?=M (O cs T (0,0)))(hT:TyO T):w'.heap[b]?=M (O cs T (0,0)):=by
 obtain⟨n1,n2,n3,n4,n5⟩:=q.noneA hb hT;rw[K.keep b (Ag hb) n1 n2 n3 n4 n5];exact hb
theorem Ka.refl(v:Z)(w:E):Ka v w w:=λg l cp cs e hb=>⟨cs,hb,λ_ _=>rfl⟩
theorem Ka.same{v:Z}{w w':E}(h:∀b,v.ownBlock=M b->w'.heap[b]?=w.heap[b]?):Ka v w w':=λg l cp cs e hb=>⟨cs,by rw[h g (by rw[e];rfl)];exact hb,λ_ _=>rfl⟩
theorem KQ.refl(w:E):KQ B h mb C av kv r r w w:=⟨Below.refl _ _,λ_ _ _ _ _ _ _=>rfl,λ_ h=>Or.inl h,Ka.refl _ _,Nat.le_refl _⟩
theorem KQ.of_below(q:BS B h mb k C sv tv ss ts w ms mk st al av kv vs s r)(hb:Bw w w')(hB:B<=w.heap.size):KQ B h mb C av kv r r w w':=⟨hb.mono hB,λb hl _ _ _ _ _=>hb.block b hl,λ_ h=>Or.inl h,Ka.same λb e=>hb.block b (q.rs.lt (Aw C (u:=r.qv) qq e)).2,Nat.le_refl _⟩
theorem KQ.of_kp(q:BS B h mb k C sv tv ss ts w ms mk st al av kv vs s r)(hk:KP B h mb av kv w w'):KQ B h mb C av kv r r w w':=by
 refine⟨hk.bl,λb hl h1 h2 h3 h4 _=>hk.keep b hl h1 h2 h3 h4,λ_ h=>Or.inl h,Ka.same λb e=>?_,Nat.le_refl _⟩;have ow:Ks C r b:=Aw C (u:=r.qv) qq e;have hl:=(q.rs.lt ow).2;obtain⟨xs,cv,lv,qr⟩:=q.rs.qs;obtain⟨cs,c1⟩:=Az qr.row b e;exact hk.keep b hl (λe'=>q.mkr.far c1 qd qd (Or.inl e') rfl) (λe'=>q.mkr.far c1 qd qd (Or.inr (Or.inl e')) rfl) (λe'=>q.mkr.far c1 qd qd (Or.inr (Or.inr (Or.inl e'))) rfl) (λe'=>q.mkr.far c1 qd qd (Or.inr (Or.inr (Or.inr e'))) rfl)
theorem KQ.trans{w1 w2:E}{av1 kv1:Z}(K:KQ B h mb C av kv r r' w w1)(ha:An w av av1)(hk:An w kv kv1)(q:BS B h mb k C sv tv ss ts w1 ms mk st al av1 kv1 vs s r')(AL:KQ B h mb C av1 kv1 r' r'' w1 w2):KQ B h mb C av kv r r'' w w2:=by
 have hs:=K.bel.size;refine⟨K.bel.trans AL.bel,λb hl h1 h2 h3 h4 h5=>?_,λb e=>?_,λg l cp cs e hb=>?_,Nat.le_trans K.len AL.len⟩
 ·rw[AL.keep b qb h1 h2 (λe=>by rcases ha b e with q|q;exact h3 q;omega) (λe=>by rcases hk b e with q|q;exact h4 q;omega) (λe=>by rcases K.new b e with q|q;exact h5 q;omega)]
  exact K.keep b hl h1 h2 h3 h4 h5
 ·rcases AL.new b e with q|q
  ·exact K.new b q
  ·exact Or.inr qb
 ·obtain⟨A4,b1,c1⟩:=K.old g l cp cs e hb
  by_cases ow:r'.qv.ownBlock=M g
  ·obtain⟨xs,cv,lv,qr⟩:=q.rs.qs
   have hr:=qr.row
   rcases hr.2 with⟨e0,_⟩|⟨g1,cp1,cur,e1,_⟩
   ·rw[e0]at ow;simp[Value.ownBlock]at ow
   ·rw[e1]at ow
    simp[Value.ownBlock]at ow;subst ow;obtain⟨cs2,b2,c2⟩:=AL.old g1 _ cp1 A4 e1 b1;have dh:=K.len;rw[e,e1]at dh;simp only[slen]at dh;exact⟨cs2,b2,λj hj=>(c2 j qb).trans (c1 j hj)⟩
  ·refine⟨A4,?_,c1⟩
   rw[AL.keep g (Ag b1) (λe'=>q.mkr.far b1 qd qd (Or.inl e') rfl) (λe'=>q.mkr.far b1 qd qd (Or.inr (Or.inl e')) rfl) (λe'=>q.mkr.far b1 qd qd (Or.inr (Or.inr (Or.inl e'))) rfl) (λe'=>q.mkr.far b1 qd qd (Or.inr (Or.inr (Or.inr e'))) rfl) ?_]
   ·exact b1
   ·rintro(q2|q2|q2|⟨u,hu,q2⟩)
    ·subst q2;have q:=q.rs.bd;rw[b1]at q;injection q with q;injection q with _ q;exact absurd q qd
    ·subst q2;have q:=q.rs.sh;rw[b1]at q;injection q with q;injection q with _ q;exact absurd q qd
    ·subst q2;obtain⟨f,f1,_⟩:=q.rs.sn;exact f1.notCells b1
    ·obtain⟨xs,u1⟩:=q.rs.us
     obtain⟨ys,d1,d2⟩:=q.rs.df;simp only[Mw,List.mem_cons,List.not_mem_nil,or_false]at hu
     rcases hu with rfl|rfl|rfl|rfl|rfl|rfl|rfl
     ·exact Ae q.rs.tx qd b1 q2
     ·exact Ae q.rs.su qd b1 q2
     ·exact ow q2
     ·exact Ae q.rs.ran qd b1 q2
     ·exact Ae q.rs.held qd b1 q2
     ·exact Ae u1 qd b1 q2
     ·exact Ae d1 qd b1 q2
theorem KQ.after{w1 w2:E}{av1 kv1:Z}(K:KQ B h mb C av kv r r' w w1)(ha:An w av av1)(hk:An w kv kv1)(q:BS B h mb k C sv tv ss ts w1 ms mk st al av1 kv1 vs s r')(hb:Bw w1 w2)(hB:B<=w1.heap.size):KQ B h mb C av kv r r' w w2:=K.trans ha hk q (KQ.of_below q hb hB)
theorem KQ.setN{w1:E}{av1 kv1:Z}(K:KQ B h mb C av kv r r' w w1)(q:BS B h mb k C sv tv ss ts w1 ms mk st al av1 kv1 vs s r')(q0:BS B h mb k C sv tv ss ts w ms mk st al av kv vs s r){b j:X}{u:Z}(hB:B<=b)(hn:w.heap.size<=b):KQ B h mb C av kv r r' w (w1.setCell ⟨b,j,N⟩ u):=
 ⟨K.bel.setCell (p:=⟨b,j,N⟩) hB _,λb' hl h1 h2 h3 h4 h5=>by rw[hC w1 ⟨b,j,N⟩ _ b' (show b'≠b from qb)];exact K.keep b' hl h1 h2 h3 h4 h5,K.new,λg l cp cs e hb=>by
  obtain⟨A4,b1,c1⟩:=K.old g l cp cs e hb;exact⟨A4,by rw[hC w1 ⟨b,j,N⟩ _ g (show g≠b by have:=Ag hb;omega)];exact b1,c1⟩,K.len⟩
end
def clA:Hm->ByteArray
 | .clash A _=>A
 | _=>⟨#[]⟩
def clB:Hm->ByteArray
 | .clash _ B=>B
 | _=>⟨#[]⟩
def Cz(B:X)(C:Gg)(w:E)(b:Hm)(v:Z):Prop:=w.cell? ⟨C.hb,8,N⟩=M (S (clA b))/\w.cell? ⟨C.hb,9,N⟩=M (S (clB b))/\
 match b with
 | .circle ch=>∃ca cn cc,v=G #[I 6,ze,J ca cn cc]/\w.ownsRow B 9 1 (J ca cn cc) ch.length (Aq ch)
 | .deep nm=>v=G #[I 7,S nm,nS]
 | .clash _ _=>v=G #[I 10,ze,nS]
 | .full=>v=G #[I 11,ze,nS]
theorem Cz.bl{b:Hm}{v:Z}(h:Cz B C w b v)(hb:Bw w w'):Cz B C w' b v:=by
 obtain⟨h1,h2,h3⟩:=h;refine⟨Aa hb h1,Aa hb h2,?_⟩
 cases b with
 | circle ch=>obtain⟨ca,cn,cc,e,ho⟩:=h3;exact⟨ca,cn,cc,e,Ab ho hb⟩
 | deep nm=>exact h3
 | clash A B=>exact h3
 | full=>exact h3
structure Fd (ss:L S2) (ts:L T2) (n:X) (ms:Mm) (s:Sb) (st:L By) (sn c:X):Prop where
 inv:Fv ss ts ms st
 ok:Jz n s
 ml:ms.length+c<=400200*Db ts ms st
 cn:Ku ts ms s st
 sl:sn+c<=400200*Db ts ms st
theorem Fd.le{c c':X}(h:Fd ss ts n ms s st sn c)(hc:c'<=c):Fd ss ts n ms s st sn c':=⟨h.inv,h.ok,by have:=h.ml;omega,h.cn,by have:=h.sl;omega⟩
theorem Fd.step{c d:X}{j:BJ}(hv:SpV ss ts)(h:Fd ss ts n ms s st sn c)(hb:Bc ss ts n ms s st j ms' s' a)(hj:JobB s j)(ha:∀b,a≠.bad b)(hz:Wl j=0)(hd:Ot j<=d)(hc:d<=c)(kw:sn'+400200*Db ts ms st<=sn+d+400200*Db ts ms' st):Fd ss ts n ms' s' st sn' (c-d):=by
 obtain⟨k1,k2,_,_⟩:=hb.inv hv h.inv h.ok hj ha;have k3:=hb.cost hv h.inv h.ok hj ha;have h1:=h.ml;have h2:=h.sl;exact⟨k1,k2,qb,hb.cntM hv h.inv h.ok hj ha hz h.cn,qb⟩
theorem Bc.ext(hv:SpV ss ts){j:BJ}(h:Bc ss ts n ms s st j ms' s' a)(hi:Fv ss ts ms st)(hs:Jz n s)(hj:JobB s j)(ha:∀b,a≠.bad b):Ext ms ms':=(h.inv hv hi hs hj ha).2.2.1.ex
theorem Fd.small{c:X}(h:Fd ss ts n ms s st sn c)(hl:ts.length<=200):ms.length<=80040000/\sn<=80040000/\st.length<=200/\s.ran.length+s.held.length<=200:=by
 have h1:=h.ml;have h2:=h.sl;have h3:=h.cn;have h4:=Mq ts ms st;unfold Ku at h3;omega
def Nl(B h mb:X)(C:Gg)(sv tv:Z)(ss:L S2)(ts:L T2)(ms:Mm)(s:Sb)(st:L By)(av kv:Z)(vs:By->Z)(r:Rv)(nm:By)(rt:Md->(By->Z)->Z)(w:E)(e:Ending)(w':E):Prop:=
 ∃ms' s' a,Bc ss ts C.n ms s st (.make nm) ms' s' a/\
  ((∃d av' kv' vs' r',a=.ok d/\e=H (rt d vs')/\Iw B h mb C sv tv ss ts w' ms' st av' kv' vs' s' r'/\KQ B h mb C av kv r r' w w'/\An w av av'/\An w kv kv'/\r'.sn+400200*Db ts ms st<=r.sn+400200*Db ts ms' st)\/
   (∃b v r',a=.bad b/\e=Lb v/\Cz B C w' b v/\KQ B h mb C av kv r r' w w'))
def Gb(W0:E)(h mb:X)(C:Gg)(sv tv:Z)(ss:L S2)(ts:L T2)(st:L By):Prop:=
 ∀(w:E)(ms:Mm)(nm:By)(av kv:Z)(vs:By->Z)(s:Sb)(r:Rv),Iw W0.heap.size h mb C sv tv ss ts w ms st av kv vs s r->Fd ss ts C.n ms s st r.sn 0->Ar nm->Bw W0 w->
   Calls prog 149 #[D (p_ h),S nm] w λe w'=>Nl W0.heap.size h mb C sv tv ss ts ms s st av kv vs r nm (λd vs'=>Fh d (vs' nm)) w e w'
noncomputable def lookV (ss:L S2) (ts:L T2) (nm:By) (d:Md):Z:=Y #[G #[F (Cf ss ts nm),I d.c,S d.t],S (Bi d.c d.t)]
theorem Wv(W0:E)(h mb k:X)(C:Gg)(sa ta:Option Addr)(c1 c2:X)(ss:L S2)(ts:L T2)(ms:Mm)(mk st:L By)(al:X)(av kv:Z)(vs:By->Z)(s:Sb)(r:Rv)(nm:By)(w:E)(hE:Hn W0 sa ta ss ts)(q:BS W0.heap.size h mb k C (J sa ss.length c1) (J ta ts.length c2) ss ts w ms mk st al av kv vs s r)(hW:Bw W0 w):Calls prog 165 #[D (p_ h),S nm,F false] w λe w'=>e=H (Y #[G #[F (Cf ss ts nm),I 0,ze],S (Cl (Cf ss ts nm))])/\Bw w w':=by
 obtain⟨W,eW⟩:=Aj (w.alloc (O #[F false,I 0,ze] 196));have bn:Bw w W:=qba
 have HR:Hd (W.heap[w.heap.size]?=M (O #[F false,I 0,ze] 196 (0,0))):=by
  exact qbk
 obtain⟨x0,x1,_⟩:=(q.mkr.bl bn).cells;have A6:=Zy sa ta c1 c2 ss ts nm W0 W hE (hW.trans (bn.mono hW.size));have HB:Hd (Bw w W):=bn;generalize Cf ss ts nm=tb at A6 ⊢;have HT:Hd (Calls prog 178 #[G #[J sa ss.length c1,J ta ts.length c2],S nm] W λe w'=>Bw W w'/\e=H (F tb)):=A6;obtain⟨f,ef⟩:=Aj (Cl tb);have HF:Hd (∀V:E,Calls prog 179 #[F tb] V λe w'=>e=H (S f)/\V=w'):=λV=>by rw[<- ef];exact Qk tb V
 rw[ef];clear ef A6 q hW hE bn;go_enter func165,ntmps165;go_wp2_with fail;refine HT.o.mono ?_;rintro e w3 ⟨ba,rfl⟩;have gz:Hd (w3.heap[w.heap.size]?=M (O #[F false,I 0,ze] 196 (0,0))):=Ad ba HR.o;have d7:Hd (Bw w w3):=Ba HB.o ba;obtain⟨z0,z1,z2,zf⟩:=Dw gz.o;clear ba HR HT x0 x1
 go_wp2_with (first|(go_at_call 179;refine(HF.o _).mono ?_;rintro e w4 ⟨rfl,rfl⟩))
 obtain⟨y0,y1,y2,_⟩:=Dw (Bn gz.o (F tb) (I 0) ze);exact bR (v:=Y #[G #[F tb,I 0,ze],S f]) (by simp[results,results165,go_sem,y0,y1,y2]) rfl ⟨rfl,Gl d7.o (Nat.le_refl _) _ _ _⟩
theorem BS.set3{mb:X}{mk:L By}{r:Rv}(q:BS B h mb k C sv tv ss ts w ms mk st al av kv vs s r)(hb:w.heap[b]?=M (O #[u0,u1,u2] T (0,0)))(hT:TyO T)(v0 v1 v2:Z):BS B h mb k C sv tv ss ts (((w.setCell ⟨b,0,N⟩ v0).setCell ⟨b,1,N⟩ v1).setCell ⟨b,2,N⟩ v2) ms mk st al av kv vs s r:=by
 have h1:=q.set hb hT 0 v0;have b1:(w.setCell ⟨b,0,N⟩ v0).heap[b]?=_:=jB hb v0;have h2:=h1.set b1 hT 1 v1;have b2:((w.setCell ⟨b,0,N⟩ v0).setCell ⟨b,1,N⟩ v1).heap[b]?=_:=jB b1 v1;exact h2.set b2 hT 2 v2
theorem BS.set6{mb:X}{mk:L By}{r:Rv}(q:BS B h mb k C sv tv ss ts w ms mk st al av kv vs s r){u3 u4 u5:Z}(hb:w.heap[b]?=M (O #[u0,u1,u2,u3,u4,u5] T (0,0)))(hT:TyO T)(v0 v1 v2 v3 v4 v5:Z):BS B h mb k C sv tv ss ts ((((((w.setCell ⟨b,0,N⟩ v0).setCell ⟨b,1,N⟩ v1).setCell ⟨b,2,N⟩ v2).setCell ⟨b,3,N⟩ v3).setCell ⟨b,4,N⟩ v4).setCell ⟨b,5,N⟩ v5) ms mk st al av kv vs s r:=by
 have h1:=q.set hb hT 0 v0;have b1:(w.setCell ⟨b,0,N⟩ v0).heap[b]?=_:=jB hb v0;have h2:=h1.set b1 hT 1 v1;have b2:((w.setCell ⟨b,0,N⟩ v0).setCell ⟨b,1,N⟩ v1).heap[b]?=_:=jB b1 v1;have h3:=h2.set b2 hT 2 v2;have b3:(((w.setCell ⟨b,0,N⟩ v0).setCell ⟨b,1,N⟩ v1).setCell ⟨b,2,N⟩ v2).heap[b]?=_:=jB b2 v2;have h4:=h3.set b3 hT 3 v3;have b4:((((w.setCell ⟨b,0,N⟩ v0).setCell ⟨b,1,N⟩ v1).setCell ⟨b,2,N⟩ v2).setCell ⟨b,3,N⟩ v3).heap[b]?=_:=jB b3 v3;have h5:=h4.set b4 hT 4 v4;have b5:(((((w.setCell ⟨b,0,N⟩ v0).setCell ⟨b,1,N⟩ v1).setCell ⟨b,2,N⟩ v2).setCell ⟨b,3,N⟩ v3).setCell ⟨b,4,N⟩ v4).heap[b]?=_:=jB b4 v4;exact h5.set b5 hT 5 v5
theorem KQ.setX{mb:X}{r r':Rv}(K:KQ B h mb C av kv r r' w w1){u:Z}(hB:B<=b)(hn:w.heap.size<=b):KQ B h mb C av kv r r' w (w1.setCell ⟨b,j,N⟩ u):=
 ⟨K.bel.setCell (p:=⟨b,j,N⟩) hB _,λb' hl h1 h2 h3 h4 h5=>by rw[hC w1 ⟨b,j,N⟩ _ b' (show b'≠b from qb)];exact K.keep b' hl h1 h2 h3 h4 h5,K.new,λg l cp cs e hb=>by
  obtain⟨A4,b1,c1⟩:=K.old g l cp cs e hb;exact⟨A4,by rw[hC w1 ⟨b,j,N⟩ _ g (show g≠b by have:=Ag hb;omega)];exact b1,c1⟩,K.len⟩
theorem KQ.set3{mb:X}{r r':Rv}(K:KQ B h mb C av kv r r' w w1)(hB:B<=b)(hn:w.heap.size<=b)(v0 v1 v2:Z):KQ B h mb C av kv r r' w (((w1.setCell ⟨b,0,N⟩ v0).setCell ⟨b,1,N⟩ v1).setCell ⟨b,2,N⟩ v2):=((K.setX hB hn).setX hB hn).setX hB hn
theorem KQ.set6{mb:X}{r r':Rv}(K:KQ B h mb C av kv r r' w w1)(hB:B<=b)(hn:w.heap.size<=b)(v0 v1 v2 v3 v4 v5:Z):KQ B h mb C av kv r r' w ((((((w1.setCell ⟨b,0,N⟩ v0).setCell ⟨b,1,N⟩ v1).setCell ⟨b,2,N⟩ v2).setCell ⟨b,3,N⟩ v3).setCell ⟨b,4,N⟩ v4).setCell ⟨b,5,N⟩ v5):=(((((K.setX hB hn).setX hB hn).setX hB hn).setX hB hn).setX hB hn).setX hB hn
theorem Ww(W0:E)(h mb:X)(C:Gg)(sa ta:Option Addr)(c1 c2:X)(ss:L S2)(ts:L T2)(ms:Mm)(st:L By)(av kv:Z)(vs:By->Z)(s:Sb)(r:Rv)(nm:By)(w:E)(hE:Hn W0 sa ta ss ts)(q:Iw W0.heap.size h mb C (J sa ss.length c1) (J ta ts.length c2) ss ts w ms st av kv vs s r)(hW:Bw W0 w)(hU:Gb W0 h mb C (J sa ss.length c1) (J ta ts.length c2) ss ts st)(hP:Fd ss ts C.n ms s st r.sn 0)(cm:Ar nm):Calls prog 165 #[D (p_ h),S nm,F true] w λe w'=>Nl W0.heap.size h mb C (J sa ss.length c1) (J ta ts.length c2) ss ts ms s st av kv vs r nm (λd _=>lookV ss ts nm d) w e w':=by
 obtain⟨W,eW⟩:=Aj (w.alloc (O #[F false,I 0,ze] 196));have bn:Bw w W:=qba;have hB:=hW.size
 have HR:Hd (W.heap[w.heap.size]?=M (O #[F false,I 0,ze] 196 (0,0))):=by
  exact qbk
 obtain⟨x0,x1,_⟩:=(q.mkr.bl bn).cells;have A6:=Zy sa ta c1 c2 ss ts nm W0 W hE (hW.trans (bn.mono hW.size));have HB:Hd (Bw w W):=bn;have HU:Hd (∀V,Bw w V->Calls prog 149 #[D (p_ h),S nm] V λe w'=>Nl W0.heap.size h mb C (J sa ss.length c1) (J ta ts.length c2) ss ts ms s st av kv vs r nm (λd vs'=>Fh d (vs' nm)) V e w'):=λV hV=>hU V ms nm av kv vs s r (q.bl hV) hP cm (hW.trans (hV.mono hB));have HS:Hd (Iw W0.heap.size h mb C (J sa ss.length c1) (J ta ts.length c2) ss ts w ms st av kv vs s r):=q;unfold Nl lookV;obtain⟨tb,etb⟩:=Aj (Cf ss ts nm);rw[etb]at A6 ⊢;have HT:Hd (Calls prog 178 #[G #[J sa ss.length c1,J ta ts.length c2],S nm] W λe w'=>Bw W w'/\e=H (F tb)):=A6;clear etb A6 q hW hE bn hU hP cm;go_enter func165,ntmps165;go_wp2_with fail;refine HT.o.mono ?_;rintro e w3 ⟨ba,rfl⟩;have gz:Hd (w3.heap[w.heap.size]?=M (O #[F false,I 0,ze] 196 (0,0))):=Ad ba HR.o;have d7:Hd (Bw w w3):=Ba HB.o ba;have hlt3:w.heap.size<w3.heap.size:=Ag gz.o;clear ba HR HT x0 x1;go_wp2_with fail;refine(HU.o w3 d7.o).mono ?_;rintro e w4 ⟨ms',s',an,bi,⟨d,av',kv',vs',r',rfl,rfl,B8,re,ha4,V9,kw⟩|⟨b,v,r',rfl,rfl,hf,re⟩⟩
 ·have q3:=HS.o.bl d7.o
  have li:w4.heap[w.heap.size]?=M (O #[F false,I 0,ze] 196 (0,0)):=re.blk q3 gz.o qd;have Eq:Hd (KQ W0.heap.size h mb C av kv r r' w w4):=(KQ.of_below HS.o d7.o hB).trans (An.refl _ _) (An.refl _ _) q3 re;have hws:w.heap.size<=w3.heap.size:=d7.o.size;have HRW:Hd (An w av av'/\An w kv kv'/\r'.sn+400200*Db ts ms st<=r.sn+400200*Db ts ms' st):=⟨λb q=>(ha4 b q).imp id (λq=>qb),λb q=>(V9 b q).imp id (λq=>qb),kw⟩;have yx:Hd (Bc ss ts C.n ms s st (.make nm) ms' s' (.ok d)):=bi;obtain⟨dc,dt,dls⟩:=d;obtain⟨fo,efo⟩:=Aj (Bi dc dt);have EF:Hd (Bi dc dt=fo):=efo;unfold Fh;simp only[efo];obtain⟨la,ln,lc,hlv⟩:=B8.mkr.vsl nm;rw[hlv];obtain⟨V,eV⟩:=Aj (w4.alloc (O #[F true,I dc,S dt,nS,S fo,J la ln lc] 213));obtain⟨U,eU⟩:=Aj V.drew;(have bm:Bw w4 U:=by rw[<- eU,<- eV];exact(Ai _ _).drew);have dp:Hd (Iw W0.heap.size h mb C (J sa ss.length c1) (J ta ts.length c2) ss ts U ms' st av' kv' vs' s' r'):=B8.bl bm;have jo:Hd (KQ W0.heap.size h mb C av kv r r' w U):=Eq.o.after HRW.o.1 HRW.o.2.1 B8 bm (zo Eq.o.bel.size)
  have HMU:Hd (U.heap[w4.heap.size]?=M (O #[F true,I dc,S dt,nS,S fo,J la ln lc] 213 (0,0))):=by
   show _=_;rw[<- eU,<- eV];exact Bf _ _
  have ki:Hd (U.heap[w.heap.size]?=M (O #[F false,I 0,ze] 196 (0,0))):=Ad bm li;obtain⟨⟨m0,m1,m2,m3,m4,m5⟩,mf⟩:=Rm HMU.o;obtain⟨z0,z1,z2,zf⟩:=Dw ki.o;have hne4:¬ w4.heap.size=w.heap.size:=zo (Ag li);have hne5:¬ w.heap.size=w4.heap.size:=qb;clear bm B8 re li ha4 V9 bi efo hlv Eq kw q3
  go_upto_region 5 with fail
  clear eV;go_region;clear eU;go_wp2_with fail;obtain⟨y0,y1,y2,_⟩:=Dw (Bn ki.o (F tb) (I dc) (S dt));refine bR (v:=Y #[G #[F tb,I dc,S dt],S (Bi dc dt)]) (by simp[results,results165,go_sem,y0,y1,y2,EF.o]) rfl ⟨ms',s',_,yx.o,Or.inl ⟨_,av',kv',vs',r',rfl,rfl,dp.o.set3 ki.o qd _ _ _,jo.o.set3 qb (Nat.le_refl _) _ _ _,HRW.o.1,HRW.o.2.1,HRW.o.2.2⟩⟩
 ·unfold Lb
  dsimp only;have q3:=HS.o.bl d7.o;have Eq:Hd (KQ W0.heap.size h mb C av kv r r' w w4):=(KQ.of_below HS.o d7.o hB).trans (An.refl _ _) (An.refl _ _) q3 re;have uf:Hd (Bc ss ts C.n ms s st (.make nm) ms' s' (.bad b)/\Cz W0.heap.size C w4 b v):=⟨bi,hf⟩;clear re bi hf q3;go_wp2_with fail;exact⟨rfl,ms',s',_,uf.o.1,Or.inr ⟨b,v,r',rfl,rfl,uf.o.2,Eq.o⟩⟩
def TyB(T:TypeId):Prop:=T=211\/T=168\/T=171\/T=94\/T=4\/T=143\/T=145
section
variable {B h mb k:X} {C:Gg} {sv tv:Z} {ss:L S2} {ts:L T2} {w w':E} {ms:Mm} {mk st:L By} {al:X} {av kv:Z} {vs:By->Z} {s:Sb} {r:Rv}
theorem BS.kept(q:BS B h mb k C sv tv ss ts w ms mk st al av kv vs s r)(hc:∀(b:X)(cs:Array Z)(T:TypeId),TyB T->w.heap[b]?=M (O cs T (0,0))->w'.heap[b]?=M (O cs T (0,0)))(hm:w'.heap[mb]?=w.heap[mb]?)(hs:w'.heap[C.sb]?=w.heap[C.sb]?)(h9:∀(b:X)(cs:Array Z),(av.ownBlock=M b\/kv.ownBlock=M b\/Ks C r b)->w.heap[b]?=M (O cs 9 (0,0))->w'.heap[b]?=M (O cs 9 (0,0))):BS B h mb k C sv tv ss ts w' ms mk st al av kv vs s r:=by
 obtain⟨xs,e,ha⟩:=q.mkr.ask;refine⟨q.mkr.kept ?_,q.rs.kept ?_ (λb cs T hT hb=>hc b cs T (by rcases hT with e|e<;>simp[TyB,e]) hb)⟩
 ·rintro b (rfl|rfl|o|o)
  ·rw[q.mkr.blk];exact hc _ _ 211 (by simp[TyB]) q.mkr.blk
  ·exact hm
  ·obtain⟨cs,c1⟩:=Az ha b o;rw[c1];exact h9 b cs (Or.inl o) c1
  ·obtain⟨cs,c1⟩:=Az q.mkr.stk b o;rw[c1];exact h9 b cs (Or.inr (Or.inl o)) c1
 ·intro b o
  have o0:=o
  rcases o with rfl|rfl|rfl|⟨u,hu,o⟩
  ·rw[q.rs.bd];exact hc _ _ 168 (by simp[TyB]) q.rs.bd
  ·rw[q.rs.sh];exact hc _ _ 171 (by simp[TyB]) q.rs.sh
  ·exact hs
  ·obtain⟨_,cs,T,c1,c2⟩:=q.rs.rowT hu o
   rw[c1]
   rcases c2 with rfl|rfl|rfl
   ·exact h9 b cs (Or.inr (Or.inr o0)) c1
   ·exact hc b cs 94 (by simp[TyB]) c1
   ·exact hc b cs 4 (by simp[TyB]) c1
end
def Yn(r:Rv)(b:X):Prop:=∃u∈Mw r,u.ownBlock=M b
theorem Kx.row9{mb:X}{r:Rv}(k:Kx B h mb C ss ts w ms s av kv r){cs:Array Z}(hb:w.heap[b]?=M (O cs 9 (0,0)))(o:Ks C r b):Yn r b:=by
 obtain⟨f,f1,_⟩:=k.sn
 rcases o with rfl|rfl|rfl|o
 ·exact qlx
 ·exact qlw
 ·exact absurd hb (λq=>f1.notCells q)
 ·exact o
structure RB (W0:E) (h mb:X) (C:Gg) (sv tv cd:Z) (ss:L S2) (ts:L T2) (is:L I3) (w:E) (ms:Mm) (s:Sb) (st:L By) (av kv:Z) (r:Rv) (Bm m T AM R:X)
 (ys:L R3) (ls:L G3) (m1:Mm) (s1:Sb) (av1 kv1:Z) (vs1:By->Z) (r1:Rv) (lv:Z) (ov:Bool) (c:Int) (t:By) (ask:Bool) (nm:By) (stp:Int) (wr:E):Prop where
 ma:Iw W0.heap.size h mb C sv tv ss ts wr m1 st av1 kv1 vs1 s1 r1
 pre:Fd ss ts C.n m1 s1 st r1.sn (200-ys.length)
 ln:ys.length<=200
 ro:Gf is ys ls
 lok:Mk ls
 dd:∀ms' s' a,Bc ss ts C.n m1 s1 st (.run is ys ls) ms' s' a->Bc ss ts C.n ms s st (.run is [] []) ms' s' a
 sn:r1.sn+400200*Db ts ms st<=r.sn+400200*Db ts m1 st
 gn:Gn is ys Bm m T cd ov c t ask nm stp wr
 tb:wr.heap[AM]?=M (O #[F ov,I c,S t,F ask,S nm,I stp] 192 (0,0))
 rb:wr.heap[R]?=M (O #[I 0,ze,nS] 120 (0,0))
 lo:wr.ownsRow w.heap.size 199 3 lv ls.length (Oo ls)
 kp:KQ W0.heap.size h mb C av kv r r1 w wr
 ra:An w av av1
 rk:An w kv kv1
 no:ov=false->∀b,(av1.ownBlock=M b\/kv1.ownBlock=M b\/Yn r1 b)->Fe wr m b
structure RCB (W0:E) (h mb:X) (C:Gg) (w:E) (Bm m T AM R:X):Prop where
 h1:W0.heap.size<=w.heap.size
 h2:h<w.heap.size
 h3:mb<w.heap.size
 h9:C.sb<w.heap.size
 h4:w.heap.size<=Bm
 h5:AM≠T
 h6:w.heap.size<=AM
 h7:w.heap.size<=R
 h8:AM≠m
section
variable {W0:E} {h mb:X} {C:Gg} {sv tv cd:Z} {ss:L S2} {ts:L T2} {is:L I3} {w:E} {ms:Mm} {s:Sb} {st:L By} {av kv:Z} {r:Rv} {Bm m T AM R:X}
 {ys:L R3} {ls:L G3} {m1:Mm} {s1:Sb} {av1 kv1:Z} {vs1:By->Z} {r1:Rv} {lv:Z} {ov:Bool} {c:Int} {t:By} {ask:Bool} {nm:By} {stp:Int} {wr:E}
theorem RB.bl{w':E}(q:RB W0 h mb C sv tv cd ss ts is w ms s st av kv r Bm m T AM R ys ls m1 s1 av1 kv1 vs1 r1 lv ov c t ask nm stp wr)(hb:Bw wr w')(hB:W0.heap.size<=wr.heap.size):RB W0 h mb C sv tv cd ss ts is w ms s st av kv r Bm m T AM R ys ls m1 s1 av1 kv1 vs1 r1 lv ov c t ask nm stp w':=
 ⟨q.ma.bl hb,q.pre,q.ln,q.ro,q.lok,q.dd,q.sn,q.gn.bl hb,Ad hb q.tb,Ad hb q.rb,Ab q.lo hb,q.kp.after q.ra q.rk q.ma hb hB,q.ra,q.rk,λe b o=>(q.no e b o).congr (hb.block m q.gn.2.2.2.1)⟩
theorem RB.looked{w':E}{av2 kv2:Z}{r2:Rv}(q:RB W0 h mb C sv tv cd ss ts is w ms s st av kv r Bm m T AM R ys ls m1 s1 av1 kv1 vs1 r1 lv false c t ask nm stp wr)(AJ:RCB W0 h mb C w Bm m T AM R)(hk:KQ W0.heap.size h mb C av1 kv1 r1 r2 wr w')(ha:An wr av1 av2)(jx:An wr kv1 kv2):Gn is ys Bm m T cd false c t ask nm stp w'/\w'.heap[AM]?=M (O #[F false,I c,S t,F ask,S nm,I stp] 192 (0,0))/\w'.heap[R]?=M (O #[I 0,ze,nS] 120 (0,0))/\w'.ownsRow w.heap.size 199 3 lv ls.length (Oo ls)/\KQ W0.heap.size h mb C av kv r r2 w w'/\An w av av2/\An w kv kv2/\(∀b,(av2.ownBlock=M b\/kv2.ownBlock=M b\/Yn r2 b)->Fe w' m b):=by
 have cz:=hk.bel.size;have hsw:=q.kp.bel.size;obtain⟨n,_,hm⟩:=q.ma.mkr.map;obtain⟨jj,v,mcs,hmb,C8,fg⟩:=q.gn.mach;have keep:∀(b:X)(cs:Array Z)(T':TypeId),TyO T'->wr.heap[b]?=M (Obj.cells cs T' (0,0))->w'.heap[b]?=wr.heap[b]?:=λb cs T' k1 hb=>by rw[hk.blk q.ma hb k1,hb]
 have V1:w'.heap[m]?=wr.heap[m]?:=keep m _ 263 qd hmb;have gg:=q.no rfl
 have M2:∀b,v.ownBlock=M b->w'.heap[b]?=wr.heap[b]?:=λb o=>by
  obtain⟨q1,q2,cur,q3⟩:=fg b o;have:=AJ.h2;have:=AJ.h4;exact hk.keep b q2 qb (λe=>hm.notCells (e▸q3)) (λe=>gg b (Or.inl e) v C8 o.symm) (λe=>gg b (Or.inr (Or.inl e)) v C8 o.symm) (λe=>gg b (Or.inr (Or.inr (q.ma.rs.row9 q3 e))) v C8 o.symm)
 have hc0':w'.cell? ⟨m,0,N⟩=M v:=by rw[Dd V1];exact C8
 refine⟨q.gn.kept (keep T _ 192 qd q.gn.1) V1 cz (λv' b e o=>?_),by rw[keep AM _ 192 qd q.tb];exact q.tb,by rw[keep R _ 120 qd q.rb];exact q.rb,Al q.lo (λb o=>?_),q.kp.trans q.ra q.rk q.ma hk,q.ra.trans hsw ha,q.rk.trans hsw jx,λb o v' e e2=>?_⟩
 ·rw[C8]at e;cases e;exact M2 b o
 ·obtain⟨_,cur,hh⟩:=Dr q.lo o
  exact keep b _ 199 qd hh
 ·rw[hc0']at e;cases e
  have q3:=fg b e2.symm
  rcases o with o|o|o
  ·rcases ha b o with q1|q1
   ·exact gg b (Or.inl q1) v C8 e2
   ·omega
  ·rcases jx b o with q1|q1
   ·exact gg b (Or.inr (Or.inl q1)) v C8 e2
   ·omega
  ·obtain⟨_,_,cur,q4⟩:=q3
   rcases hk.new b (Or.inr (Or.inr (Or.inr o)))with q1|q1
   ·exact gg b (Or.inr (Or.inr (q.ma.rs.row9 q4 q1))) v C8 e2
   ·have:=Ag q4;omega
theorem RB.appd{w2:E}{o:Obj}{g cp:X}(AJ:RCB W0 h mb C w Bm m T AM R)(q:Iw W0.heap.size h mb C sv tv ss ts wr m1 st av1 kv1 vs1 s1 r1)(gn:Gn is ys Bm m T cd ov c t ask nm stp wr)(lo:wr.ownsRow w.heap.size 199 3 lv ls.length (Oo ls))(kp:KQ W0.heap.size h mb C av kv r r1 w wr)(hg:(wr.alloc o).grownBy w2 lv.ownBlock)(hl:lv.ownBlock=M g\/g=wr.heap.size+1):Iw W0.heap.size h mb C sv tv ss ts w2 m1 st av1 kv1 vs1 s1 r1/\Gn is ys Bm m T cd ov c t ask nm stp w2/\KQ W0.heap.size h mb C av kv r r1 w w2/\(∀(b:X)(cs:Array Z)(T':X),T'≠199->wr.heap[b]?=M (Obj.cells cs T' (0,0))->w2.heap[b]?=wr.heap[b]?):=by
 have o8:∀b,b<wr.heap.size->lv.ownBlock≠M b->w2.heap[b]?=wr.heap[b]?:=λb h1 h2=>by rw[hg.block b qh (λe=>h2 e.symm),Lib.alloc_old _ _ _ h1]
 have hsw:=kp.bel.size;have cz:wr.heap.size<=w2.heap.size:=by have:=hg.size;simp at this;omega
 have keep:∀(b:X)(cs:Array Z)(T':X),T'≠199->wr.heap[b]?=M (Obj.cells cs T' (0,0))->w2.heap[b]?=wr.heap[b]?:=λb cs T' k1 hb=>o8 b (Ag hb) (Ae lo k1 hb);obtain⟨n,_,hm⟩:=q.mkr.map;obtain⟨f,f1,_⟩:=q.rs.sn;refine⟨q.kept (λb cs T' hT hb=>?_) (o8 _ hm.lt (Jq lo hm)) (o8 _ f1.lt (λe=>?_)) (λb cs _ hb=>?_),?_,⟨?_,?_,kp.new,?_,kp.len⟩,keep⟩
 ·rw[keep b cs T' (by rcases hT with e|e|e|e|e|e|e<;>rw[e]<;>decide) hb];exact hb
 ·obtain⟨_,cur,hh⟩:=Dr lo e
  exact f1.notCells hh
 ·rw[keep b cs 9 qd hb];exact hb
 ·refine⟨by rw[keep T _ 192 qd gn.1];exact gn.1,gn.2.1,gn.2.2.1,Nat.lt_of_lt_of_le gn.2.2.2.1 cz,gn.2.2.2.2.mono λI2 pl' nh lk' hk=>hk.kept ?_ ?_⟩
  ·obtain⟨_,v,k1,_⟩:=hk
   unfold Fm at k1;exact keep m _ 263 qd k1
  ·intro v' b e q
   obtain⟨_,v,k1,k2⟩:=hk;unfold Fm at k1;rw[cH k1]at e;(have e':v'=v:=by simpa using e.symm);subst e';obtain⟨_,cur,hh⟩:=Dr k2 q;exact keep b _ 9 qd hh
 ·have h1:=AJ.h1
  refine kp.bel.trans (((Below.refl _ wr).alloc qb o).grown hg qh (λb q=>?_));have:=(lo.lt b q).1;omega
 ·intro b h1 h2 h3 h4 h5 h6
  rw[o8 b qb (λe=>by have:=(lo.lt b e).1;omega)];exact kp.keep b h1 h2 h3 h4 h5 h6
 ·intro g l cp cs e hb
  obtain⟨A4,b1,c1⟩:=kp.old g l cp cs e hb;exact⟨A4,by rw[keep g A4 94 qd b1];exact b1,c1⟩
theorem RB.went{w6:E}{n:X}{xs:L Z}{v0 v1 v2 v3 v4 v5:Z}(AJ:RCB W0 h mb C w Bm m T AM R)(q:Iw W0.heap.size h mb C sv tv ss ts wr m1 st av1 kv1 vs1 s1 r1)(jj:Bm<=m)(hBT:Bm<=T)(lo:wr.ownsRow w.heap.size 199 3 lv n xs)(tb:wr.heap[AM]?=M (O #[v0,v1,v2,v3,v4,v5] 192 (0,0)))(rb:wr.heap[R]?=M (O #[I 0,ze,nS] 120 (0,0)))(kp:KQ W0.heap.size h mb C av kv r r1 w wr)(no:∀b,(av1.ownBlock=M b\/kv1.ownBlock=M b\/Yn r1 b)->Fe wr m b)(hTt:∃cs,wr.heap[T]?=M (O cs 192 (0,0)))(V0:∃cs,wr.heap[m]?=M (O cs 263 (0,0)))(hb:Below Bm wr w6)(hk:∀(b:X)(cs:Array Z)(X':X),X'≠9->b≠m->b≠T->wr.heap[b]?=M (Obj.cells cs X' (0,0))->w6.heap[b]?=M (O cs X' (0,0)))(ho:∀(b:X)(cs:Array Z)(X':X),b≠m->b≠T->Fe wr m b->wr.heap[b]?=M (Obj.cells cs X' (0,0))->w6.heap[b]?=M (O cs X' (0,0))/\Fe w6 m b):Iw W0.heap.size h mb C sv tv ss ts w6 m1 st av1 kv1 vs1 s1 r1/\w6.ownsRow w.heap.size 199 3 lv n xs/\w6.heap[AM]?=M (O #[v0,v1,v2,v3,v4,v5] 192 (0,0))/\w6.heap[R]?=M (O #[I 0,ze,nS] 120 (0,0))/\KQ W0.heap.size h mb C av kv r r1 w w6/\(∀b,(av1.ownBlock=M b\/kv1.ownBlock=M b\/Yn r1 b)->Fe w6 m b):=by
 obtain⟨tcs,hTt⟩:=hTt;obtain⟨mcs,V0⟩:=V0;have c1:=AJ.h1;have c2:=AJ.h2;have c3:=AJ.h3;have c4:=AJ.h4;have c9:=AJ.h9
 have ty:∀(b:X)(cs cs':Array Z)(A A':X),A≠A'->wr.heap[b]?=M (Obj.cells cs A (0,0))->wr.heap[b]?≠M (Obj.cells cs' A' (0,0)):=λb cs cs' A A' hne q1 q2=>by
  rw[q1]at q2;injection q2 with q2;injection q2 with _ q2;exact hne q2
 have kT:∀(b:X)(cur:Array Z)(A:TypeId),A≠9->A≠263->A≠192->wr.heap[b]?=M (Obj.cells cur A (0,0))->w6.heap[b]?=M (O cur A (0,0)):=λb cur A n1 n2 n3 hh=>
  hk b cur A n1 (λe=>ty b _ _ A 263 n2 hh (e▸V0)) (λe=>ty b _ _ A 192 n3 hh (e▸hTt)) hh
 have k9:∀(b:X)(cs:Array Z),(av1.ownBlock=M b\/kv1.ownBlock=M b\/Ks C r1 b)->wr.heap[b]?=M (O cs 9 (0,0))->w6.heap[b]?=M (O cs 9 (0,0)):=λb cs o hh=>
  (ho b cs 9 (λe=>ty b _ _ 9 263 qd hh (e▸V0)) (λe=>ty b _ _ 9 192 qd hh (e▸hTt)) (no b (o.imp id (λo=>o.imp id (λo=>q.rs.row9 hh o)))) hh).1
 refine⟨q.kept (λb cs T' hT hh=>kT b cs T' (by rcases hT with e|e|e|e|e|e|e<;>rw[e]<;>decide) (by rcases hT with e|e|e|e|e|e|e<;>rw[e]<;>decide) (by rcases hT with e|e|e|e|e|e|e<;>rw[e]<;>decide) hh) (hb.block _ qb) (hb.block _ qb) k9,Al lo (λb o=>?_),hk AM _ 192 qd AJ.h8 AJ.h5 tb,kT R _ 120 qd qd qd rb,⟨kp.bel.trans (hb.mono qb),λb q1 q2 q3 q4 q5 q6=>?_,kp.new,λg l cp cs e hg=>?_,kp.len⟩,λb o=>?_⟩
 ·obtain⟨_,cur,hh⟩:=Dr lo o
  rw[kT b cur 199 qd qd qd hh,hh]
 ·rw[hb.block b qb]
  exact kp.keep b q1 q2 q3 q4 q5 q6
 ·obtain⟨A4,b1,d1⟩:=kp.old g l cp cs e hg
  exact⟨A4,kT g A4 94 qd qd qd b1,d1⟩
 ·have bi:∃cs T',wr.heap[b]?=M (Obj.cells cs T' (0,0)):=by
   obtain⟨ys,ey,ha⟩:=q.mkr.ask
   rcases o with o|o|⟨u,hu,o⟩
   ·obtain⟨cs,c1⟩:=Az ha b o;exact⟨cs,_,c1⟩
   ·obtain⟨cs,c1⟩:=Az q.mkr.stk b o;exact⟨cs,_,c1⟩
   ·obtain⟨_,cs,T',c1,_⟩:=q.rs.rowT hu o;exact⟨cs,T',c1⟩
  obtain⟨cs,T',bi⟩:=bi
  have hne:∀(A:TypeId)(cs':Array Z),TyO A->wr.heap[b]?≠M (Obj.cells cs' A (0,0)):=λA cs' hA hh=>by
   have q9:=q.noneA hh hA
   rcases o with o|o|o
   ·exact q9.2.2.1 o
   ·exact q9.2.2.2.1 o
   ·exact q9.2.2.2.2 (Or.inr (Or.inr (Or.inr o)))
  exact(ho b cs T' (λe=>hne 263 _ qd (e▸V0)) (λe=>hne 192 _ qd (e▸hTt)) (no b o) bi).2
theorem RB.turned{u0 u1 u2 u3 u4 u5:Z}(AJ:RCB W0 h mb C w Bm m T AM R)(q:Iw W0.heap.size h mb C sv tv ss ts wr m1 st av1 kv1 vs1 s1 r1)(hp:Fd ss ts C.n m1 s1 st r1.sn (200-ys.length))(wo:ys.length<=200)(hr:Gf is ys ls)(sq:Mk ls)(hd:∀ms' s' a,Bc ss ts C.n m1 s1 st (.run is ys ls) ms' s' a->Bc ss ts C.n ms s st (.run is [] []) ms' s' a)(kw:r1.sn+400200*Db ts ms st<=r.sn+400200*Db ts m1 st)(gn:Gn is ys Bm m T cd ov c t ask nm stp wr)(tb:wr.heap[AM]?=M (O #[u0,u1,u2,u3,u4,u5] 192 (0,0)))(rb:wr.heap[R]?=M (O #[I 0,ze,nS] 120 (0,0)))(lo:wr.ownsRow w.heap.size 199 3 lv ls.length (Oo ls))(kp:KQ W0.heap.size h mb C av kv r r1 w wr)(ra:An w av av1)(rk:An w kv kv1)(no:∀b,(av1.ownBlock=M b\/kv1.ownBlock=M b\/Yn r1 b)->Fe wr m b):RB W0 h mb C sv tv cd ss ts is w ms s st av kv r Bm m T AM R ys ls m1 s1 av1 kv1 vs1 r1 lv ov c t ask nm stp ((((((wr.setCell ⟨AM,0,N⟩ (F ov)).setCell ⟨AM,1,N⟩ (I c)).setCell ⟨AM,2,N⟩ (S t)).setCell ⟨AM,3,N⟩ (F ask)).setCell ⟨AM,4,N⟩ (S nm)).setCell ⟨AM,5,N⟩ (I stp)):=by
 have c2:=AJ.h2;have c6:=AJ.h6;have c1:=AJ.h1;have ne:∀b',b'≠AM->((((((wr.setCell ⟨AM,0,N⟩ (F ov)).setCell ⟨AM,1,N⟩ (I c)).setCell ⟨AM,2,N⟩ (S t)).setCell ⟨AM,3,N⟩ (F ask)).setCell ⟨AM,4,N⟩ (S nm)).setCell ⟨AM,5,N⟩ (I stp)).heap[b']?=wr.heap[b']?:=λb' q=>Er q _ _ _ _ _ _;refine⟨q.set6 tb qd _ _ _ _ _ _,hp,wo,hr,sq,hd,kw,?_,Ii tb _ _ _ _ _ _,?_,Al lo (λb q=>ne b (λe=>Ae lo qd tb (e▸q))),kp.set6 qb c6 _ _ _ _ _ _,ra,rk,λ_ b q=>(no b q).congr (ne m (λe=>AJ.h8 e.symm))⟩
 ·refine⟨by rw[ne T (λe=>AJ.h5 e.symm)];exact gn.1,gn.2.1,gn.2.2.1,Nat.lt_of_lt_of_le gn.2.2.2.1 (Gk (Below.refl 0 wr) (Nat.zero_le _) _ _ _ _ _ _).size,gn.2.2.2.2.mono λI2 pl' nh lk' hk=>hk.kept (ne m (λe=>AJ.h8 e.symm)) ?_⟩
  intro v' b e q;obtain⟨_,v,k1,k2⟩:=hk;unfold Fm at k1;rw[cH k1]at e;(have e':v'=v:=by simpa using e.symm);subst e';exact ne b (λe=>Ae k2 qd tb (e▸q))
 ·rw[ne R (λe=>by subst e;rw[tb]at rb;injection rb with rb;injection rb with _ rb;exact absurd rb qd)];exact rb
end
structure NB (W0:E) (h mb:X) (C:Gg) (sv tv cd:Z) (ss:L S2) (ts:L T2) (is:L I3) (w:E) (ms:Mm) (s:Sb) (st:L By) (av kv:Z) (r:Rv) (Bm m T AM R:X)
 (ys:L R3) (ls:L G3) (m1:Mm) (s1:Sb) (av1 kv1:Z) (vs1:By->Z) (r1:Rv) (lv:Z) (c:Int) (t:By) (ask:Bool) (nm:By) (stp:Int) (y y':R3) (f:By) (wr:E):Prop where
 ma:Iw W0.heap.size h mb C sv tv ss ts wr m1 st av1 kv1 vs1 s1 r1
 pre:Fd ss ts C.n m1 s1 st r1.sn (200-(ys++[y']).length)
 ln:(ys++[y']).length<=200
 ro:Gf is (ys++[y']) (ls++[⟨nm,ask,f⟩])
 lok:Mk (ls++[⟨nm,ask,f⟩])
 dd:∀ms' s' a,Bc ss ts C.n m1 s1 st (.run is (ys++[y']) (ls++[⟨nm,ask,f⟩])) ms' s' a->Bc ss ts C.n ms s st (.run is [] []) ms' s' a
 sn:r1.sn+400200*Db ts ms st<=r.sn+400200*Db ts m1 st
 gn:Gn is ys Bm m T cd false c t ask nm stp wr
 tb:wr.heap[AM]?=M (O #[F false,I c,S t,F ask,S nm,I stp] 192 (0,0))
 rb:wr.heap[R]?=M (O #[I 0,ze,nS] 120 (0,0))
 lo:wr.ownsRow w.heap.size 199 3 lv ls.length (Oo ls)
 kp:KQ W0.heap.size h mb C av kv r r1 w wr
 ra:An w av av1
 rk:An w kv kv1
 no:∀b,(av1.ownBlock=M b\/kv1.ownBlock=M b\/Yn r1 b)->Fe wr m b
 yt:y.text.size<=2000
 yy:∀nm s,Et ask nm y s=Et ask nm y' s
theorem NB.bl{W0:E}{mb:X}{cd:Z}{is:L I3}{r:Rv}{Bm m T AM R:X}{ys:L R3}{ls:L G3}{m1:Mm}{s1:Sb}{av1 kv1:Z}{vs1:By->Z}{r1:Rv}{lv:Z}{c:Int}{t:By}{ask:Bool}{stp:Int}{y y':R3}{wr:E}(q:NB W0 h mb C sv tv cd ss ts is w ms s st av kv r Bm m T AM R ys ls m1 s1 av1 kv1 vs1 r1 lv c t ask nm stp y y' f wr)(hb:Bw wr w')(hB:W0.heap.size<=wr.heap.size):NB W0 h mb C sv tv cd ss ts is w ms s st av kv r Bm m T AM R ys ls m1 s1 av1 kv1 vs1 r1 lv c t ask nm stp y y' f w':=
 ⟨q.ma.bl hb,q.pre,q.ln,q.ro,q.lok,q.dd,q.sn,q.gn.bl hb,Ad hb q.tb,Ad hb q.rb,Ab q.lo hb,q.kp.after q.ra q.rk q.ma hb hB,q.ra,q.rk,λb o=>(q.no b o).congr (hb.block m q.gn.2.2.2.1),q.yt,q.yy⟩
theorem lookB_any(W0:E)(h mb:X)(C:Gg)(sa ta:Option Addr)(c1 c2:X)(cd:Z)(ss:L S2)(ts:L T2)(is:L I3)(w:E)(ms:Mm)(s:Sb)(st:L By)(av kv:Z)(r:Rv)(Bm m T AM R:X)(ys:L R3)(ls:L G3)(m1:Mm)(s1:Sb)(av1 kv1:Z)(vs1:By->Z)(r1:Rv)(lv:Z)(c:Int)(t:By)(ask:Bool)(nm:By)(stp:Int)(wr:E)(hE:Hn W0 sa ta ss ts)(hU:Gb W0 h mb C (J sa ss.length c1) (J ta ts.length c2) ss ts st)(hW:Bw W0 wr)(AJ:RCB W0 h mb C w Bm m T AM R)(q:RB W0 h mb C (J sa ss.length c1) (J ta ts.length c2) cd ss ts is w ms s st av kv r Bm m T AM R ys ls m1 s1 av1 kv1 vs1 r1 lv false c t ask nm stp wr):Calls prog 165 #[D (p_ h),S nm,F ask] wr λe w'=>(∃m2 s2 av2 kv2 vs2 r2 y y' f,e=H (Y #[G #[F y.has,I y.code,S y.text],S f])/\NB W0 h mb C (J sa ss.length c1) (J ta ts.length c2) cd ss ts is w ms s st av kv r Bm m T AM R ys ls m2 s2 av2 kv2 vs2 r2 lv c t ask nm stp y y' f w')\/(∃b v r' ms' s',e=Lb v/\KQ W0.heap.size h mb C av kv r r' w w'/\Bc ss ts C.n ms s st (.run is [] []) ms' s' (.bad b)/\Cz W0.heap.size C w' b v):=by
 obtain⟨n,iq⟩:∃n,Ce is ys Lz (.wait ask nm n):=by
  rcases q.gn.2.2.2.2.full with⟨o,_⟩|⟨_,n,o⟩
  ·cases o
  ·exact⟨n,o⟩
 obtain⟨aj,cm⟩:=q.ro.wait iq;have hB:=hW.size
 cases ask with
 | false=>
   refine(Wv W0 h mb 0 C sa ta c1 c2 ss ts m1 st st (m1.length+st.length) av1 kv1 vs1 s1 r1 nm wr hE q.ma hW).mono ?_;rintro e w' ⟨rfl,hb⟩;have q':=q.bl hb hB;exact Or.inl ⟨m1,s1,av1,kv1,vs1,r1,⟨Cf ss ts nm,0,⟨#[]⟩⟩,⟨Cf ss ts nm,0,⟨#[]⟩⟩,Cl (Cf ss ts nm),rfl,q'.ma,q.pre.le qh,qh,q.ro.has _ _,q.lok.snoc cm (Hz _),λms' s' a k=>q.dd _ _ _ (.has iq k),q.sn,q'.gn,q'.tb,q'.rb,q'.lo,q'.kp,q'.ra,q'.rk,q'.no rfl,(by decide:(⟨#[]⟩:By).size<=2000),λ_ _=>rfl⟩
 | true=>
   refine(Ww W0 h mb C sa ta c1 c2 ss ts m1 st av1 kv1 vs1 s1 r1 nm wr hE q.ma hW hU (q.pre.le qb) cm).mono ?_;rintro e w' ⟨ms',s',an,bi,⟨d,av',kv',vs',r',rfl,rfl,hs,hk,ha,jx,kw⟩|⟨b,v,r',rfl,rfl,hf,hk⟩⟩
   ·obtain⟨g1,g2,g3,g4,g5,g6,g7,g8⟩:=q.looked AJ hk ha jx
    obtain⟨hi2,_,_,M9⟩:=bi.inv hE.v q.pre.inv q.pre.ok cm (λb e=>qu);have J1:=hi2.done nm d M9;have hps:=q.pre.step hE.v bi cm (λb e=>qu) rfl (d:=1) (by simp[Ot]) qb (by omega:r'.sn+400200*Db ts m1 st<=r1.sn+1+400200*Db ts ms' st);refine Or.inl ⟨ms',s',av',kv',vs',r',⟨Cf ss ts nm,d.c,d.t⟩,Vn ss ts nm d,Bi d.c d.t,rfl,hs,hps.le qh,qh,q.ro.asked J1 _,q.lok.snoc cm (Dp J1.t2),λms'' s'' a k=>q.dd _ _ _ (.asked iq bi k),by have:=q.sn;omega,g1,g2,g3,g4,g5,g6,g7,g8,J1.t2,?_⟩;intro nm' s;unfold Vn Et
    cases Cf ss ts nm<;>simp
   ·exact Or.inr ⟨b,v,r',ms',s',rfl,q.kp.trans q.ra q.rk q.ma hk,q.dd _ _ _ (.askbad iq bi),hf⟩
def Um(ss:L S2)(ts:L T2)(n:X)(st:L By)(ms:Mm)(s:Sb)(x:By)(y:Bool)(ms':Mm)(s':Sb)(f:By):Prop:=
 (y=false/\ms'=ms/\s'=s/\f=Cl (Cf ss ts x))\/(y=true/\∃d,Bc ss ts n ms s st (.make x) ms' s' (.ok d)/\f=Bi d.c d.t)
theorem Um.said(hv:SpV ss ts)(h:Um ss ts n st ms s x y ms' s' f)(hi:Fv ss ts ms st)(hs:Jz n s)(hn:Ar x):Jc ss ts ms' x y=M f/\Ext ms ms'/\f.size<=2002:=by
 rcases h with⟨rfl,rfl,rfl,rfl⟩|⟨rfl,d,hb,rfl⟩
 ·exact⟨rfl,Ext.refl _,Hz _⟩
 ·obtain⟨k1,k2,k3,k4⟩:=hb.inv hv hi hs hn (λb e=>qu)
  refine⟨?_,k3.ex,Dp (k1.done x d k4).t2⟩;unfold Jc;rw[if_pos rfl,show fd ms' x=M d from k4];rfl
theorem Um.of_said(h:Jc ss ts ms x y=M f):Um ss ts n st ms s x y ms s f:=by
 unfold Jc at h
 cases y with
 | false=>simp only[Bool.false_eq_true,if_false,Option.some.injEq]at h;exact Or.inl ⟨rfl,rfl,rfl,h.symm⟩
 | true=>
   simp only[if_true]at h
   cases hf:fd ms x with
   | none=>rw[hf]at h;cases h
   | some d=>
     rw[hf]at h;simp only[Option.map_some,Option.some.injEq]at h;exact Or.inr ⟨rfl,d,.known hf,h.symm⟩
theorem Um.pre{c:X}(hv:SpV ss ts)(h:Um ss ts n st ms s x y ms' s' f)(hp:Fd ss ts n ms s st sn c)(hn:Ar x)(hc:1<=c)(kw:sn'+400200*Db ts ms st<=sn+1+400200*Db ts ms' st):Fd ss ts n ms' s' st sn' (c-1):=by
 rcases h with⟨rfl,rfl,rfl,rfl⟩|⟨rfl,d,hb,rfl⟩
 ·have h1:=hp.ml
  have h2:=hp.sl;exact⟨hp.inv,hp.ok,qb,hp.cn,qb⟩
 ·exact hp.step hv hb hn (λb e=>qu) rfl (by simp[Ot]) hc kw
def SeeB(B h mb:X)(C:Gg)(sv tv:Z)(ss:L S2)(ts:L T2)(ms:Mm)(s:Sb)(st:L By)(av kv:Z)(r:Rv)(x:By)(y:Bool)(dn:X)(rt:By->Z->Prop)(w:E)(e:Ending)(w':E):Prop:=
 (∃v,e=H v/\∃ms' s' f av' kv' vs' r',rt f v/\Um ss ts C.n st ms s x y ms' s' f/\Iw B h mb C sv tv ss ts w' ms' st av' kv' vs' s' r'/\KQ B h mb C av kv r r' w w'/\An w av av'/\An w kv kv'/\r'.sn+400200*Db ts ms st<=r.sn+dn+400200*Db ts ms' st)\/
 (∃v,e=Lb v/\∃b r' ms' s',KQ B h mb C av kv r r' w w'/\(y=true/\Bc ss ts C.n ms s st (.make x) ms' s' (.bad b))/\Cz B C w' b v)
theorem lookB_see(W0:E)(h mb:X)(C:Gg)(sa ta:Option Addr)(c1 c2:X)(ss:L S2)(ts:L T2)(ms:Mm)(st:L By)(av kv:Z)(vs:By->Z)(s:Sb)(r:Rv)(x:By)(y:Bool)(w:E)(hE:Hn W0 sa ta ss ts)(q:Iw W0.heap.size h mb C (J sa ss.length c1) (J ta ts.length c2) ss ts w ms st av kv vs s r)(hW:Bw W0 w)(hU:Gb W0 h mb C (J sa ss.length c1) (J ta ts.length c2) ss ts st)(hP:Fd ss ts C.n ms s st r.sn 0)(cm:Ar x):Calls prog 165 #[D (p_ h),S x,F y] w λe w'=>SeeB W0.heap.size h mb C (J sa ss.length c1) (J ta ts.length c2) ss ts ms s st av kv r x y 0 (λf v=>∃b c t,v=Y #[G #[F b,I c,S t],S f]) w e w':=by
 cases y with
 | false=>
   refine(Wv W0 h mb 0 C sa ta c1 c2 ss ts ms st st (ms.length+st.length) av kv vs s r x w hE q hW).mono ?_;rintro e w' ⟨rfl,hb⟩;exact Or.inl ⟨_,rfl,ms,s,_,av,kv,vs,r,⟨_,_,_,rfl⟩,Or.inl ⟨rfl,rfl,rfl,rfl⟩,q.bl hb,KQ.of_below q hb hW.size,An.refl _ _,An.refl _ _,Nat.le_refl _⟩
 | true=>
   refine(Ww W0 h mb C sa ta c1 c2 ss ts ms st av kv vs s r x w hE q hW hU hP cm).mono ?_;rintro e w' ⟨ms',s',an,bi,⟨d,av',kv',vs',r',rfl,rfl,hs,hk,ha,jx,kw⟩|⟨b,v,r',rfl,rfl,hf,hk⟩⟩
   ·exact Or.inl ⟨_,rfl,ms',s',_,av',kv',vs',r',⟨_,_,_,rfl⟩,Or.inr ⟨rfl,d,bi,rfl⟩,hs,hk,ha,jx,kw⟩
   ·exact Or.inr ⟨v,rfl,b,r',ms',s',hk,⟨rfl,bi⟩,hf⟩
theorem Qad{f:X}{xi yi zi:X}{t1 t2 t3:TypeId}{W:E}{ops:Array Oper}{o:Oper}{a:Act}{K:Act->E->Prop}{Q:Exit->Act->E->Prop}{AF:Prop}(ri:o.guard=N)(ho:o.op=.call { callee:=.value (.func f),args:=#[.tmp xi,.tmp yi,.tmp zi],argTypes:=#[t1,t2,t3] })(v1 v2 v3:Z)(hx:a.eval (.tmp xi)=v1)(hy:a.eval (.tmp yi)=v2)(hz:a.eval (.tmp zi)=v3){P R:Z->E->Prop}(hc:Calls prog f #[v1,v2,v3] W λe w'=>(∃v,e=H v/\P v w')\/(∃v,e=Lb v/\R v w'))(hfn:∀W:E,(callFunc f #[v1,v2,v3]).run prog W=.ok (.enter f #[v1,v2,v3]) W)(h:∀v w',P v w'->K (a.put o.dst v) w')(hp:∀v w',R v w'->Q (.panic [{ v:=.iface 231 v,recovered:=false }]) a w'):if Region.wanted o (yielded ops a.tmps)=true then Oper.wp prog o a W K Q else AF:=by
 have hw:Region.wanted o (yielded ops a.tmps)=true:=qby
 have kj:(execOp a.eval o).run prog W=.ok (.enter f #[v1,v2,v3]) W:=by
  unfold execOp;rw[ho];simp[Act.eval]at hx hy hz;simp[go_sem,Act.eval,hx,hy,hz];exact hfn W
 rw[if_pos hw];unfold Oper.wp;rw[kj,Oper.upon_enter];refine hc.mono ?_;rintro e w' (⟨v,rfl,hq⟩|⟨v,rfl,hq⟩)
 ·exact h v w' hq
 ·exact hp v w' hq
section
variable {B h mb k:X} {C:Gg} {sv tv:Z} {ss:L S2} {ts:L T2} {w w':E} {ms:Mm} {mk st:L By} {al:X} {av kv:Z} {vs:By->Z} {s s':Sb} {r r':Rv}
theorem BS.upd(q:BS B h mb k C sv tv ss ts w ms mk st al av kv vs s r)(hb:Below B w w')(hk:∀b,b<w.heap.size->¬ Ks C r b->w'.heap[b]?=w.heap[b]?)(rs:Kx B h mb C ss ts w' ms s' av kv r')(hn:∀b,Ks C r' b->Ks C r b\/w.heap.size<=b)(ho:Ka r.qv w w')(hl:slen r.qv<=slen r'.qv):BS B h mb k C sv tv ss ts w' ms mk st al av kv vs s' r'/\KQ B h mb C av kv r r' w w':=
 ⟨⟨q.mkr.kr q.rs hk,rs⟩,⟨hb,λb hl _ _ _ _ h5=>hk b hl h5,hn,ho,hl⟩⟩
open Classical in
theorem BS.seen(q:BS B h mb k C sv tv ss ts w ms mk st al av kv vs s r)(hB:B<=w.heap.size){x f:By}{y:Bool}{g:By->Bool->Option ByteArray}(hg:Ow ss ts C.n ms g)(hs:Jc ss ts ms x y=M f)(hm:Kb w' C.sb (r.sn+1) (λx' y'=>if x'=x/\y'=y then M (Av C.n f) else g x' y'))(hw:w.grownBy w' (M C.sb)):BS B h mb k C sv tv ss ts w' ms mk st al av kv vs s ⟨r.tx,r.su,r.qv,r.nv,r.ev,r.uv,r.dv,r.sn+1⟩/\KQ B h mb C av kv r ⟨r.tx,r.su,r.qv,r.nv,r.ev,r.uv,r.dv,r.sn+1⟩ w w':=by
 obtain⟨f0,m0,m1⟩:=q.rs.sn
 have hsb:∀b cs T,w.heap[b]?=M (Obj.cells cs T (0,0))->w'.heap[b]?=M (Obj.cells cs T (0,0)):=λb cs T hb=>by
  rw[hw.block b (Ag hb) (λe=>by injection e with e;subst e;exact m0.notCells hb)];exact hb
 have kk:∀ {e sz n:X} {u:Z} {ys:L Z},w.ownsRow B e sz u n ys->w'.ownsRow B e sz u n ys:=λho=>Al ho λb o=>by
  obtain⟨cs,c1⟩:=Az ho b o;rw[c1];exact hsb b cs _ c1
 obtain⟨xs,u1⟩:=q.rs.us;obtain⟨ys,d1,d2⟩:=q.rs.df;refine q.upd ((Below.refl B w).grown hw hB (λb e=>by injection e with e;subst e;exact q.rs.lb.2.2.1)) (λb hb ho=>hw.block b hb (λe=>ho (Or.inr (Or.inr (Or.inl qas))))) ?_ (λb o=>Or.inl o) (Ka.same λb o=>?_) (Nat.le_refl _)
 ·refine⟨q.rs.lb,q.rs.wd,hsb _ _ _ q.rs.bd,hsb _ _ _ q.rs.sh,⟨_,hm,?_⟩,kk q.rs.tx,kk q.rs.su,q.rs.qs.kept (λb o=>?_) (λb cs T _ hb=>hsb b cs T hb),kk q.rs.ran,kk q.rs.held,⟨xs,kk u1⟩,⟨ys,kk d1,d2⟩,q.rs.ud,q.rs.ap⟩
  ·intro x' y' v e
   dsimp only at e
   by_cases hxy:x'=x/\y'=y
   ·rw[if_pos hxy]at e
    obtain⟨rfl,rfl⟩:=hxy;cases e;exact⟨f,hs,rfl⟩
   ·rw[if_neg hxy]at e
    exact hg x' y' v e
  ·exact qla
 ·exact qla
end
theorem Kv{T:X}{v1 v2:Z}(h:w.heap[b]?=M (O #[v1,v2] T (0,0))):w.cell? ⟨b,0,N⟩=M v1/\w.cell? ⟨b,1,N⟩=M v2/\∀j,w.frozen? ⟨b,j,N⟩=false:=by
 refine⟨?_,?_,λj=>fH h j⟩<;>rw[cH h]<;>rfl
theorem Kx.cellsB{mb:X}{r:Rv}(k:Kx B h mb C ss ts w ms s av kv r):w.cell? ⟨C.hb,0,N⟩=M (D (p_ C.hs))/\w.cell? ⟨C.hb,1,N⟩=M r.nv/\w.cell? ⟨C.hb,2,N⟩=M r.ev/\w.cell? ⟨C.hb,3,N⟩=M r.uv/\w.cell? ⟨C.hb,10,N⟩=M (D (p_ h))/\w.cell? ⟨C.hb,11,N⟩=M (.map (M C.sb))/\w.cell? ⟨C.hb,12,N⟩=M r.dv/\(∀j,w.frozen? ⟨C.hb,j,N⟩=false)/\w.cell? ⟨C.hs,0,N⟩=M (I C.n)/\w.cell? ⟨C.hs,1,N⟩=M r.tx/\w.cell? ⟨C.hs,2,N⟩=M r.qv/\w.cell? ⟨C.hs,3,N⟩=M r.su/\∀j,w.frozen? ⟨C.hs,j,N⟩=false:=by
 refine⟨?_,?_,?_,?_,?_,?_,?_,λj=>fH k.bd j,?_,?_,?_,?_,λj=>fH k.sh j⟩
 all_goals first|(rw[cH k.bd];rfl)|(rw[cH k.sh];rfl)
end Go.Proofs.YtbkkjodaaijimaaGreatDoor
