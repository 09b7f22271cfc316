import Derived.Test.YtoakjccojifagaaGreatDoorBdC
import Derived.Test.YtoakjccojifagaaGreatDoorBsQ
import Derived.Test.YtoakjccojifagaaGreatDoorBuA
namespace Go.Proofs.YtoakjccojifagaaGreatDoor
open _root_.Go.Proofs.Tryz Go.RowKit Go.Deep
open Value renaming slice->J,string->S,bool->F,agg->G,pointer->D,tuple->Y
open Option renaming some->M,none->N
open Obj renaming cells->O
open Go renaming Value->Z,World->E
open Ending renaming returned->H
open _root_ renaming List->L,Nat->X
set_option linter.unusedVariables false
set_option linter.unusedSimpArgs false
set_option maxHeartbeats 8000000
set_option maxRecDepth 100000
variable {ms ms':Mm} {ss:L S2} {ts:L T2} {f:By} {n k j B b sn h al:X} {l:L Z} {w w' w1:E} {v sv tv av kv u0 u1 u2:Z} {C:Ga} {s:Sb} {st:L By} {vs:By->Z} {T:TypeId}
noncomputable def Jm (ss:L S2) (ts:L T2) (ms:Mm) (x:By) (y:Bool):Option ByteArray:=if y then (fd ms x).map (λd=>Bj d.c d.t) else M (Cq (Ck ss ts x))
def Ext(ms ms':Mm):Prop:=∃r,ms'=ms++r
theorem Ext.refl(ms:Mm):Ext ms ms:=⟨[],qg⟩
theorem Ext.fd(h:Ext ms ms'){nm:By}{d:Md}(k:fd ms nm=M d):Go.Proofs.YtoakjccojifagaaGreatDoor.fd ms' nm=M d:=by
 obtain⟨r,rfl⟩:=h;unfold Go.Proofs.YtoakjccojifagaaGreatDoor.fd at *;rw[List.find?_append]
 cases hf:ms.find? (λe=>decide (e.1=nm)) with
 | some x=>rw[hf]at k;simpa using k
 | none=>rw[hf]at k;cases k
theorem Qv(h:Ext ms ms'){x:By}{y:Bool}(k:Jm ss ts ms x y=M f):Jm ss ts ms' x y=M f:=by
 unfold Jm at *
 cases y with
 | false=>exact k
 | true=>
   simp only[if_true]at *
   cases hf:fd ms x with
   | none=>rw[hf]at k;cases k
   | some d=>rw[hf]at k;rw[h.fd hf];exact k
def Pi(ss:L S2)(ts:L T2)(n:X)(ms:Mm)(f:By->Bool->Option ByteArray):Prop:=∀x y v,f x y=M v->∃q,Jm ss ts ms x y=M q/\v=Aq n q
theorem Pi.ext{f:By->Bool->Option ByteArray}(h:Pi ss ts n ms f)(k:Ext ms ms'):Pi ss ts n ms' f:=λx y v e=>by
 obtain⟨q,h1,h2⟩:=h x y v e;exact⟨q,Qv k h1,h2⟩
def Eqs(ss:L S2)(ts:L T2)(n:X)(ms:Mm)(gs:L G3)(k:X):Prop:=∀j,j<k->∃f,Jm ss ts ms (gx gs j).name (gx gs j).ask=M f/\Aq n f=(gx gs j).sum
theorem Eqs.ext{gs:L G3}(h:Eqs ss ts n ms gs k)(e:Ext ms ms'):Eqs ss ts n ms' gs k:=λj hj=>by
 obtain⟨f,h1,h2⟩:=h j hj;exact⟨f,Qv e h1,h2⟩
theorem Eqs.succ{gs:L G3}(h:Eqs ss ts n ms gs k)(h1:Jm ss ts ms (gx gs k).name (gx gs k).ask=M f)(h2:Aq n f=(gx gs k).sum):Eqs ss ts n ms gs (k+1):=λj hj=>by
 rcases Nat.lt_or_ge j k with q|q
 ·exact h j q
 ·obtain rfl:j=k:=qb
  exact⟨f,h1,h2⟩
def NoH(ss:L S2)(ts:L T2)(n:X)(ms:Mm)(gs:L G3):Prop:=∃k,k<gs.length/\Eqs ss ts n ms gs k/\∃f,Jm ss ts ms (gx gs k).name (gx gs k).ask=M f/\Aq n f≠(gx gs k).sum
theorem NoH.ext{gs:L G3}(h:NoH ss ts n ms gs)(e:Ext ms ms'):NoH ss ts n ms' gs:=by
 obtain⟨k,h1,h2,f,h3,h4⟩:=h;exact⟨k,h1,h2.ext e,f,Qv e h3,h4⟩
theorem NoH.bld{gs:L G3}(h:NoH ss ts n ms gs)(s:Sb)(st:L By):Ba ss ts n ms s st (.holds gs 0) ms s .no:=by
 obtain⟨k,h1,h2,f,h3,h4⟩:=h
 have aux:∀m i,i+m=k->Ba ss ts n ms s st (.holds gs i) ms s .no:=by
  intro m
  induction m with
  | zero=>
    intro i hi;obtain rfl:i=k:=qb;unfold Jm at h3
    cases ha:(gx gs i).ask with
    | false=>
      rw[ha]at h3;simp only[Bool.false_eq_true,if_false,Option.some.injEq]at h3;exact .hhasno h1 ha (by rw[h3];exact h4)
    | true=>
      rw[ha]at h3;simp only[if_true]at h3
      cases hf:fd ms (gx gs i).name with
      | none=>rw[hf]at h3;cases h3
      | some d=>
        rw[hf]at h3;simp only[Option.map_some,Option.some.injEq]at h3;exact .haskno h1 ha (.known hf) (by rw[h3];exact h4)
  | succ m ih=>
    intro i hi;obtain⟨f',q1,q2⟩:=h2 i qb;unfold Jm at q1
    cases ha:(gx gs i).ask with
    | false=>
      rw[ha]at q1;simp only[Bool.false_eq_true,if_false,Option.some.injEq]at q1;exact .hhas qb ha (by rw[q1];exact q2) (ih (i+1) qb)
    | true=>
      rw[ha]at q1;simp only[if_true]at q1
      cases hf:fd ms (gx gs i).name with
      | none=>rw[hf]at q1;cases q1
      | some d=>
        rw[hf]at q1;simp only[Option.map_some,Option.some.injEq]at q1;exact .hask qb ha (.known hf) (by rw[q1];exact q2) (ih (i+1) qb)
 exact aux k 0 qb
def Jf(l:L Z):Prop:=l.Pairwise λu v=>∀b,u.ownBlock=M b->v.ownBlock≠M b
theorem Jf.set(h:Jf l)(i:X)(u:Z){AI:X}(hi:i<l.length)(hu:∀b,u.ownBlock=M b->l[i].ownBlock=M b\/AI<=b)(aj:∀v∈l,∀b,v.ownBlock=M b->b<AI):Jf (l.set i u):=by
 unfold Jf at *;rw[List.pairwise_iff_getElem]at *;intro a c ha hc hac b e1 e2;rw[List.length_set]at ha hc;rw[List.getElem_set]at e1 e2
 split at e1
 ·rename_i q
  subst q;rw[if_neg qb]at e2
  rcases hu b e1 with k|k
  ·exact h i c hi hc hac b k e2
  ·have:=aj _ (List.getElem_mem hc) b e2;omega
 ·split at e2
  ·rename_i q q2
   subst q2
   rcases hu b e2 with k|k
   ·exact h a i ha hi hac b e1 k
   ·have:=aj _ (List.getElem_mem ha) b e1;omega
  ·exact h a c ha hc hac b e1 e2
theorem Jf.ne(h:Jf l){i:X}(t7:i≠j)(hi:i<l.length)(hj:j<l.length):∀b,l[i].ownBlock=M b->l[j].ownBlock≠M b:=λb e1 e2=>by
 unfold Jf at h;rw[List.pairwise_iff_getElem]at h
 rcases Nat.lt_or_ge i j with q|q
 ·exact h i j hi hj q b e1 e2
 ·exact h j i hj hi qb b e2 e1
structure Rv where
 tx:Z
 su:Z
 qv:Z
 nv:Z
 ev:Z
 uv:Z
 dv:Z
 sn:X
def Od(r:Rv):L Z:=[r.tx,r.su,r.qv,r.nv,r.ev,r.uv,r.dv]
def Ky(C:Ga)(r:Rv)(b:X):Prop:=b=C.hb\/b=C.hs\/b=C.sb\/∃u∈Od r,u.ownBlock=M b
def Tw(C:Ga)(h:X)(r:Rv):Array Z:=#[D (p_ C.hs),r.nv,r.ev,r.uv,I 0,I 0,nS,nS,ze,ze,D (p_ h),.map (M C.sb),r.dv]
structure Lf (B h mb:X) (C:Ga) (ss:L S2) (ts:L T2) (w:E) (ms:Mm) (s:Sb) (av kv:Z) (r:Rv):Prop where
 lb:B<=C.hb/\B<=C.hs/\B<=C.sb/\mb≠C.sb
 wd:1<=C.n/\C.n<=8
 bd:w.heap[C.hb]?=M (O (Tw C h r) 119 (0,0))
 sh:w.heap[C.hs]?=M (O #[I C.n,r.tx,r.qv,r.su] 124 (0,0))
 sn:∃f,Kj w C.sb r.sn f/\Pi ss ts C.n ms f
 tx:w.ownsRow B 9 1 r.tx s.T.length (Av s.T)
 su:w.ownsRow B 9 1 r.su s.T.length (Av (s.T.map (Aq C.n)))
 qs:Fx w B r.qv s.R
 ran:w.ownsRow B 9 1 r.nv s.ran.length (Av s.ran)
 held:w.ownsRow B 9 1 r.ev s.held.length (Av s.held)
 us:∃xs:L Bool,w.ownsRow B 4 1 r.uv s.R.length (xs.map .bool)
 df:∃xs:L Bool,w.ownsRow B 4 1 r.dv s.R.length (xs.map .bool)/\∀i:X,xs[i]?=M true->NoH ss ts C.n ms (qx s.R i).looks
 ud:∀b,r.uv.ownBlock=M b->r.dv.ownBlock≠M b
 ap:Jf [av,kv,r.tx,r.su,r.nv,r.ev]
theorem Fx.kept{R:L T3}(k:Fx w B v R)(h1:∀b,v.ownBlock=M b->w'.heap[b]?=w.heap[b]?)(h2:∀(b:X)(cs:Array Z)(T:TypeId),(T=139\/T=136)->w.heap[b]?=M (O cs T (0,0))->w'.heap[b]?=M (O cs T (0,0))):Fx w' B v R:=by
 obtain⟨xs,cv,lv,r⟩:=k
 have kk:∀ {e sz n:X} {u:Z} {ys:L Z},w.ownsRow B e sz u n ys->(e=139\/e=136)->w'.ownsRow B e sz u n ys:=λho he=>Al ho λb q=>by
  obtain⟨cs,c1⟩:=Bd ho b q;rw[c1];exact h2 b cs _ he c1
 exact⟨xs,cv,lv,Al r.row h1,r.fil,λi hi=>by obtain⟨ys,a,b⟩:=r.code i hi;exact⟨ys,kk a (Or.inl rfl),b⟩,λi hi=>by obtain⟨ys,a,b⟩:=r.look i hi;exact⟨ys,kk a (Or.inr rfl),b⟩,r.apc,r.apl⟩
section
variable {B h mb:X} {C:Ga} {ss:L S2} {ts:L T2} {w w':E} {ms:Mm} {s:Sb} {av kv:Z} {r:Rv}
theorem Bl(C:Ga){r:Rv}{u:Z}{b:X}(hu:u∈Od r)(q:u.ownBlock=M b):Ky C r b:=Or.inr (Or.inr (Or.inr ⟨u,hu,q⟩))
theorem Lf.kept(k:Lf B h mb C ss ts w ms s av kv r)(h1:∀b,Ky C r b->w'.heap[b]?=w.heap[b]?)(h2:∀(b:X)(cs:Array Z)(T:TypeId),(T=139\/T=136)->w.heap[b]?=M (O cs T (0,0))->w'.heap[b]?=M (O cs T (0,0))):Lf B h mb C ss ts w' ms s av kv r:=by
 obtain⟨f,f1,f2⟩:=k.sn;obtain⟨xs,u1⟩:=k.us;obtain⟨ys,d1,d2⟩:=k.df;have kk:∀ {e sz n:X} {u:Z} {ys:L Z},w.ownsRow B e sz u n ys->u∈Od r->w'.ownsRow B e sz u n ys:=λho hu=>Al ho λb q=>h1 b (Bl C hu q);exact⟨k.lb,k.wd,by rw[h1 _ (Or.inl rfl)];exact k.bd,by rw[h1 _ (Or.inr (Or.inl rfl))];exact k.sh,⟨f,f1.same (h1 _ (Or.inr (Or.inr (Or.inl rfl)))),f2⟩,kk k.tx qu,kk k.su qu,k.qs.kept (λb q=>h1 b (Bl C (u:=r.qv) qu q)) h2,kk k.ran qu,kk k.held qu,⟨xs,kk u1 qu⟩,⟨ys,kk d1 qu,d2⟩,k.ud,k.ap⟩
theorem Lf.rowT(k:Lf B h mb C ss ts w ms s av kv r){u:Z}(hu:u∈Od r){b:X}(q:u.ownBlock=M b):B<=b/\∃cs T,w.heap[b]?=M (O cs T (0,0))/\(T=9\/T=95\/T=4):=by
 obtain⟨xs,u1⟩:=k.us;obtain⟨ys,d1,d2⟩:=k.df;obtain⟨zs,cv,lv,qr⟩:=k.qs
 have aux:∀ {e sz n:X} {u:Z} {ys:L Z},w.ownsRow B e sz u n ys->(e=9\/e=95\/e=4)->u.ownBlock=M b->B<=b/\∃cs T,w.heap[b]?=M (O cs T (0,0))/\(T=9\/T=95\/T=4):=λho he q=>by
  obtain⟨hB,cs,c1⟩:=Dv ho q;exact⟨hB,cs,_,c1,he⟩
 simp only[Od,List.mem_cons,List.not_mem_nil,or_false]at hu
 rcases hu with rfl|rfl|rfl|rfl|rfl|rfl|rfl
 ·exact aux k.tx (Or.inl rfl) q
 ·exact aux k.su (Or.inl rfl) q
 ·exact aux qr.row (Or.inr (Or.inl rfl)) q
 ·exact aux k.ran (Or.inl rfl) q
 ·exact aux k.held (Or.inl rfl) q
 ·exact aux u1 (Or.inr (Or.inr rfl)) q
 ·exact aux d1 (Or.inr (Or.inr rfl)) q
theorem Lf.lt(k:Lf B h mb C ss ts w ms s av kv r){b:X}(q:Ky C r b):B<=b/\b<w.heap.size:=by
 obtain⟨f,f1,f2⟩:=k.sn
 rcases q with rfl|rfl|rfl|⟨u,hu,q⟩
 ·exact⟨k.lb.1,Ag k.bd⟩
 ·exact⟨k.lb.2.1,Ag k.sh⟩
 ·exact⟨k.lb.2.2.1,f1.lt⟩
 ·obtain⟨hB,cs,T,c1,_⟩:=k.rowT hu q
  exact⟨hB,Ag c1⟩
theorem Lf.bl(k:Lf B h mb C ss ts w ms s av kv r)(hb:Bw w w'):Lf B h mb C ss ts w' ms s av kv r:=k.kept (λb q=>hb.block b (k.lt q).2) (λb cs T _ q=>by rw[hb.block b (Ag q)];exact q)
theorem Lf.far(k:Lf B h mb C ss ts w ms s av kv r){b:X}{T:TypeId}{cs:Array Z}(hb:w.heap[b]?=M (O cs T (0,0)))(hT:T≠119/\T≠124/\T≠9/\T≠95/\T≠4):¬ Ky C r b:=by
 obtain⟨f,f1,f2⟩:=k.sn;rintro(rfl|rfl|rfl|⟨u,hu,q⟩)
 ·have q:=k.bd;rw[hb]at q;injection q with q;injection q with _ q;exact hT.1 q
 ·have q:=k.sh;rw[hb]at q;injection q with q;injection q with _ q;exact hT.2.1 q
 ·exact f1.notCells hb
 ·obtain⟨_,cs',T',c1,c2⟩:=k.rowT hu q
  rw[hb]at c1;injection c1 with c1;injection c1 with _ c1
  rcases c2 with e|e|e
  ·exact hT.2.2.1 (c1.trans e)
  ·exact hT.2.2.2.1 (c1.trans e)
  ·exact hT.2.2.2.2 (c1.trans e)
theorem Lf.ne9(k:Lf B h mb C ss ts w ms s av kv r){b:X}(q:av.ownBlock=M b\/kv.ownBlock=M b)(hc:∃cs,w.heap[b]?=M (O cs 9 (0,0))):¬ Ky C r b:=by
 obtain⟨f,f1,f2⟩:=k.sn;obtain⟨cs,hb⟩:=hc;obtain⟨xs,u1⟩:=k.us;obtain⟨ys,d1,d2⟩:=k.df;obtain⟨zs,cv,lv,qr⟩:=k.qs;rintro(rfl|rfl|rfl|⟨u,hu,q2⟩)
 ·exact qmh
 ·exact qmg
 ·exact f1.notCells hb
 ·have ap:=k.ap
  have aux:∀(i j:X)(hi:i<6)(hj:j<6),i≠j->[av,kv,r.tx,r.su,r.nv,r.ev][i].ownBlock=M b->[av,kv,r.tx,r.su,r.nv,r.ev][j].ownBlock≠M b:=λi j hi hj t7=>ap.ne t7 hi hj b;simp only[Od,List.mem_cons,List.not_mem_nil,or_false]at hu
  rcases hu with rfl|rfl|rfl|rfl|rfl|rfl|rfl
  ·exact q.elim (λq=>aux 0 2 qd qd qd q q2) (λq=>aux 1 2 qd qd qd q q2)
  ·exact q.elim (λq=>aux 0 3 qd qd qd q q2) (λq=>aux 1 3 qd qd qd q q2)
  ·exact Ae qr.row qd hb q2
  ·exact q.elim (λq=>aux 0 4 qd qd qd q q2) (λq=>aux 1 4 qd qd qd q q2)
  ·exact q.elim (λq=>aux 0 5 qd qd qd q q2) (λq=>aux 1 5 qd qd qd q q2)
  ·exact Ae u1 qd hb q2
  ·exact Ae d1 qd hb q2
theorem Lf.set(k:Lf B h mb C ss ts w ms s av kv r){b:X}{T:TypeId}{cs:Array Z}(hb:w.heap[b]?=M (O cs T (0,0)))(hT:T≠119/\T≠124/\T≠9/\T≠95/\T≠4)(hT2:T≠139/\T≠136)(j:X)(u:Z):Lf B h mb C ss ts (w.setCell ⟨b,j,N⟩ u) ms s av kv r:=
 k.kept (λb' q=>Dj w ⟨b,j,N⟩ _ b' (λe=>k.far hb hT (by have e:b'=b:=e;exact e▸q))) (λb' cs' T' L7 q=>by
  rw[Dj w ⟨b,j,N⟩ _ b' (λe=>by
   have e:b'=b:=e;subst e;rw[hb]at q;injection q with q;injection q with _ q
   rcases L7 with e|e
   ·exact hT2.1 (q.trans e)
   ·exact hT2.2 (q.trans e))]
  exact q)
theorem Lf.ext(k:Lf B h mb C ss ts w ms s av kv r){ms':Mm}(e:Ext ms ms'):Lf B h mb C ss ts w ms' s av kv r:=by
 obtain⟨f,f1,f2⟩:=k.sn;obtain⟨ys,d1,d2⟩:=k.df;exact⟨k.lb,k.wd,k.bd,k.sh,⟨f,f1,f2.ext e⟩,k.tx,k.su,k.qs,k.ran,k.held,k.us,⟨ys,d1,λi q=>(d2 i q).ext e⟩,k.ud,k.ap⟩
theorem Lf.kp{kk:X}{sv tv fv:Z}{mk st:L By}{al:X}{vs:By->Z}{ms0:Mm}(k:Lf B h mb C ss ts w ms s av kv r)(m:Mo B h mb kk sv tv fv w ms0 mk st al av kv vs)(hk:KP B h mb av kv w w'):Lf B h mb C ss ts w' ms s av kv r:=by
 obtain⟨n,hn,hm⟩:=m.map;obtain⟨xs,e,ha⟩:=m.ask;refine k.kept (λb q=>hk.keep b (k.lt q).2 (λe=>?_) (λe=>?_) (λe=>?_) (λe=>?_)) (λb cs T hT q=>?_)
 ·subst e;exact k.far m.blk qd q
 ·subst e
  rcases q with q|q|q|⟨u,hu,q⟩
  ·subst q;exact hm.notCells k.bd
  ·subst q;exact hm.notCells k.sh
  ·exact k.lb.2.2.2 q
  ·obtain⟨_,cs,T,c1,_⟩:=k.rowT hu q
   exact hm.notCells c1
 ·exact k.ne9 (Or.inl e) (Bd ha b e) q
 ·exact k.ne9 (Or.inr e) (Bd m.stk b e) q
 ·rw[hk.keep b (Ag q) (λe=>?_) (λe=>?_) (λe=>?_) (λe=>?_)]
  ·exact q
  ·subst e
   have q2:=m.blk;rw[q]at q2;injection q2 with q2;injection q2 with _ q2
   rcases hT with e|e<;>rw[e]at q2<;>exact absurd q2 qd
  ·subst e;exact hm.notCells q
  ·exact Ae ha (by rcases hT with e|e<;>rw[e]<;>decide) q e
  ·exact Ae m.stk (by rcases hT with e|e<;>rw[e]<;>decide) q e
theorem Lf.l6(k:Lf B h mb C ss ts w ms s av kv r)(ha:∀b,av.ownBlock=M b->b<w.heap.size)(hk:∀b,kv.ownBlock=M b->b<w.heap.size):∀v∈[av,kv,r.tx,r.su,r.nv,r.ev],∀b,v.ownBlock=M b->b<w.heap.size:=by
 intro v hv b q;simp only[List.mem_cons,List.not_mem_nil,or_false]at hv
 rcases hv with rfl|rfl|rfl|rfl|rfl|rfl
 ·exact ha b q
 ·exact hk b q
 ·exact(k.tx.lt b q).2
 ·exact(k.su.lt b q).2
 ·exact(k.ran.lt b q).2
 ·exact(k.held.lt b q).2
theorem Lf.av'(k:Lf B h mb C ss ts w' ms s av kv r)(k0:Lf B h mb C ss ts w ms s av kv r)(ha:∀b,av.ownBlock=M b->b<w.heap.size)(hk:∀b,kv.ownBlock=M b->b<w.heap.size){u:Z}(hu:An w av u):Lf B h mb C ss ts w' ms s u kv r:=
 ⟨k.lb,k.wd,k.bd,k.sh,k.sn,k.tx,k.su,k.qs,k.ran,k.held,k.us,k.df,k.ud,Jf.set k.ap 0 u qg hu (k0.l6 ha hk)⟩
theorem Lf.kv'(k:Lf B h mb C ss ts w' ms s av kv r)(k0:Lf B h mb C ss ts w ms s av kv r)(ha:∀b,av.ownBlock=M b->b<w.heap.size)(hk:∀b,kv.ownBlock=M b->b<w.heap.size){u:Z}(hu:An w kv u):Lf B h mb C ss ts w' ms s av u r:=
 ⟨k.lb,k.wd,k.bd,k.sh,k.sn,k.tx,k.su,k.qs,k.ran,k.held,k.us,k.df,k.ud,Jf.set k.ap 1 u qg hu (k0.l6 ha hk)⟩
theorem Mo.kr{kk:X}{sv tv fv:Z}{mk st:L By}{al:X}{vs:By->Z}{ms0:Mm}(m:Mo B h mb kk sv tv fv w ms0 mk st al av kv vs)(k:Lf B h mb C ss ts w ms s av kv r)(hk:∀b,b<w.heap.size->¬ Ky C r b->w'.heap[b]?=w.heap[b]?):Mo B h mb kk sv tv fv w' ms0 mk st al av kv vs:=by
 obtain⟨n,hn,hm⟩:=m.map;obtain⟨xs,e,ha⟩:=m.ask;refine m.kept λb q=>hk b (m.lt q) ?_
 rcases q with rfl|rfl|q|q
 ·exact k.far m.blk qd
 ·rintro(q|q|q|⟨u,hu,q⟩)
  ·subst q;exact hm.notCells k.bd
  ·subst q;exact hm.notCells k.sh
  ·exact k.lb.2.2.2 q
  ·obtain⟨_,cs,T,c1,_⟩:=k.rowT hu q
   exact hm.notCells c1
 ·exact k.ne9 (Or.inl q) (Bd ha b q)
 ·exact k.ne9 (Or.inr q) (Bd m.stk b q)
end
def slen:Z->X
 | J _ n _=>n
 | _=>0
def Lo(v:Z)(w w':E):Prop:=∀g l cp (cs:Array Z),v=J (p_ g) l cp->w.heap[g]?=M (O cs 95 (0,0))->∃cs',w'.heap[g]?=M (O cs' 95 (0,0))/\∀j,j<l*3->cs'[j]?=cs[j]?
structure KQ (B h mb:X) (C:Ga) (av kv:Z) (r r':Rv) (w w':E):Prop where
 bel:Below B w w'
 keep:∀b,b<w.heap.size->b≠h->b≠mb->av.ownBlock≠M b->kv.ownBlock≠M b->¬ Ky C r b->w'.heap[b]?=w.heap[b]?
 new:∀b,Ky C r' b->Ky C r b\/w.heap.size<=b
 old:Lo r.qv w w'
 len:slen r.qv<=slen r'.qv
structure BS (B h mb k:X) (C:Ga) (sv tv:Z) (ss:L S2) (ts:L T2) (w:E) (ms:Mm) (mk st:L By) (al:X) (av kv:Z) (vs:By->Z) (s:Sb) (r:Rv):Prop where
 mkr:Mo B h mb k sv tv (fvC C) w ms mk st al av kv vs
 rs:Lf B h mb C ss ts w ms s av kv r
abbrev Je(B h mb:X)(C:Ga)(sv tv:Z)(ss:L S2)(ts:L T2)(w:E)(ms:Mm)(st:L By)(av kv:Z)(vs:By->Z)(s:Sb)(r:Rv):Prop:=BS B h mb 0 C sv tv ss ts w ms st st (ms.length+st.length) av kv vs s r
def TyO(T:TypeId):Prop:=T≠153/\T≠119/\T≠124/\T≠9/\T≠95/\T≠4/\T≠139/\T≠136
instance (T:TypeId):Decidable (TyO T):=by unfold TyO;infer_instance
section
variable {B h mb k:X} {C:Ga} {sv tv:Z} {ss:L S2} {ts:L T2} {w w':E} {ms:Mm} {mk st:L By} {al:X} {av kv:Z} {vs:By->Z} {s:Sb} {r r' r'':Rv}
theorem BS.bl(q:BS B h mb k C sv tv ss ts w ms mk st al av kv vs s r)(hb:Bw w w'):BS B h mb k C sv tv ss ts w' ms mk st al av kv vs s r:=⟨q.mkr.bl hb,q.rs.bl hb⟩
theorem BS.le{k':X}(q:BS B h mb k C sv tv ss ts w ms mk st al av kv vs s r)(hk:k'<=k):BS B h mb k' C sv tv ss ts w ms mk st al av kv vs s r:=⟨q.mkr.le hk,q.rs⟩
theorem BS.set(q:BS B h mb k C sv tv ss ts w ms mk st al av kv vs s r){b:X}{T:TypeId}{cs:Array Z}(hb:w.heap[b]?=M (O cs T (0,0)))(hT:TyO T)(j:X)(u:Z):BS B h mb k C sv tv ss ts (w.setCell ⟨b,j,N⟩ u) ms mk st al av kv vs s r:=
 ⟨q.mkr.set hb hT.1 hT.2.2.2.1 j u,q.rs.set hb ⟨hT.2.1,hT.2.2.1,hT.2.2.2.1,hT.2.2.2.2.1,hT.2.2.2.2.2.1⟩ hT.2.2.2.2.2.2 j u⟩
theorem BS.ownA(q:BS B h mb k C sv tv ss ts w ms mk st al av kv vs s r):(∀b,av.ownBlock=M b->b<w.heap.size)/\(∀b,kv.ownBlock=M b->b<w.heap.size):=⟨λb e=>q.mkr.lt (by simp[e]),λb e=>q.mkr.lt (by simp[e])⟩
theorem BS.noneA(q:BS B h mb k C sv tv ss ts w ms mk st al av kv vs s r){b:X}{T:TypeId}{cs:Array Z}(hb:w.heap[b]?=M (O cs T (0,0)))(hT:TyO T):b≠h/\b≠mb/\av.ownBlock≠M b/\kv.ownBlock≠M b/\¬ Ky C r b:=
 ⟨λe=>q.mkr.far hb hT.1 hT.2.2.2.1 (Or.inl e) rfl,λe=>q.mkr.far hb hT.1 hT.2.2.2.1 (Or.inr (Or.inl e)) rfl,λe=>q.mkr.far hb hT.1 hT.2.2.2.1 (Or.inr (Or.inr (Or.inl e))) rfl,λe=>q.mkr.far hb hT.1 hT.2.2.2.1 (Or.inr (Or.inr (Or.inr e))) rfl,q.rs.far hb ⟨hT.2.1,hT.2.2.1,hT.2.2.2.1,hT.2.2.2.2.1,hT.2.2.2.2.2.1⟩⟩
theorem KQ.blk(K:KQ B h mb C av kv r r' w w')(q:BS B h mb k C sv tv ss ts w ms mk st al av kv vs s r){b:X}{T:TypeId}{cs:Array Z}(hb:w.heap[b]?=M (O cs T (0,0)))(hT:TyO T):w'.heap[b]?=M (O cs T (0,0)):=by
 obtain⟨n1,n2,n3,n4,n5⟩:=q.noneA hb hT;rw[K.keep b (Ag hb) n1 n2 n3 n4 n5];exact hb
theorem Lo.same{v:Z}{w w':E}(h:∀b,v.ownBlock=M b->w'.heap[b]?=w.heap[b]?):Lo v w w':=λg l cp cs e hb=>⟨cs,by rw[h g (by rw[e];rfl)];exact hb,λ_ _=>rfl⟩
theorem KQ.of_below(q:BS B h mb k C sv tv ss ts w ms mk st al av kv vs s r)(hb:Bw w w')(hB:B<=w.heap.size):KQ B h mb C av kv r r w w':=⟨hb.mono hB,λb hl _ _ _ _ _=>hb.block b hl,λ_ h=>Or.inl h,Lo.same λb e=>hb.block b (q.rs.lt (Bl C (u:=r.qv) qu e)).2,Nat.le_refl _⟩
theorem KQ.of_kp(q:BS B h mb k C sv tv ss ts w ms mk st al av kv vs s r)(hk:KP B h mb av kv w w'):KQ B h mb C av kv r r w w':=by
 refine⟨hk.bl,λb hl h1 h2 h3 h4 _=>hk.keep b hl h1 h2 h3 h4,λ_ h=>Or.inl h,Lo.same λb e=>?_,Nat.le_refl _⟩;have ow:Ky C r b:=Bl C (u:=r.qv) qu e;have hl:=(q.rs.lt ow).2;obtain⟨xs,cv,lv,qr⟩:=q.rs.qs;obtain⟨cs,c1⟩:=Bd qr.row b e;exact hk.keep b hl (λe'=>q.mkr.far c1 qd qd (Or.inl e') rfl) (λe'=>q.mkr.far c1 qd qd (Or.inr (Or.inl e')) rfl) (λe'=>q.mkr.far c1 qd qd (Or.inr (Or.inr (Or.inl e'))) rfl) (λe'=>q.mkr.far c1 qd qd (Or.inr (Or.inr (Or.inr e'))) rfl)
theorem KQ.trans{w1 w2:E}{av1 kv1:Z}(K:KQ B h mb C av kv r r' w w1)(ha:An w av av1)(hk:An w kv kv1)(q:BS B h mb k C sv tv ss ts w1 ms mk st al av1 kv1 vs s r')(AL:KQ B h mb C av1 kv1 r' r'' w1 w2):KQ B h mb C av kv r r'' w w2:=by
 have hs:=K.bel.size;refine⟨K.bel.trans AL.bel,λb hl h1 h2 h3 h4 h5=>?_,λb e=>?_,λg l cp cs e hb=>?_,Nat.le_trans K.len AL.len⟩
 ·rw[AL.keep b qb h1 h2 (λe=>by rcases ha b e with q|q;exact h3 q;omega) (λe=>by rcases hk b e with q|q;exact h4 q;omega) (λe=>by rcases K.new b e with q|q;exact h5 q;omega)]
  exact K.keep b hl h1 h2 h3 h4 h5
 ·rcases AL.new b e with q|q
  ·exact K.new b q
  ·exact Or.inr qb
 ·obtain⟨M0,b1,c1⟩:=K.old g l cp cs e hb
  by_cases ow:r'.qv.ownBlock=M g
  ·obtain⟨xs,cv,lv,qr⟩:=q.rs.qs
   have hr:=qr.row
   rcases hr.2 with⟨e0,_⟩|⟨g1,cp1,cur,e1,_⟩
   ·rw[e0]at ow;simp[Value.ownBlock]at ow
   ·rw[e1]at ow
    simp[Value.ownBlock]at ow;subst ow;obtain⟨cs2,b2,c2⟩:=AL.old g1 _ cp1 M0 e1 b1;have dr:=K.len;rw[e,e1]at dr;simp only[slen]at dr;exact⟨cs2,b2,λj hj=>(c2 j qb).trans (c1 j hj)⟩
  ·refine⟨M0,?_,c1⟩
   rw[AL.keep g (Ag b1) (λe'=>q.mkr.far b1 qd qd (Or.inl e') rfl) (λe'=>q.mkr.far b1 qd qd (Or.inr (Or.inl e')) rfl) (λe'=>q.mkr.far b1 qd qd (Or.inr (Or.inr (Or.inl e'))) rfl) (λe'=>q.mkr.far b1 qd qd (Or.inr (Or.inr (Or.inr e'))) rfl) ?_]
   ·exact b1
   ·rintro(q2|q2|q2|⟨u,hu,q2⟩)
    ·subst q2;have q:=q.rs.bd;rw[b1]at q;injection q with q;injection q with _ q;exact absurd q qd
    ·subst q2;have q:=q.rs.sh;rw[b1]at q;injection q with q;injection q with _ q;exact absurd q qd
    ·subst q2;obtain⟨f,f1,_⟩:=q.rs.sn;exact f1.notCells b1
    ·obtain⟨xs,u1⟩:=q.rs.us
     obtain⟨ys,d1,d2⟩:=q.rs.df;simp only[Od,List.mem_cons,List.not_mem_nil,or_false]at hu
     rcases hu with rfl|rfl|rfl|rfl|rfl|rfl|rfl
     ·exact Ae q.rs.tx qd b1 q2
     ·exact Ae q.rs.su qd b1 q2
     ·exact ow q2
     ·exact Ae q.rs.ran qd b1 q2
     ·exact Ae q.rs.held qd b1 q2
     ·exact Ae u1 qd b1 q2
     ·exact Ae d1 qd b1 q2
theorem KQ.after{w1 w2:E}{av1 kv1:Z}(K:KQ B h mb C av kv r r' w w1)(ha:An w av av1)(hk:An w kv kv1)(q:BS B h mb k C sv tv ss ts w1 ms mk st al av1 kv1 vs s r')(hb:Bw w1 w2)(hB:B<=w1.heap.size):KQ B h mb C av kv r r' w w2:=K.trans ha hk q (KQ.of_below q hb hB)
end
def clA:Gl->ByteArray
 | .clash A _=>A
 | _=>⟨#[]⟩
def clB:Gl->ByteArray
 | .clash _ B=>B
 | _=>⟨#[]⟩
def Df(B:X)(C:Ga)(w:E)(b:Gl)(v:Z):Prop:=w.cell? ⟨C.hb,8,N⟩=M (S (clA b))/\w.cell? ⟨C.hb,9,N⟩=M (S (clB b))/\
 match b with
 | .circle ch=>∃ca cn cc,v=G #[I 6,ze,J ca cn cc]/\w.ownsRow B 9 1 (J ca cn cc) ch.length (Av ch)
 | .deep nm=>v=G #[I 7,S nm,nS]
 | .clash _ _=>v=G #[I 10,ze,nS]
 | .full=>v=G #[I 11,ze,nS]
theorem Df.bl{b:Gl}(h:Df B C w b v)(hb:Bw w w'):Df B C w' b v:=by
 obtain⟨h1,h2,h3⟩:=h;refine⟨Aa hb h1,Aa hb h2,?_⟩
 cases b with
 | circle ch=>obtain⟨ca,cn,cc,e,ho⟩:=h3;exact⟨ca,cn,cc,e,Ac ho hb⟩
 | deep nm=>exact h3
 | clash A B=>exact h3
 | full=>exact h3
structure Ff (ss:L S2) (ts:L T2) (n:X) (ms:Mm) (s:Sb) (st:L By) (sn c:X):Prop where
 inv:Fy ss ts ms st
 ok:Gi n s
 ml:ms.length+c<=400200*Dh ts ms st
 cn:cntO ts ms s st
 sl:sn+c<=400200*Dh ts ms st
theorem Ff.le{c c':X}(h:Ff ss ts n ms s st sn c)(hc:c'<=c):Ff ss ts n ms s st sn c':=⟨h.inv,h.ok,by have:=h.ml;omega,h.cn,by have:=h.sl;omega⟩
theorem Ff.step{s':Sb}{sn' c d:X}{j:BJ}{a:BA}(hv:SpV ss ts)(h:Ff ss ts n ms s st sn c)(hb:Ba ss ts n ms s st j ms' s' a)(hj:JobB s j)(ha:∀b,a≠.bad b)(hz:Vo j=0)(hd:Pe j<=d)(hc:d<=c)(mn:sn'+400200*Dh ts ms st<=sn+d+400200*Dh ts ms' st):Ff ss ts n ms' s' st sn' (c-d):=by
 obtain⟨k1,k2,_,_⟩:=hb.inv hv h.inv h.ok hj ha;have k3:=hb.cost hv h.inv h.ok hj ha;have h1:=h.ml;have h2:=h.sl;exact⟨k1,k2,qb,hb.cntOM hv h.inv h.ok hj ha hz h.cn,qb⟩
theorem Ff.small{c:X}(h:Ff ss ts n ms s st sn c)(hl:ts.length<=200):ms.length<=80040000/\sn<=80040000/\st.length<=40200/\s.ran.length+s.held.length<=40200:=by
 have h1:=h.ml;have h2:=h.sl;have h3:=h.cn;have h4:=Pn ts ms st;unfold cntO at h3;omega
def Nm(B h mb:X)(C:Ga)(sv tv:Z)(ss:L S2)(ts:L T2)(ms:Mm)(s:Sb)(st:L By)(av kv:Z)(vs:By->Z)(r:Rv)(nm:By)(rt:Md->(By->Z)->Z)(w:E)(e:Ending)(w':E):Prop:=
 ∃ms' s' a,Ba ss ts C.n ms s st (.make nm) ms' s' a/\
  ((∃d av' kv' vs' r',a=.ok d/\e=H (rt d vs')/\Je B h mb C sv tv ss ts w' ms' st av' kv' vs' s' r'/\KQ B h mb C av kv r r' w w'/\An w av av'/\An w kv kv'/\r'.sn+400200*Dh ts ms st<=r.sn+400200*Dh ts ms' st)\/
   (∃b v r',a=.bad b/\e=Lh v/\Df B C w' b v/\KQ B h mb C av kv r r' w w'))
def Gg(W0:E)(h mb:X)(C:Ga)(sv tv:Z)(ss:L S2)(ts:L T2)(st:L By):Prop:=
 ∀(w:E)(ms:Mm)(nm:By)(av kv:Z)(vs:By->Z)(s:Sb)(r:Rv),Je W0.heap.size h mb C sv tv ss ts w ms st av kv vs s r->Ff ss ts C.n ms s st r.sn 0->Ar nm->Bw W0 w->
   Calls prog 113 #[D (p_ h),S nm] w λe w'=>Nm W0.heap.size h mb C sv tv ss ts ms s st av kv vs r nm (λd vs'=>Fj d (vs' nm)) w e w'
noncomputable def lookV (ss:L S2) (ts:L T2) (nm:By) (d:Md):Z:=Y #[G #[F (Ck ss ts nm),I d.c,S d.t],S (Bj d.c d.t)]
theorem Xo(W0:E)(h mb k:X)(C:Ga)(sa ta:Option Addr)(c1 c2:X)(ss:L S2)(ts:L T2)(ms:Mm)(mk st:L By)(al:X)(av kv:Z)(vs:By->Z)(s:Sb)(r:Rv)(nm:By)(w:E)(hE:He W0 sa ta ss ts)(q:BS W0.heap.size h mb k C (J sa ss.length c1) (J ta ts.length c2) ss ts w ms mk st al av kv vs s r)(hW:Bw W0 w):Calls prog 138 #[D (p_ h),S nm,F false] w λe w'=>e=H (Y #[G #[F (Ck ss ts nm),I 0,ze],S (Cq (Ck ss ts nm))])/\Bw w w':=by
 obtain⟨W,eW⟩:=Aj (w.alloc (O #[F false,I 0,ze] 198));have bq:Bw w W:=qaz
 have HR:Hd (W.heap[w.heap.size]?=M (O #[F false,I 0,ze] 198 (0,0))):=by
  exact qbo
 obtain⟨x0,x1,_⟩:=(q.mkr.bl bq).cells;have F7:=Qar sa ta c1 c2 ss ts nm W0 W hE (hW.trans (bq.mono hW.size));have HB:Hd (Bw w W):=bq;generalize Ck ss ts nm=tb at F7 ⊢;have HT:Hd (Calls prog 157 #[G #[J sa ss.length c1,J ta ts.length c2],S nm] W λe w'=>Bw W w'/\e=H (F tb)):=F7;obtain⟨f,ef⟩:=Aj (Cq tb);have HF:Hd (∀V:E,Calls prog 158 #[F tb] V λe w'=>e=H (S f)/\V=w'):=λV=>by rw[<- ef];exact Qz tb V
 rw[ef];clear ef F7 q hW hE bq;go_enter func138,ntmps138;go_wp2_with fail;refine HT.o.mono ?_;rintro e w3 ⟨au,rfl⟩;have it:Hd (w3.heap[w.heap.size]?=M (O #[F false,I 0,ze] 198 (0,0))):=Ab au HR.o;have d6:Hd (Bw w w3):=Ay HB.o au;obtain⟨z0,z1,z2,zf⟩:=Dx it.o;clear au HR HT x0 x1
 go_wp2_with (first|(go_at_call 158;refine(HF.o _).mono ?_;rintro e w4 ⟨rfl,rfl⟩))
 obtain⟨y0,y1,y2,_⟩:=Dx (Bp it.o (F tb) (I 0) ze);exact bR (v:=Y #[G #[F tb,I 0,ze],S f]) (by simp[results,results138,go_sem,y0,y1,y2]) rfl ⟨rfl,Gv d6.o (Nat.le_refl _) _ _ _⟩
theorem BS.set3{mb:X}{mk:L By}{r:Rv}(q:BS B h mb k C sv tv ss ts w ms mk st al av kv vs s r)(hb:w.heap[b]?=M (O #[u0,u1,u2] T (0,0)))(hT:TyO T)(v0 v1 v2:Z):BS B h mb k C sv tv ss ts (((w.setCell ⟨b,0,N⟩ v0).setCell ⟨b,1,N⟩ v1).setCell ⟨b,2,N⟩ v2) ms mk st al av kv vs s r:=by
 have h1:=q.set hb hT 0 v0;have b1:(w.setCell ⟨b,0,N⟩ v0).heap[b]?=_:=jB hb v0;have h2:=h1.set b1 hT 1 v1;have b2:((w.setCell ⟨b,0,N⟩ v0).setCell ⟨b,1,N⟩ v1).heap[b]?=_:=jB b1 v1;exact h2.set b2 hT 2 v2
theorem BS.set6{mb:X}{mk:L By}{r:Rv}(q:BS B h mb k C sv tv ss ts w ms mk st al av kv vs s r){u3 u4 u5:Z}(hb:w.heap[b]?=M (O #[u0,u1,u2,u3,u4,u5] T (0,0)))(hT:TyO T)(v0 v1 v2 v3 v4 v5:Z):BS B h mb k C sv tv ss ts ((((((w.setCell ⟨b,0,N⟩ v0).setCell ⟨b,1,N⟩ v1).setCell ⟨b,2,N⟩ v2).setCell ⟨b,3,N⟩ v3).setCell ⟨b,4,N⟩ v4).setCell ⟨b,5,N⟩ v5) ms mk st al av kv vs s r:=by
 have h1:=q.set hb hT 0 v0;have b1:(w.setCell ⟨b,0,N⟩ v0).heap[b]?=_:=jB hb v0;have h2:=h1.set b1 hT 1 v1;have b2:((w.setCell ⟨b,0,N⟩ v0).setCell ⟨b,1,N⟩ v1).heap[b]?=_:=jB b1 v1;have h3:=h2.set b2 hT 2 v2;have b3:(((w.setCell ⟨b,0,N⟩ v0).setCell ⟨b,1,N⟩ v1).setCell ⟨b,2,N⟩ v2).heap[b]?=_:=jB b2 v2;have h4:=h3.set b3 hT 3 v3;have b4:((((w.setCell ⟨b,0,N⟩ v0).setCell ⟨b,1,N⟩ v1).setCell ⟨b,2,N⟩ v2).setCell ⟨b,3,N⟩ v3).heap[b]?=_:=jB b3 v3;have h5:=h4.set b4 hT 4 v4;have b5:(((((w.setCell ⟨b,0,N⟩ v0).setCell ⟨b,1,N⟩ v1).setCell ⟨b,2,N⟩ v2).setCell ⟨b,3,N⟩ v3).setCell ⟨b,4,N⟩ v4).heap[b]?=_:=jB b4 v4;exact h5.set b5 hT 5 v5
theorem KQ.setX{mb:X}{r r':Rv}(K:KQ B h mb C av kv r r' w w1){u:Z}(hB:B<=b)(hn:w.heap.size<=b):KQ B h mb C av kv r r' w (w1.setCell ⟨b,j,N⟩ u):=
 ⟨K.bel.setCell (p:=⟨b,j,N⟩) hB _,λb' hl h1 h2 h3 h4 h5=>by rw[Dj w1 ⟨b,j,N⟩ _ b' (show b'≠b from qb)];exact K.keep b' hl h1 h2 h3 h4 h5,K.new,λg l cp cs e hb=>by
  obtain⟨M0,b1,c1⟩:=K.old g l cp cs e hb;exact⟨M0,by rw[Dj w1 ⟨b,j,N⟩ _ g (show g≠b by have:=Ag hb;omega)];exact b1,c1⟩,K.len⟩
theorem KQ.set3{mb:X}{r r':Rv}(K:KQ B h mb C av kv r r' w w1)(hB:B<=b)(hn:w.heap.size<=b)(v0 v1 v2:Z):KQ B h mb C av kv r r' w (((w1.setCell ⟨b,0,N⟩ v0).setCell ⟨b,1,N⟩ v1).setCell ⟨b,2,N⟩ v2):=((K.setX hB hn).setX hB hn).setX hB hn
theorem KQ.set6{mb:X}{r r':Rv}(K:KQ B h mb C av kv r r' w w1)(hB:B<=b)(hn:w.heap.size<=b)(v0 v1 v2 v3 v4 v5:Z):KQ B h mb C av kv r r' w ((((((w1.setCell ⟨b,0,N⟩ v0).setCell ⟨b,1,N⟩ v1).setCell ⟨b,2,N⟩ v2).setCell ⟨b,3,N⟩ v3).setCell ⟨b,4,N⟩ v4).setCell ⟨b,5,N⟩ v5):=(((((K.setX hB hn).setX hB hn).setX hB hn).setX hB hn).setX hB hn).setX hB hn
theorem Xp(W0:E)(h mb:X)(C:Ga)(sa ta:Option Addr)(c1 c2:X)(ss:L S2)(ts:L T2)(ms:Mm)(st:L By)(av kv:Z)(vs:By->Z)(s:Sb)(r:Rv)(nm:By)(w:E)(hE:He W0 sa ta ss ts)(q:Je W0.heap.size h mb C (J sa ss.length c1) (J ta ts.length c2) ss ts w ms st av kv vs s r)(hW:Bw W0 w)(hU:Gg W0 h mb C (J sa ss.length c1) (J ta ts.length c2) ss ts st)(hP:Ff ss ts C.n ms s st r.sn 0)(de:Ar nm):Calls prog 138 #[D (p_ h),S nm,F true] w λe w'=>Nm W0.heap.size h mb C (J sa ss.length c1) (J ta ts.length c2) ss ts ms s st av kv vs r nm (λd _=>lookV ss ts nm d) w e w':=by
 obtain⟨W,eW⟩:=Aj (w.alloc (O #[F false,I 0,ze] 198));have bq:Bw w W:=qaz;have hB:=hW.size
 have HR:Hd (W.heap[w.heap.size]?=M (O #[F false,I 0,ze] 198 (0,0))):=by
  exact qbo
 obtain⟨x0,x1,_⟩:=(q.mkr.bl bq).cells;have F7:=Qar sa ta c1 c2 ss ts nm W0 W hE (hW.trans (bq.mono hW.size));have HB:Hd (Bw w W):=bq;have HU:Hd (∀V,Bw w V->Calls prog 113 #[D (p_ h),S nm] V λe w'=>Nm W0.heap.size h mb C (J sa ss.length c1) (J ta ts.length c2) ss ts ms s st av kv vs r nm (λd vs'=>Fj d (vs' nm)) V e w'):=λV hV=>hU V ms nm av kv vs s r (q.bl hV) hP de (hW.trans (hV.mono hB));have HS:Hd (Je W0.heap.size h mb C (J sa ss.length c1) (J ta ts.length c2) ss ts w ms st av kv vs s r):=q;unfold Nm lookV;obtain⟨tb,etb⟩:=Aj (Ck ss ts nm);rw[etb]at F7 ⊢;have HT:Hd (Calls prog 157 #[G #[J sa ss.length c1,J ta ts.length c2],S nm] W λe w'=>Bw W w'/\e=H (F tb)):=F7;clear etb F7 q hW hE bq hU hP de;go_enter func138,ntmps138;go_wp2_with fail;refine HT.o.mono ?_;rintro e w3 ⟨au,rfl⟩;have it:Hd (w3.heap[w.heap.size]?=M (O #[F false,I 0,ze] 198 (0,0))):=Ab au HR.o;have d6:Hd (Bw w w3):=Ay HB.o au;have hlt3:w.heap.size<w3.heap.size:=Ag it.o;clear au HR HT x0 x1;go_wp2_with fail;refine(HU.o w3 d6.o).mono ?_;rintro e w4 ⟨ms',s',an,bu,⟨d,av',kv',vs',r',rfl,rfl,G7,ox,ha4,hkk4,mn⟩|⟨b,v,r',rfl,rfl,hf,ox⟩⟩
 ·have q3:=HS.o.bl d6.o
  have mx:w4.heap[w.heap.size]?=M (O #[F false,I 0,ze] 198 (0,0)):=ox.blk q3 it.o qd;have I1:Hd (KQ W0.heap.size h mb C av kv r r' w w4):=(KQ.of_below HS.o d6.o hB).trans (An.refl _ _) (An.refl _ _) q3 ox;have HRW:Hd (An w av av'/\An w kv kv'/\r'.sn+400200*Dh ts ms st<=r.sn+400200*Dh ts ms' st):=⟨λb q=>(ha4 b q).imp id (λq=>qb),λb q=>(hkk4 b q).imp id (λq=>qb),mn⟩;have Do:Hd (Ba ss ts C.n ms s st (.make nm) ms' s' (.ok d)):=bu;obtain⟨dc,dt,dls⟩:=d;obtain⟨fo,efo⟩:=Aj (Bj dc dt);have EF:Hd (Bj dc dt=fo):=efo;unfold Fj;simp only[efo];obtain⟨la,ln,lc,hlv⟩:=G7.mkr.vsl nm;rw[hlv];obtain⟨V,eV⟩:=Aj (w4.alloc (O #[F true,I dc,S dt,nS,S fo,J la ln lc] 156));obtain⟨U,eU⟩:=Aj V.drew;(have bn:Bw w4 U:=by rw[<- eU,<- eV];exact(Ai _ _).drew);have dw:Hd (Je W0.heap.size h mb C (J sa ss.length c1) (J ta ts.length c2) ss ts U ms' st av' kv' vs' s' r'):=G7.bl bn;have ks:Hd (KQ W0.heap.size h mb C av kv r r' w U):=I1.o.after HRW.o.1 HRW.o.2.1 G7 bn (zo I1.o.bel.size)
  have HMU:Hd (U.heap[w4.heap.size]?=M (O #[F true,I dc,S dt,nS,S fo,J la ln lc] 156 (0,0))):=by
   show _=_;rw[<- eU,<- eV];exact Bg _ _
  have mw:Hd (U.heap[w.heap.size]?=M (O #[F false,I 0,ze] 198 (0,0))):=Ab bn mx;obtain⟨⟨m0,m1,m2,m3,m4,m5⟩,mf⟩:=Sf HMU.o;obtain⟨z0,z1,z2,zf⟩:=Dx mw.o;have hne4:¬ w4.heap.size=w.heap.size:=zo (Ag mx);clear bn G7 ox mx ha4 hkk4 bu efo hlv I1 mn q3
  go_upto_region 5 with fail
  clear eV;go_region;clear eU;go_wp2_with fail;obtain⟨y0,y1,y2,_⟩:=Dx (Bp mw.o (F tb) (I dc) (S dt));refine bR (v:=Y #[G #[F tb,I dc,S dt],S (Bj dc dt)]) (by simp[results,results138,go_sem,y0,y1,y2,EF.o]) rfl ⟨ms',s',_,Do.o,Or.inl ⟨_,av',kv',vs',r',rfl,rfl,dw.o.set3 mw.o qd _ _ _,ks.o.set3 qb (Nat.le_refl _) _ _ _,HRW.o.1,HRW.o.2.1,HRW.o.2.2⟩⟩
 ·unfold Lh
  dsimp only;have q3:=HS.o.bl d6.o;have I1:Hd (KQ W0.heap.size h mb C av kv r r' w w4):=(KQ.of_below HS.o d6.o hB).trans (An.refl _ _) (An.refl _ _) q3 ox;have vr:Hd (Ba ss ts C.n ms s st (.make nm) ms' s' (.bad b)/\Df W0.heap.size C w4 b v):=⟨bu,hf⟩;clear ox bu hf q3;go_wp2_with fail;exact⟨rfl,ms',s',_,vr.o.1,Or.inr ⟨b,v,r',rfl,rfl,vr.o.2,I1.o⟩⟩
end Go.Proofs.YtoakjccojifagaaGreatDoor
