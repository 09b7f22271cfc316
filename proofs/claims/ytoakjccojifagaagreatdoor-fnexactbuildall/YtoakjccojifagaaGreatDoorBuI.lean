import Derived.Test.YtoakjccojifagaaGreatDoorBuC
namespace Go.Proofs.YtoakjccojifagaaGreatDoor
open _root_.Go.Proofs.Tryz Go.RowKit Go.Deep
open Value renaming slice->J,string->S,bool->F,pointer->D
open Option renaming some->M,none->N
open Obj renaming cells->O
open Go renaming Value->Z,World->E
open Ending renaming returned->H
open _root_ renaming List->L,Nat->X
set_option linter.unusedVariables false
set_option linter.unusedSimpArgs false
set_option maxHeartbeats 8000000
set_option maxRecDepth 100000
variable {B h b T n:X} {C:Ga} {ss:L S2} {ts:L T2} {w:E} {ms ms':Mm} {s s':Sb} {av kv:Z} {r:Rv} {st:L By} {y:Bool} {f x:By}
def TyB(T:TypeId):Prop:=T=153\/T=119\/T=124\/T=95\/T=4\/T=139\/T=136
section
variable {B h mb k:X} {C:Ga} {sv tv:Z} {ss:L S2} {ts:L T2} {w w':E} {ms:Mm} {mk st:L By} {al:X} {av kv:Z} {vs:By->Z} {s:Sb} {r:Rv}
theorem BS.kept(q:BS B h mb k C sv tv ss ts w ms mk st al av kv vs s r)(hc:∀(b:X)(cs:Array Z)(T:TypeId),TyB T->w.heap[b]?=M (O cs T (0,0))->w'.heap[b]?=M (O cs T (0,0)))(hm:w'.heap[mb]?=w.heap[mb]?)(hs:w'.heap[C.sb]?=w.heap[C.sb]?)(h9:∀(b:X)(cs:Array Z),(av.ownBlock=M b\/kv.ownBlock=M b\/Ky C r b)->w.heap[b]?=M (O cs 9 (0,0))->w'.heap[b]?=M (O cs 9 (0,0))):BS B h mb k C sv tv ss ts w' ms mk st al av kv vs s r:=by
 obtain⟨xs,e,ha⟩:=q.mkr.ask;refine⟨q.mkr.kept ?_,q.rs.kept ?_ (λb cs T hT hb=>hc b cs T (by rcases hT with e|e<;>simp[TyB,e]) hb)⟩
 ·rintro b (rfl|rfl|o|o)
  ·rw[q.mkr.blk];exact hc _ _ 153 (by simp[TyB]) q.mkr.blk
  ·exact hm
  ·obtain⟨cs,c1⟩:=Bd ha b o;rw[c1];exact h9 b cs (Or.inl o) c1
  ·obtain⟨cs,c1⟩:=Bd q.mkr.stk b o;rw[c1];exact h9 b cs (Or.inr (Or.inl o)) c1
 ·intro b o
  have o0:=o
  rcases o with rfl|rfl|rfl|⟨u,hu,o⟩
  ·rw[q.rs.bd];exact hc _ _ 119 (by simp[TyB]) q.rs.bd
  ·rw[q.rs.sh];exact hc _ _ 124 (by simp[TyB]) q.rs.sh
  ·exact hs
  ·obtain⟨_,cs,T,c1,c2⟩:=q.rs.rowT hu o
   rw[c1]
   rcases c2 with rfl|rfl|rfl
   ·exact h9 b cs (Or.inr (Or.inr o0)) c1
   ·exact hc b cs 95 (by simp[TyB]) c1
   ·exact hc b cs 4 (by simp[TyB]) c1
end
def Zg(r:Rv)(b:X):Prop:=∃u∈Od r,u.ownBlock=M b
theorem Lf.row9{mb:X}(k:Lf B h mb C ss ts w ms s av kv r){cs:Array Z}(hb:w.heap[b]?=M (O cs 9 (0,0)))(o:Ky C r b):Zg r b:=by
 obtain⟨f,f1,_⟩:=k.sn
 rcases o with rfl|rfl|rfl|o
 ·exact qmh
 ·exact qmg
 ·exact absurd hb (λq=>f1.notCells q)
 ·exact o
structure RB (W0:E) (h mb:X) (C:Ga) (sv tv cd:Z) (ss:L S2) (ts:L T2) (is:L I3) (w:E) (ms:Mm) (s:Sb) (st:L By) (av kv:Z) (r:Rv) (Bm m T AM R:X)
 (ys:L R3) (ls:L G3) (m1:Mm) (s1:Sb) (av1 kv1:Z) (vs1:By->Z) (r1:Rv) (lv:Z) (ov:Bool) (c:Int) (t:By) (ask:Bool) (nm:By) (stp:Int) (wr:E):Prop where
 ma:Je W0.heap.size h mb C sv tv ss ts wr m1 st av1 kv1 vs1 s1 r1
 pre:Ff ss ts C.n m1 s1 st r1.sn (200-ys.length)
 ln:ys.length<=200
 ro:Gj is ys ls
 lok:Mp ls
 dd:∀ms' s' a,Ba ss ts C.n m1 s1 st (.run is ys ls) ms' s' a->Ba ss ts C.n ms s st (.run is [] []) ms' s' a
 sn:r1.sn+400200*Dh ts ms st<=r.sn+400200*Dh ts m1 st
 gn:Gn is ys Bm m T cd ov c t ask nm stp wr
 tb:wr.heap[AM]?=M (O #[F ov,I c,S t,F ask,S nm,I stp] 194 (0,0))
 rb:wr.heap[R]?=M (O #[I 0,ze,nS] 121 (0,0))
 lo:wr.ownsRow w.heap.size 201 3 lv ls.length (Pb ls)
 kp:KQ W0.heap.size h mb C av kv r r1 w wr
 ra:An w av av1
 rk:An w kv kv1
 no:ov=false->∀b,(av1.ownBlock=M b\/kv1.ownBlock=M b\/Zg r1 b)->Fg wr m b
structure RCB (W0:E) (h mb:X) (C:Ga) (w:E) (Bm m T AM R:X):Prop where
 h1:W0.heap.size<=w.heap.size
 h2:h<w.heap.size
 h3:mb<w.heap.size
 h9:C.sb<w.heap.size
 h4:w.heap.size<=Bm
 h5:AM≠T
 h6:w.heap.size<=AM
 h7:w.heap.size<=R
 h8:AM≠m
section
variable {W0:E} {h mb:X} {C:Ga} {sv tv cd:Z} {ss:L S2} {ts:L T2} {is:L I3} {w:E} {ms:Mm} {s:Sb} {st:L By} {av kv:Z} {r:Rv} {Bm m T AM R:X}
 {ys:L R3} {ls:L G3} {m1:Mm} {s1:Sb} {av1 kv1:Z} {vs1:By->Z} {r1:Rv} {lv:Z} {ov:Bool} {c:Int} {t:By} {ask:Bool} {nm:By} {stp:Int} {wr:E}
theorem RB.bl{w':E}(q:RB W0 h mb C sv tv cd ss ts is w ms s st av kv r Bm m T AM R ys ls m1 s1 av1 kv1 vs1 r1 lv ov c t ask nm stp wr)(hb:Bw wr w')(hB:W0.heap.size<=wr.heap.size):RB W0 h mb C sv tv cd ss ts is w ms s st av kv r Bm m T AM R ys ls m1 s1 av1 kv1 vs1 r1 lv ov c t ask nm stp w':=
 ⟨q.ma.bl hb,q.pre,q.ln,q.ro,q.lok,q.dd,q.sn,q.gn.bl hb,Ab hb q.tb,Ab hb q.rb,Ac q.lo hb,q.kp.after q.ra q.rk q.ma hb hB,q.ra,q.rk,λe b o=>(q.no e b o).congr (hb.block m q.gn.2.2.2.1)⟩
theorem RB.looked{w':E}{av2 kv2:Z}{r2:Rv}(q:RB W0 h mb C sv tv cd ss ts is w ms s st av kv r Bm m T AM R ys ls m1 s1 av1 kv1 vs1 r1 lv false c t ask nm stp wr)(AJ:RCB W0 h mb C w Bm m T AM R)(hk:KQ W0.heap.size h mb C av1 kv1 r1 r2 wr w')(ha:An wr av1 av2)(km:An wr kv1 kv2):Gn is ys Bm m T cd false c t ask nm stp w'/\w'.heap[AM]?=M (O #[F false,I c,S t,F ask,S nm,I stp] 194 (0,0))/\w'.heap[R]?=M (O #[I 0,ze,nS] 121 (0,0))/\w'.ownsRow w.heap.size 201 3 lv ls.length (Pb ls)/\KQ W0.heap.size h mb C av kv r r2 w w'/\An w av av2/\An w kv kv2/\(∀b,(av2.ownBlock=M b\/kv2.ownBlock=M b\/Zg r2 b)->Fg w' m b):=by
 have cz:=hk.bel.size;have hsw:=q.kp.bel.size;obtain⟨n,_,hm⟩:=q.ma.mkr.map;obtain⟨kh,v,mcs,hmb,H7,gt⟩:=q.gn.mach;have keep:∀(b:X)(cs:Array Z)(T':TypeId),TyO T'->wr.heap[b]?=M (Obj.cells cs T' (0,0))->w'.heap[b]?=wr.heap[b]?:=λb cs T' k1 hb=>by rw[hk.blk q.ma hb k1,hb]
 have hmk:w'.heap[m]?=wr.heap[m]?:=keep m _ 237 qd hmb;have im:=q.no rfl
 have T0:∀b,v.ownBlock=M b->w'.heap[b]?=wr.heap[b]?:=λb o=>by
  obtain⟨q1,q2,cur,q3⟩:=gt b o;have:=AJ.h2;have:=AJ.h4;exact hk.keep b q2 qb (λe=>hm.notCells (e▸q3)) (λe=>im b (Or.inl e) v H7 o.symm) (λe=>im b (Or.inr (Or.inl e)) v H7 o.symm) (λe=>im b (Or.inr (Or.inr (q.ma.rs.row9 q3 e))) v H7 o.symm)
 have hc0':w'.cell? ⟨m,0,N⟩=M v:=by rw[Di hmk];exact H7
 refine⟨q.gn.kept (keep T _ 194 qd q.gn.1) hmk cz (λv' b e o=>?_),by rw[keep AM _ 194 qd q.tb];exact q.tb,by rw[keep R _ 121 qd q.rb];exact q.rb,Al q.lo (λb o=>?_),q.kp.trans q.ra q.rk q.ma hk,q.ra.trans hsw ha,q.rk.trans hsw km,λb o v' e e2=>?_⟩
 ·rw[H7]at e;cases e;exact T0 b o
 ·obtain⟨_,cur,hh⟩:=Dv q.lo o
  exact keep b _ 201 qd hh
 ·rw[hc0']at e;cases e
  have q3:=gt b e2.symm
  rcases o with o|o|o
  ·rcases ha b o with q1|q1
   ·exact im b (Or.inl q1) v H7 e2
   ·omega
  ·rcases km b o with q1|q1
   ·exact im b (Or.inr (Or.inl q1)) v H7 e2
   ·omega
  ·obtain⟨_,_,cur,q4⟩:=q3
   rcases hk.new b (Or.inr (Or.inr (Or.inr o)))with q1|q1
   ·exact im b (Or.inr (Or.inr (q.ma.rs.row9 q4 q1))) v H7 e2
   ·have:=Ag q4;omega
theorem RB.appd{w2:E}{o:Obj}{g cp:X}(AJ:RCB W0 h mb C w Bm m T AM R)(q:Je W0.heap.size h mb C sv tv ss ts wr m1 st av1 kv1 vs1 s1 r1)(gn:Gn is ys Bm m T cd ov c t ask nm stp wr)(lo:wr.ownsRow w.heap.size 201 3 lv ls.length (Pb ls))(kp:KQ W0.heap.size h mb C av kv r r1 w wr)(hg:(wr.alloc o).grownBy w2 lv.ownBlock)(hl:lv.ownBlock=M g\/g=wr.heap.size+1):Je W0.heap.size h mb C sv tv ss ts w2 m1 st av1 kv1 vs1 s1 r1/\Gn is ys Bm m T cd ov c t ask nm stp w2/\KQ W0.heap.size h mb C av kv r r1 w w2/\(∀(b:X)(cs:Array Z)(T':X),T'≠201->wr.heap[b]?=M (Obj.cells cs T' (0,0))->w2.heap[b]?=wr.heap[b]?):=by
 have wf:∀b,b<wr.heap.size->lv.ownBlock≠M b->w2.heap[b]?=wr.heap[b]?:=λb h1 h2=>by rw[hg.block b qh (λe=>h2 e.symm),Lib.alloc_old _ _ _ h1]
 have hsw:=kp.bel.size;have cz:wr.heap.size<=w2.heap.size:=by have:=hg.size;simp at this;omega
 have keep:∀(b:X)(cs:Array Z)(T':X),T'≠201->wr.heap[b]?=M (Obj.cells cs T' (0,0))->w2.heap[b]?=wr.heap[b]?:=λb cs T' k1 hb=>wf b (Ag hb) (Ae lo k1 hb);obtain⟨n,_,hm⟩:=q.mkr.map;obtain⟨f,f1,_⟩:=q.rs.sn;refine⟨q.kept (λb cs T' hT hb=>?_) (wf _ hm.lt (Ka lo hm)) (wf _ f1.lt (λe=>?_)) (λb cs _ hb=>?_),?_,⟨?_,?_,kp.new,?_,kp.len⟩,keep⟩
 ·rw[keep b cs T' (by rcases hT with e|e|e|e|e|e|e<;>rw[e]<;>decide) hb];exact hb
 ·obtain⟨_,cur,hh⟩:=Dv lo e
  exact f1.notCells hh
 ·rw[keep b cs 9 qd hb];exact hb
 ·refine⟨by rw[keep T _ 194 qd gn.1];exact gn.1,gn.2.1,gn.2.2.1,Nat.lt_of_lt_of_le gn.2.2.2.1 cz,gn.2.2.2.2.mono λss' pl' pu lk' hk=>hk.kept ?_ ?_⟩
  ·obtain⟨_,v,k1,_⟩:=hk
   unfold Fo at k1;exact keep m _ 237 qd k1
  ·intro v' b e q
   obtain⟨_,v,k1,k2⟩:=hk;unfold Fo at k1;rw[cH k1]at e;(have e':v'=v:=by simpa using e.symm);subst e';obtain⟨_,cur,hh⟩:=Dv k2 q;exact keep b _ 9 qd hh
 ·have h1:=AJ.h1
  refine kp.bel.trans (((Below.refl _ wr).alloc qb o).grown hg qh (λb q=>?_));have:=(lo.lt b q).1;omega
 ·intro b h1 h2 h3 h4 h5 h6
  rw[wf b qb (λe=>by have:=(lo.lt b e).1;omega)];exact kp.keep b h1 h2 h3 h4 h5 h6
 ·intro g l cp cs e hb
  obtain⟨M0,b1,c1⟩:=kp.old g l cp cs e hb;exact⟨M0,by rw[keep g M0 95 qd b1];exact b1,c1⟩
theorem RB.went{w6:E}{n:X}{xs:L Z}{v0 v1 v2 v3 v4 v5:Z}(AJ:RCB W0 h mb C w Bm m T AM R)(q:Je W0.heap.size h mb C sv tv ss ts wr m1 st av1 kv1 vs1 s1 r1)(kh:Bm<=m)(hBT:Bm<=T)(lo:wr.ownsRow w.heap.size 201 3 lv n xs)(tb:wr.heap[AM]?=M (O #[v0,v1,v2,v3,v4,v5] 194 (0,0)))(rb:wr.heap[R]?=M (O #[I 0,ze,nS] 121 (0,0)))(kp:KQ W0.heap.size h mb C av kv r r1 w wr)(no:∀b,(av1.ownBlock=M b\/kv1.ownBlock=M b\/Zg r1 b)->Fg wr m b)(hTt:∃cs,wr.heap[T]?=M (O cs 194 (0,0)))(hmt:∃cs,wr.heap[m]?=M (O cs 237 (0,0)))(hb:Below Bm wr w6)(hk:∀(b:X)(cs:Array Z)(X':X),X'≠9->b≠m->b≠T->wr.heap[b]?=M (Obj.cells cs X' (0,0))->w6.heap[b]?=M (O cs X' (0,0)))(ho:∀(b:X)(cs:Array Z)(X':X),b≠m->b≠T->Fg wr m b->wr.heap[b]?=M (Obj.cells cs X' (0,0))->w6.heap[b]?=M (O cs X' (0,0))/\Fg w6 m b):Je W0.heap.size h mb C sv tv ss ts w6 m1 st av1 kv1 vs1 s1 r1/\w6.ownsRow w.heap.size 201 3 lv n xs/\w6.heap[AM]?=M (O #[v0,v1,v2,v3,v4,v5] 194 (0,0))/\w6.heap[R]?=M (O #[I 0,ze,nS] 121 (0,0))/\KQ W0.heap.size h mb C av kv r r1 w w6/\(∀b,(av1.ownBlock=M b\/kv1.ownBlock=M b\/Zg r1 b)->Fg w6 m b):=by
 obtain⟨tcs,hTt⟩:=hTt;obtain⟨mcs,hmt⟩:=hmt;have c1:=AJ.h1;have c2:=AJ.h2;have c3:=AJ.h3;have c4:=AJ.h4;have c9:=AJ.h9
 have ty:∀(b:X)(cs cs':Array Z)(A A':X),A≠A'->wr.heap[b]?=M (Obj.cells cs A (0,0))->wr.heap[b]?≠M (Obj.cells cs' A' (0,0)):=λb cs cs' A A' hne q1 q2=>by
  rw[q1]at q2;injection q2 with q2;injection q2 with _ q2;exact hne q2
 have kT:∀(b:X)(cur:Array Z)(A:TypeId),A≠9->A≠237->A≠194->wr.heap[b]?=M (Obj.cells cur A (0,0))->w6.heap[b]?=M (O cur A (0,0)):=λb cur A n1 n2 n3 hh=>
  hk b cur A n1 (λe=>ty b _ _ A 237 n2 hh (e▸hmt)) (λe=>ty b _ _ A 194 n3 hh (e▸hTt)) hh
 have k9:∀(b:X)(cs:Array Z),(av1.ownBlock=M b\/kv1.ownBlock=M b\/Ky C r1 b)->wr.heap[b]?=M (O cs 9 (0,0))->w6.heap[b]?=M (O cs 9 (0,0)):=λb cs o hh=>
  (ho b cs 9 (λe=>ty b _ _ 9 237 qd hh (e▸hmt)) (λe=>ty b _ _ 9 194 qd hh (e▸hTt)) (no b (o.imp id (λo=>o.imp id (λo=>q.rs.row9 hh o)))) hh).1
 refine⟨q.kept (λb cs T' hT hh=>kT b cs T' (by rcases hT with e|e|e|e|e|e|e<;>rw[e]<;>decide) (by rcases hT with e|e|e|e|e|e|e<;>rw[e]<;>decide) (by rcases hT with e|e|e|e|e|e|e<;>rw[e]<;>decide) hh) (hb.block _ qb) (hb.block _ qb) k9,Al lo (λb o=>?_),hk AM _ 194 qd AJ.h8 AJ.h5 tb,kT R _ 121 qd qd qd rb,⟨kp.bel.trans (hb.mono qb),λb q1 q2 q3 q4 q5 q6=>?_,kp.new,λg l cp cs e hg=>?_,kp.len⟩,λb o=>?_⟩
 ·obtain⟨_,cur,hh⟩:=Dv lo o
  rw[kT b cur 201 qd qd qd hh,hh]
 ·rw[hb.block b qb]
  exact kp.keep b q1 q2 q3 q4 q5 q6
 ·obtain⟨M0,b1,d1⟩:=kp.old g l cp cs e hg
  exact⟨M0,kT g M0 95 qd qd qd b1,d1⟩
 ·have bu:∃cs T',wr.heap[b]?=M (Obj.cells cs T' (0,0)):=by
   obtain⟨ys,ey,ha⟩:=q.mkr.ask
   rcases o with o|o|⟨u,hu,o⟩
   ·obtain⟨cs,c1⟩:=Bd ha b o;exact⟨cs,_,c1⟩
   ·obtain⟨cs,c1⟩:=Bd q.mkr.stk b o;exact⟨cs,_,c1⟩
   ·obtain⟨_,cs,T',c1,_⟩:=q.rs.rowT hu o;exact⟨cs,T',c1⟩
  obtain⟨cs,T',bu⟩:=bu
  have hne:∀(A:TypeId)(cs':Array Z),TyO A->wr.heap[b]?≠M (Obj.cells cs' A (0,0)):=λA cs' hA hh=>by
   have q9:=q.noneA hh hA
   rcases o with o|o|o
   ·exact q9.2.2.1 o
   ·exact q9.2.2.2.1 o
   ·exact q9.2.2.2.2 (Or.inr (Or.inr (Or.inr o)))
  exact(ho b cs T' (λe=>hne 237 _ qd (e▸hmt)) (λe=>hne 194 _ qd (e▸hTt)) (no b o) bu).2
theorem RB.turned{u0 u1 u2 u3 u4 u5:Z}(AJ:RCB W0 h mb C w Bm m T AM R)(q:Je W0.heap.size h mb C sv tv ss ts wr m1 st av1 kv1 vs1 s1 r1)(hp:Ff ss ts C.n m1 s1 st r1.sn (200-ys.length))(Eq:ys.length<=200)(hr:Gj is ys ls)(uq:Mp ls)(hd:∀ms' s' a,Ba ss ts C.n m1 s1 st (.run is ys ls) ms' s' a->Ba ss ts C.n ms s st (.run is [] []) ms' s' a)(mn:r1.sn+400200*Dh ts ms st<=r.sn+400200*Dh ts m1 st)(gn:Gn is ys Bm m T cd ov c t ask nm stp wr)(tb:wr.heap[AM]?=M (O #[u0,u1,u2,u3,u4,u5] 194 (0,0)))(rb:wr.heap[R]?=M (O #[I 0,ze,nS] 121 (0,0)))(lo:wr.ownsRow w.heap.size 201 3 lv ls.length (Pb ls))(kp:KQ W0.heap.size h mb C av kv r r1 w wr)(ra:An w av av1)(rk:An w kv kv1)(no:∀b,(av1.ownBlock=M b\/kv1.ownBlock=M b\/Zg r1 b)->Fg wr m b):RB W0 h mb C sv tv cd ss ts is w ms s st av kv r Bm m T AM R ys ls m1 s1 av1 kv1 vs1 r1 lv ov c t ask nm stp ((((((wr.setCell ⟨AM,0,N⟩ (F ov)).setCell ⟨AM,1,N⟩ (I c)).setCell ⟨AM,2,N⟩ (S t)).setCell ⟨AM,3,N⟩ (F ask)).setCell ⟨AM,4,N⟩ (S nm)).setCell ⟨AM,5,N⟩ (I stp)):=by
 have c2:=AJ.h2;have c6:=AJ.h6;have c1:=AJ.h1;have ne:∀b',b'≠AM->((((((wr.setCell ⟨AM,0,N⟩ (F ov)).setCell ⟨AM,1,N⟩ (I c)).setCell ⟨AM,2,N⟩ (S t)).setCell ⟨AM,3,N⟩ (F ask)).setCell ⟨AM,4,N⟩ (S nm)).setCell ⟨AM,5,N⟩ (I stp)).heap[b']?=wr.heap[b']?:=λb' q=>Fi q _ _ _ _ _ _;refine⟨q.set6 tb qd _ _ _ _ _ _,hp,Eq,hr,uq,hd,mn,?_,Iq tb _ _ _ _ _ _,?_,Al lo (λb q=>ne b (λe=>Ae lo qd tb (e▸q))),kp.set6 qb c6 _ _ _ _ _ _,ra,rk,λ_ b q=>(no b q).congr (ne m (λe=>AJ.h8 e.symm))⟩
 ·refine⟨by rw[ne T (λe=>AJ.h5 e.symm)];exact gn.1,gn.2.1,gn.2.2.1,Nat.lt_of_lt_of_le gn.2.2.2.1 (Ik (Below.refl 0 wr) (Nat.zero_le _) _ _ _ _ _ _).size,gn.2.2.2.2.mono λss' pl' pu lk' hk=>hk.kept (ne m (λe=>AJ.h8 e.symm)) ?_⟩
  intro v' b e q;obtain⟨_,v,k1,k2⟩:=hk;unfold Fo at k1;rw[cH k1]at e;(have e':v'=v:=by simpa using e.symm);subst e';exact ne b (λe=>Ae k2 qd tb (e▸q))
 ·rw[ne R (λe=>by subst e;rw[tb]at rb;injection rb with rb;injection rb with _ rb;exact absurd rb qd)];exact rb
end
structure NB (W0:E) (h mb:X) (C:Ga) (sv tv cd:Z) (ss:L S2) (ts:L T2) (is:L I3) (w:E) (ms:Mm) (s:Sb) (st:L By) (av kv:Z) (r:Rv) (Bm m T AM R:X)
 (ys:L R3) (ls:L G3) (m1:Mm) (s1:Sb) (av1 kv1:Z) (vs1:By->Z) (r1:Rv) (lv:Z) (c:Int) (t:By) (ask:Bool) (nm:By) (stp:Int) (y y':R3) (f:By) (wr:E):Prop where
 ma:Je W0.heap.size h mb C sv tv ss ts wr m1 st av1 kv1 vs1 s1 r1
 pre:Ff ss ts C.n m1 s1 st r1.sn (200-(ys++[y']).length)
 ln:(ys++[y']).length<=200
 ro:Gj is (ys++[y']) (ls++[⟨nm,ask,f⟩])
 lok:Mp (ls++[⟨nm,ask,f⟩])
 dd:∀ms' s' a,Ba ss ts C.n m1 s1 st (.run is (ys++[y']) (ls++[⟨nm,ask,f⟩])) ms' s' a->Ba ss ts C.n ms s st (.run is [] []) ms' s' a
 sn:r1.sn+400200*Dh ts ms st<=r.sn+400200*Dh ts m1 st
 gn:Gn is ys Bm m T cd false c t ask nm stp wr
 tb:wr.heap[AM]?=M (O #[F false,I c,S t,F ask,S nm,I stp] 194 (0,0))
 rb:wr.heap[R]?=M (O #[I 0,ze,nS] 121 (0,0))
 lo:wr.ownsRow w.heap.size 201 3 lv ls.length (Pb ls)
 kp:KQ W0.heap.size h mb C av kv r r1 w wr
 ra:An w av av1
 rk:An w kv kv1
 no:∀b,(av1.ownBlock=M b\/kv1.ownBlock=M b\/Zg r1 b)->Fg wr m b
 yt:y.text.size<=2000
 yy:∀nm s,Eu ask nm y s=Eu ask nm y' s
theorem NB.bl{W0:E}{mb:X}{sv tv cd:Z}{is:L I3}{Bm m AM R:X}{ys:L R3}{ls:L G3}{m1:Mm}{s1:Sb}{av1 kv1:Z}{vs1:By->Z}{r1:Rv}{lv:Z}{c:Int}{t:By}{ask:Bool}{nm:By}{stp:Int}{y y':R3}{wr w':E}(q:NB W0 h mb C sv tv cd ss ts is w ms s st av kv r Bm m T AM R ys ls m1 s1 av1 kv1 vs1 r1 lv c t ask nm stp y y' f wr)(hb:Bw wr w')(hB:W0.heap.size<=wr.heap.size):NB W0 h mb C sv tv cd ss ts is w ms s st av kv r Bm m T AM R ys ls m1 s1 av1 kv1 vs1 r1 lv c t ask nm stp y y' f w':=
 ⟨q.ma.bl hb,q.pre,q.ln,q.ro,q.lok,q.dd,q.sn,q.gn.bl hb,Ab hb q.tb,Ab hb q.rb,Ac q.lo hb,q.kp.after q.ra q.rk q.ma hb hB,q.ra,q.rk,λb o=>(q.no b o).congr (hb.block m q.gn.2.2.2.1),q.yt,q.yy⟩
theorem lookB_any(W0:E)(h mb:X)(C:Ga)(sa ta:Option Addr)(c1 c2:X)(cd:Z)(ss:L S2)(ts:L T2)(is:L I3)(w:E)(ms:Mm)(s:Sb)(st:L By)(av kv:Z)(r:Rv)(Bm m T AM R:X)(ys:L R3)(ls:L G3)(m1:Mm)(s1:Sb)(av1 kv1:Z)(vs1:By->Z)(r1:Rv)(lv:Z)(c:Int)(t:By)(ask:Bool)(nm:By)(stp:Int)(wr:E)(hE:He W0 sa ta ss ts)(hU:Gg W0 h mb C (J sa ss.length c1) (J ta ts.length c2) ss ts st)(hW:Bw W0 wr)(AJ:RCB W0 h mb C w Bm m T AM R)(q:RB W0 h mb C (J sa ss.length c1) (J ta ts.length c2) cd ss ts is w ms s st av kv r Bm m T AM R ys ls m1 s1 av1 kv1 vs1 r1 lv false c t ask nm stp wr):Calls prog 138 #[D (p_ h),S nm,F ask] wr λe w'=>(∃m2 s2 av2 kv2 vs2 r2 y y' f,e=H (.tuple #[.agg #[F y.has,I y.code,S y.text],S f])/\NB W0 h mb C (J sa ss.length c1) (J ta ts.length c2) cd ss ts is w ms s st av kv r Bm m T AM R ys ls m2 s2 av2 kv2 vs2 r2 lv c t ask nm stp y y' f w')\/(∃b v r' ms' s',e=Lh v/\KQ W0.heap.size h mb C av kv r r' w w'/\Ba ss ts C.n ms s st (.run is [] []) ms' s' (.bad b)/\Df W0.heap.size C w' b v):=by
 obtain⟨n,jg⟩:∃n,Ci is ys Mh (.wait ask nm n):=by
  rcases q.gn.2.2.2.2.full with⟨o,_⟩|⟨_,n,o⟩
  ·cases o
  ·exact⟨n,o⟩
 obtain⟨aj,de⟩:=q.ro.wait jg;have hB:=hW.size
 cases ask with
 | false=>
   refine(Xo W0 h mb 0 C sa ta c1 c2 ss ts m1 st st (m1.length+st.length) av1 kv1 vs1 s1 r1 nm wr hE q.ma hW).mono ?_;rintro e w' ⟨rfl,hb⟩;have q':=q.bl hb hB;exact Or.inl ⟨m1,s1,av1,kv1,vs1,r1,⟨Ck ss ts nm,0,⟨#[]⟩⟩,⟨Ck ss ts nm,0,⟨#[]⟩⟩,Cq (Ck ss ts nm),rfl,q'.ma,q.pre.le qh,qh,q.ro.has _ _,q.lok.snoc de (Ih _),λms' s' a k=>q.dd _ _ _ (.has jg k),q.sn,q'.gn,q'.tb,q'.rb,q'.lo,q'.kp,q'.ra,q'.rk,q'.no rfl,(by decide:(⟨#[]⟩:By).size<=2000),λ_ _=>rfl⟩
 | true=>
   refine(Xp W0 h mb C sa ta c1 c2 ss ts m1 st av1 kv1 vs1 s1 r1 nm wr hE q.ma hW hU (q.pre.le qb) de).mono ?_;rintro e w' ⟨ms',s',an,bu,⟨d,av',kv',vs',r',rfl,rfl,hs,hk,ha,km,mn⟩|⟨b,v,r',rfl,rfl,hf,hk⟩⟩
   ·obtain⟨g1,g2,g3,g4,g5,g6,g7,g8⟩:=q.looked AJ hk ha km
    obtain⟨hi2,_,_,hfd⟩:=bu.inv hE.v q.pre.inv q.pre.ok de (λb e=>qt);have P2:=hi2.done nm d hfd;have hps:=q.pre.step hE.v bu de (λb e=>qt) rfl (d:=1) (by simp[Pe]) qb (by omega:r'.sn+400200*Dh ts m1 st<=r1.sn+1+400200*Dh ts ms' st);refine Or.inl ⟨ms',s',av',kv',vs',r',⟨Ck ss ts nm,d.c,d.t⟩,Wh ss ts nm d,Bj d.c d.t,rfl,hs,hps.le qh,qh,q.ro.asked P2 _,q.lok.snoc de (Dt P2.t2),λms'' s'' a k=>q.dd _ _ _ (.asked jg bu k),by have:=q.sn;omega,g1,g2,g3,g4,g5,g6,g7,g8,P2.t2,?_⟩;intro nm' s;unfold Wh Eu
    cases Ck ss ts nm<;>simp
   ·exact Or.inr ⟨b,v,r',ms',s',rfl,q.kp.trans q.ra q.rk q.ma hk,q.dd _ _ _ (.askbad jg bu),hf⟩
def Vi(ss:L S2)(ts:L T2)(n:X)(st:L By)(ms:Mm)(s:Sb)(x:By)(y:Bool)(ms':Mm)(s':Sb)(f:By):Prop:=
 (y=false/\ms'=ms/\s'=s/\f=Cq (Ck ss ts x))\/(y=true/\∃d,Ba ss ts n ms s st (.make x) ms' s' (.ok d)/\f=Bj d.c d.t)
theorem Vi.said(hv:SpV ss ts)(h:Vi ss ts n st ms s x y ms' s' f)(hi:Fy ss ts ms st)(hs:Gi n s)(hn:Ar x):Jm ss ts ms' x y=M f/\Ext ms ms'/\f.size<=2002:=by
 rcases h with⟨rfl,rfl,rfl,rfl⟩|⟨rfl,d,hb,rfl⟩
 ·exact⟨rfl,Ext.refl _,Ih _⟩
 ·obtain⟨k1,k2,k3,k4⟩:=hb.inv hv hi hs hn (λb e=>qt)
  refine⟨?_,k3.ex,Dt (k1.done x d k4).t2⟩;unfold Jm;rw[if_pos rfl,show fd ms' x=M d from k4];rfl
theorem Vi.of_said(h:Jm ss ts ms x y=M f):Vi ss ts n st ms s x y ms s f:=by
 unfold Jm at h
 cases y with
 | false=>simp only[Bool.false_eq_true,if_false,Option.some.injEq]at h;exact Or.inl ⟨rfl,rfl,rfl,h.symm⟩
 | true=>
   simp only[if_true]at h
   cases hf:fd ms x with
   | none=>rw[hf]at h;cases h
   | some d=>
     rw[hf]at h;simp only[Option.map_some,Option.some.injEq]at h;exact Or.inr ⟨rfl,d,.known hf,h.symm⟩
theorem Vi.pre{sn sn' c:X}(hv:SpV ss ts)(h:Vi ss ts n st ms s x y ms' s' f)(hp:Ff ss ts n ms s st sn c)(hn:Ar x)(hc:1<=c)(mn:sn'+400200*Dh ts ms st<=sn+1+400200*Dh ts ms' st):Ff ss ts n ms' s' st sn' (c-1):=by
 rcases h with⟨rfl,rfl,rfl,rfl⟩|⟨rfl,d,hb,rfl⟩
 ·have h1:=hp.ml
  have h2:=hp.sl;exact⟨hp.inv,hp.ok,qb,hp.cn,qb⟩
 ·exact hp.step hv hb hn (λb e=>qt) rfl (by simp[Pe]) hc mn
def SeeB(B h mb:X)(C:Ga)(sv tv:Z)(ss:L S2)(ts:L T2)(ms:Mm)(s:Sb)(st:L By)(av kv:Z)(r:Rv)(x:By)(y:Bool)(dn:X)(rt:By->Z->Prop)(w:E)(e:Ending)(w':E):Prop:=
 (∃v,e=H v/\∃ms' s' f av' kv' vs' r',rt f v/\Vi ss ts C.n st ms s x y ms' s' f/\Je B h mb C sv tv ss ts w' ms' st av' kv' vs' s' r'/\KQ B h mb C av kv r r' w w'/\An w av av'/\An w kv kv'/\r'.sn+400200*Dh ts ms st<=r.sn+dn+400200*Dh ts ms' st)\/
 (∃v,e=Lh v/\∃b r' ms' s',KQ B h mb C av kv r r' w w'/\(y=true/\Ba ss ts C.n ms s st (.make x) ms' s' (.bad b))/\Df B C w' b v)
theorem lookB_see(W0:E)(h mb:X)(C:Ga)(sa ta:Option Addr)(c1 c2:X)(ss:L S2)(ts:L T2)(ms:Mm)(st:L By)(av kv:Z)(vs:By->Z)(s:Sb)(r:Rv)(x:By)(y:Bool)(w:E)(hE:He W0 sa ta ss ts)(q:Je W0.heap.size h mb C (J sa ss.length c1) (J ta ts.length c2) ss ts w ms st av kv vs s r)(hW:Bw W0 w)(hU:Gg W0 h mb C (J sa ss.length c1) (J ta ts.length c2) ss ts st)(hP:Ff ss ts C.n ms s st r.sn 0)(de:Ar x):Calls prog 138 #[D (p_ h),S x,F y] w λe w'=>SeeB W0.heap.size h mb C (J sa ss.length c1) (J ta ts.length c2) ss ts ms s st av kv r x y 0 (λf v=>∃b c t,v=.tuple #[.agg #[F b,I c,S t],S f]) w e w':=by
 cases y with
 | false=>
   refine(Xo W0 h mb 0 C sa ta c1 c2 ss ts ms st st (ms.length+st.length) av kv vs s r x w hE q hW).mono ?_;rintro e w' ⟨rfl,hb⟩;exact Or.inl ⟨_,rfl,ms,s,_,av,kv,vs,r,⟨_,_,_,rfl⟩,Or.inl ⟨rfl,rfl,rfl,rfl⟩,q.bl hb,KQ.of_below q hb hW.size,An.refl _ _,An.refl _ _,Nat.le_refl _⟩
 | true=>
   refine(Xp W0 h mb C sa ta c1 c2 ss ts ms st av kv vs s r x w hE q hW hU hP de).mono ?_;rintro e w' ⟨ms',s',an,bu,⟨d,av',kv',vs',r',rfl,rfl,hs,hk,ha,km,mn⟩|⟨b,v,r',rfl,rfl,hf,hk⟩⟩
   ·exact Or.inl ⟨_,rfl,ms',s',_,av',kv',vs',r',⟨_,_,_,rfl⟩,Or.inr ⟨rfl,d,bu,rfl⟩,hs,hk,ha,km,mn⟩
   ·exact Or.inr ⟨v,rfl,b,r',ms',s',hk,⟨rfl,bu⟩,hf⟩
theorem Qaw{f:X}{xi yi zi:X}{t1 t2 t3:TypeId}{W:E}{ops:Array Oper}{o:Oper}{a:Act}{K:Act->E->Prop}{Q:Exit->Act->E->Prop}{AF:Prop}(ru:o.guard=N)(ho:o.op=.call { callee:=.value (.func f),args:=#[.tmp xi,.tmp yi,.tmp zi],argTypes:=#[t1,t2,t3] })(v1 v2 v3:Z)(hx:a.eval (.tmp xi)=v1)(hy:a.eval (.tmp yi)=v2)(hz:a.eval (.tmp zi)=v3){P R:Z->E->Prop}(hc:Calls prog f #[v1,v2,v3] W λe w'=>(∃v,e=H v/\P v w')\/(∃v,e=Lh v/\R v w'))(hfn:∀W:E,(callFunc f #[v1,v2,v3]).run prog W=.ok (.enter f #[v1,v2,v3]) W)(h:∀v w',P v w'->K (a.put o.dst v) w')(hp:∀v w',R v w'->Q (.panic [{ v:=.iface 182 v,recovered:=false }]) a w'):if Region.wanted o (yielded ops a.tmps)=true then Oper.wp prog o a W K Q else AF:=by
 have hw:Region.wanted o (yielded ops a.tmps)=true:=qbh
 have ku:(execOp a.eval o).run prog W=.ok (.enter f #[v1,v2,v3]) W:=by
  unfold execOp;rw[ho];simp[Act.eval]at hx hy hz;simp[go_sem,Act.eval,hx,hy,hz];exact hfn W
 rw[if_pos hw];unfold Oper.wp;rw[ku,Oper.upon_enter];refine hc.mono ?_;rintro e w' (⟨v,rfl,hq⟩|⟨v,rfl,hq⟩)
 ·exact h v w' hq
 ·exact hp v w' hq
section
variable {B h mb k:X} {C:Ga} {sv tv:Z} {ss:L S2} {ts:L T2} {w w':E} {ms:Mm} {mk st:L By} {al:X} {av kv:Z} {vs:By->Z} {s s':Sb} {r r':Rv}
theorem BS.upd(q:BS B h mb k C sv tv ss ts w ms mk st al av kv vs s r)(hb:Below B w w')(hk:∀b,b<w.heap.size->¬ Ky C r b->w'.heap[b]?=w.heap[b]?)(rs:Lf B h mb C ss ts w' ms s' av kv r')(hn:∀b,Ky C r' b->Ky C r b\/w.heap.size<=b)(ho:Lo r.qv w w')(hl:slen r.qv<=slen r'.qv):BS B h mb k C sv tv ss ts w' ms mk st al av kv vs s' r'/\KQ B h mb C av kv r r' w w':=
 ⟨⟨q.mkr.kr q.rs hk,rs⟩,⟨hb,λb hl _ _ _ _ h5=>hk b hl h5,hn,ho,hl⟩⟩
open Classical in
theorem BS.seen(q:BS B h mb k C sv tv ss ts w ms mk st al av kv vs s r)(hB:B<=w.heap.size){x f:By}{y:Bool}{g:By->Bool->Option ByteArray}(hg:Pi ss ts C.n ms g)(hs:Jm ss ts ms x y=M f)(hm:Kj w' C.sb (r.sn+1) (λx' y'=>if x'=x/\y'=y then M (Aq C.n f) else g x' y'))(hw:w.grownBy w' (M C.sb)):BS B h mb k C sv tv ss ts w' ms mk st al av kv vs s ⟨r.tx,r.su,r.qv,r.nv,r.ev,r.uv,r.dv,r.sn+1⟩/\KQ B h mb C av kv r ⟨r.tx,r.su,r.qv,r.nv,r.ev,r.uv,r.dv,r.sn+1⟩ w w':=by
 obtain⟨f0,m0,m1⟩:=q.rs.sn
 have hsb:∀b cs T,w.heap[b]?=M (Obj.cells cs T (0,0))->w'.heap[b]?=M (Obj.cells cs T (0,0)):=λb cs T hb=>by
  rw[hw.block b (Ag hb) (λe=>by injection e with e;subst e;exact m0.notCells hb)];exact hb
 have kk:∀ {e sz n:X} {u:Z} {ys:L Z},w.ownsRow B e sz u n ys->w'.ownsRow B e sz u n ys:=λho=>Al ho λb o=>by
  obtain⟨cs,c1⟩:=Bd ho b o;rw[c1];exact hsb b cs _ c1
 obtain⟨xs,u1⟩:=q.rs.us;obtain⟨ys,d1,d2⟩:=q.rs.df;refine q.upd ((Below.refl B w).grown hw hB (λb e=>by injection e with e;subst e;exact q.rs.lb.2.2.1)) (λb hb ho=>hw.block b hb (λe=>ho (Or.inr (Or.inr (Or.inl qat))))) ?_ (λb o=>Or.inl o) (Lo.same λb o=>?_) (Nat.le_refl _)
 ·refine⟨q.rs.lb,q.rs.wd,hsb _ _ _ q.rs.bd,hsb _ _ _ q.rs.sh,⟨_,hm,?_⟩,kk q.rs.tx,kk q.rs.su,q.rs.qs.kept (λb o=>?_) (λb cs T _ hb=>hsb b cs T hb),kk q.rs.ran,kk q.rs.held,⟨xs,kk u1⟩,⟨ys,kk d1,d2⟩,q.rs.ud,q.rs.ap⟩
  ·intro x' y' v e
   dsimp only at e
   by_cases hxy:x'=x/\y'=y
   ·rw[if_pos hxy]at e
    obtain⟨rfl,rfl⟩:=hxy;cases e;exact⟨f,hs,rfl⟩
   ·rw[if_neg hxy]at e
    exact hg x' y' v e
  ·exact qlm
 ·exact qlm
end
theorem La{v1 v2:Z}(h:w.heap[b]?=M (O #[v1,v2] T (0,0))):w.cell? ⟨b,0,N⟩=M v1/\w.cell? ⟨b,1,N⟩=M v2/\∀j,w.frozen? ⟨b,j,N⟩=false:=by
 refine⟨?_,?_,λj=>fH h j⟩<;>rw[cH h]<;>rfl
theorem Lf.cellsB{mb:X}(k:Lf B h mb C ss ts w ms s av kv r):w.cell? ⟨C.hb,0,N⟩=M (D (p_ C.hs))/\w.cell? ⟨C.hb,1,N⟩=M r.nv/\w.cell? ⟨C.hb,2,N⟩=M r.ev/\w.cell? ⟨C.hb,3,N⟩=M r.uv/\w.cell? ⟨C.hb,10,N⟩=M (D (p_ h))/\w.cell? ⟨C.hb,11,N⟩=M (.map (M C.sb))/\w.cell? ⟨C.hb,12,N⟩=M r.dv/\(∀j,w.frozen? ⟨C.hb,j,N⟩=false)/\w.cell? ⟨C.hs,0,N⟩=M (I C.n)/\w.cell? ⟨C.hs,1,N⟩=M r.tx/\w.cell? ⟨C.hs,2,N⟩=M r.qv/\w.cell? ⟨C.hs,3,N⟩=M r.su/\∀j,w.frozen? ⟨C.hs,j,N⟩=false:=by
 refine⟨?_,?_,?_,?_,?_,?_,?_,λj=>fH k.bd j,?_,?_,?_,?_,λj=>fH k.sh j⟩
 all_goals first|(rw[cH k.bd];rfl)|(rw[cH k.sh];rfl)
end Go.Proofs.YtoakjccojifagaaGreatDoor
