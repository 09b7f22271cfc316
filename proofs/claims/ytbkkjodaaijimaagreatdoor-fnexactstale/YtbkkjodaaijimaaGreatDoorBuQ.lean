import Derived.Test.YtbkkjodaaijimaaGreatDoorBsY
import Derived.Test.YtbkkjodaaijimaaGreatDoorBuI
namespace Go.Proofs.YtbkkjodaaijimaaGreatDoor
open Value renaming slice->J,string->S,agg->G,pointer->D,tuple->Y
open Option renaming some->M,none->N
open Obj renaming cells->O
open Go renaming Value->Z,World->E
open Ending renaming returned->H
open _root_ renaming List->L,Nat->X
set_option maxHeartbeats 8000000
set_option maxRecDepth 100000
open _root_.Go.Proofs.Tryz Go.RowKit Go.Deep
set_option linter.unusedVariables false
set_option linter.unusedSimpArgs false
variable {w w' w2 w3 W w1:E} {g lo hi n j g3 l3 c3 B:X} {sv tv qv:Z} {ss ts ts':L By} {x:By} {xs:L Z} {ops:Array Oper} {a:Act} {Q:Exit->Act->E->Prop}
structure Li (w:E) (g lo hi n:X) (sv tv qv:Z) (ss ts:L By):Prop where
 blk:w.heap[g]?=M (O #[I (n:Int),tv,qv,sv] 171 (0,0))
 sx:Cp w lo hi sv ss
 tx:Cp w lo hi tv ts
 qs:∃a l c,qv=J a l c
 ne:∀b,sv.ownBlock=M b→tv.ownBlock≠M b
theorem Li.bl(h:Li w g lo hi n sv tv qv ss ts)(hb:Bw w w'):Li w' g lo hi n sv tv qv ss ts:=⟨Af h.blk hb,h.sx.bl hb,h.tx.bl hb,h.qs,h.ne⟩
theorem Li.wide{lo' hi':X}(h:Li w g lo hi n sv tv qv ss ts)(h1:lo'≤lo)(h2:hi≤hi'):Li w g lo' hi' n sv tv qv ss ts:=⟨h.blk,h.sx.wide h1 h2,h.tx.wide h1 h2,h.qs,h.ne⟩
theorem Li.lt(h:Li w g lo hi n sv tv qv ss ts):g<w.heap.size:=El h.blk
theorem Li.setT{b T:X}(h:Li w g lo hi n sv tv qv ss ts)(ht:Cv w b T)(hg:b≠g)(h9:T≠9)(h1:T≠94)(h2:T≠143)(h3:T≠145)(u:Z):Li (w.setCell ⟨b,j,N⟩ u) g lo hi n sv tv qv ss ts:=
 ⟨by rw[hC w ⟨b,j,N⟩ u g (by show g≠b;omega)];exact h.blk,h.sx.setT ht h9 u,h.tx.setT ht h9 u,h.qs,h.ne⟩
theorem Li.insS{I2:L By}(h:Li w g lo hi n sv tv qv ss ts)(hh:hi≤w.heap.size)(hb:Bw w w2)(hl:l3=I2.length)(ho:w3.ownsRow lo 9 1 (J (p_ g3) l3 c3) l3 (I2.map .string))(hk:Dc sv.ownBlock w2 w3)(hs:w2.heap.size≤w3.heap.size)(ci:sv.ownBlock=M g3∨g3=w2.heap.size):Li (w3.setCell ⟨g,3,N⟩ (J (p_ g3) l3 c3)) g lo w3.heap.size n (J (p_ g3) l3 c3) tv qv I2 ts:=by
 subst hl;have h2:=h.bl hb;have kh:=hb.size;have aj:=h2.lt;have os:=Bg.own h2.sx;have ot:=Bg.own h2.tx
 have kg:w3.heap[g]?=M (O #[I (n:Int),tv,qv,sv] 171 (0,0)):=by
  exact qmd
 have ht:Cv w3 g 171:=⟨_,kg⟩;have t3:Cp w3 lo w3.heap.size tv ts:=Cp.wide (Bg.same h2.tx λb e=>hk b (ot.lt b e).2 (λe'=>h.ne b e'.symm e)) (Nat.le_refl _) qb;have s3:Cp w3 lo w3.heap.size (J (p_ g3) I2.length c3) I2:=Bg.new ho;refine⟨blk4_s3 kg _,s3.setT ht qd _,t3.setT ht qd _,h.qs,?_⟩;exact qjv
theorem Li.insT(h:Li w g lo hi n sv tv qv ss ts)(hh:hi≤w.heap.size)(hb:Bw w w2)(hl:l3=ts'.length)(ho:w3.ownsRow lo 9 1 (J (p_ g3) l3 c3) l3 (ts'.map .string))(hk:Dc tv.ownBlock w2 w3)(hs:w2.heap.size≤w3.heap.size)(ci:tv.ownBlock=M g3∨g3=w2.heap.size):Li (w3.setCell ⟨g,1,N⟩ (J (p_ g3) l3 c3)) g lo w3.heap.size n sv (J (p_ g3) l3 c3) qv ss ts':=by
 subst hl;have h2:=h.bl hb;have kh:=hb.size;have aj:=h2.lt;have os:=Bg.own h2.sx;have ot:=Bg.own h2.tx
 have kg:w3.heap[g]?=M (O #[I (n:Int),tv,qv,sv] 171 (0,0)):=by
  exact qmc
 have ht:Cv w3 g 171:=⟨_,kg⟩;have s3:Cp w3 lo w3.heap.size sv ss:=Cp.wide (Bg.same h2.sx λb e=>hk b (os.lt b e).2 (λe'=>h.ne b e e'.symm)) (Nat.le_refl _) qb;have t3:Cp w3 lo w3.heap.size (J (p_ g3) ts'.length c3) ts':=Bg.new ho;refine⟨blk4_s1 kg _,s3.setT ht qd _,t3.setT ht qd _,h.qs,?_⟩;exact qjw
theorem Li.set6T{R:X}(h:Li w g lo hi n sv tv qv ss ts)(ht:Cv w R 164)(hg:R≠g)(u1 u2 u3 u4 u5 u6:Z):Li ((((((w.setCell ⟨R,0,N⟩ u1).setCell ⟨R,1,N⟩ u2).setCell ⟨R,2,N⟩ u3).setCell ⟨R,3,N⟩ u4).setCell ⟨R,4,N⟩ u5).setCell ⟨R,5,N⟩ u6) g lo hi n sv tv qv ss ts:=
 (((((h.setT ht hg qd qd qd qd u1).setT (ht.set u1) hg qd qd qd qd u2).setT ((ht.set u1).set u2) hg qd qd qd qd u3).setT (((ht.set u1).set u2).set u3) hg qd qd qd qd u4).setT ((((ht.set u1).set u2).set u3).set u4) hg qd qd qd qd u5).setT (((((ht.set u1).set u2).set u3).set u4).set u5) hg qd qd qd qd u6

def Uq(w w':E)(g:X)(tv sv:Z):Prop:=∀b,b<w.heap.size→b≠g→sv.ownBlock≠M b→tv.ownBlock≠M b→w'.heap[b]?=w.heap[b]?
def Ro(w:E)(g lo n:X)(sv tv qv:Z)(ts:L By)(x:By)(e:Ending)(w':E):Prop:=
 ∃r cd ts' A B I1 I0,e=H (G #[I cd,I 0,nS,nS,S A,S B])∧Rp n ts (Av n x) r∧Iv n ts x r cd ts' A B∧Below lo w w'∧Li w' g lo w'.heap.size n I1 I0 qv (ts'.map (Av n)) ts'∧Uq w w' g tv sv∧(∀b,I1.ownBlock=M b→sv.ownBlock=M b∨w.heap.size≤b)∧(∀b,I0.ownBlock=M b→tv.ownBlock=M b∨w.heap.size≤b)
theorem Ro.mk{r:X}{I1 I0:Z}{A B:By}{cd:Int}(sq:lo≤w.heap.size)(hB:Below lo w w')(hR:Cv w' w.heap.size 164)(hp:Rp n ts (Av n x) r)(hr:Iv n ts x r cd ts' A B)(hg:g<w.heap.size)(cw:Li w' g lo w'.heap.size n I1 I0 qv (ts'.map (Av n)) ts')(hk:Uq w w' g tv sv)(hs:∀b,I1.ownBlock=M b→sv.ownBlock=M b∨w.heap.size≤b)(ht:∀b,I0.ownBlock=M b→tv.ownBlock=M b∨w.heap.size≤b)(u1 u2 u3 u4 u5 u6:Z):Ro w g lo n sv tv qv ts x (H (G #[I cd,I 0,nS,nS,S A,S B])) ((((((w'.setCell ⟨w.heap.size,0,N⟩ u1).setCell ⟨w.heap.size,1,N⟩ u2).setCell ⟨w.heap.size,2,N⟩ u3).setCell ⟨w.heap.size,3,N⟩ u4).setCell ⟨w.heap.size,4,N⟩ u5).setCell ⟨w.heap.size,5,N⟩ u6):=
 ⟨r,cd,ts',A,B,I1,I0,rfl,hp,hr,It hB sq _ _ _ _ _ _,Li.wide (Li.set6T cw hR qb u1 u2 u3 u4 u5 u6) (Nat.le_refl _) qg,λb h1 h2 h3 h4=>by rw[Er qb];exact hk b h1 h2 h3 h4,hs,ht⟩
theorem put_b(g lo hi n:X)(ta:Option Addr)(p1:X)(sv qv:Z)(ts:L By)(x:By)(w:E)(h1:1≤n)(h8:n≤8)(hx:x.size≤1048576)(hl:ts.length≤5000)(eg:Fs (ts.map (Av n)))(hlg:lo≤g)(hh:hi≤w.heap.size)(cw:Li w g lo hi n sv (J ta ts.length p1) qv (ts.map (Av n)) ts):Calls prog 180 #[D (p_ g),S x] w λe w'=>Ro w g lo n sv (J ta ts.length p1) qv ts x e w':=by
 obtain⟨sa,sc,esv,hss⟩:=Cp.sl cw.sx;rw[List.length_map]at esv;subst esv;obtain⟨qa,ql,qc,rfl⟩:=cw.qs;have hgl:g<w.heap.size:=Li.lt cw;have sq:lo≤w.heap.size:=qb;obtain⟨W,eW⟩:=Aj (w.alloc (O #[I 0,I 0,nS,nS,ze,ze] 164));have ak:Bw w W:=qfu;have HK:Hd (W.heap[w.heap.size]?=M (O #[I 0,I 0,nS,nS,ze,ze] 164 (0,0))):=by show _=_;rw[←eW];exact Ch _ _
 have K3:Hd (Li w g lo hi n (J sa ts.length sc) (J ta ts.length p1) (J qa ql qc) (ts.map (Av n)) ts):=cw;have je:Hd (Fs (ts.map (Av n))):=eg;have gt:Hd (Cc w sa (ts.map (Av n))):=hss;obtain⟨c0,c1,c2,c3,cf⟩:=Lu (K3.o.bl ak).blk;obtain⟨sm,esm⟩:=Aj (Av n x);have oq:Hd (∀W':E,Calls prog 156 #[S x,I (n:Int)] W' λe w'=>e=H (S sm)∧Bw W' w'):=λW'=>by rw[←esm];exact Ir x n W' hx h1 h8
 have ESM:Hd (Av n x=sm):=esm
 have HBS:Hd (∀W':E,Cc W' sa (ts.map (Av n))→Calls prog 141 #[J sa ts.length sc,S sm] W' λe w'=>W'=w'∧∃(r:X)(b:Bool),e=H (Y #[I r,.bool b])∧Rp n ts sm r∧(b=true↔(r<ts.length∧Av n (nx ts r)=sm))):=λW' hW=>by
  have h:=Ss sa sc (ts.map (Av n)) sm W' hW (by rw[List.length_map];omega) je.o;rw[List.length_map]at h;refine h.mono ?_;rintro e w' ⟨rfl,r,b,rfl,k1,k2,k3,k4⟩;refine⟨rfl,r,b,rfl,⟨k1,λj hj=>?_,λhj=>?_⟩,?_⟩
  ·rw[←Hb n ts j qb];exact k2 j hj
  ·rw[←Hb n ts r hj];exact k3 r (Nat.le_refl _) hj
  ·rcases k4 with⟨rfl,k5,k6⟩|⟨rfl,k5⟩
   ·exact⟨λ_=>⟨k5,by rw[←Hb n ts r k5];exact k6⟩,λ_=>rfl⟩
   ·exact⟨λh=>absurd h qd,λh=>absurd ⟨h.1,by rw[Hb n ts r h.1];exact h.2⟩ k5⟩
 clear esm cw eg hss;go_enter func180,ntmps180;go_wp2_with fail;clear eW;refine(oq.o _).mono ?_;rintro e w1 ⟨rfl,af⟩;have bh:Bw w w1:=bt ak af;have du:Hd (w1.heap[w.heap.size]?=M (O #[I 0,I 0,nS,nS,ze,ze] 164 (0,0))):=Af HK.o af;have gy:Hd (Li w1 g lo hi n (J sa ts.length sc) (J ta ts.length p1) (J qa ql qc) (ts.map (Av n)) ts):=K3.o.bl bh;have d9:w.heap.size<w1.heap.size:=El du.o;clear c0 c1 c2 c3 cf ak af HK;obtain⟨c0,c1,c2,c3,cf⟩:=Lu gy.o.blk;go_wp2_with fail;refine(HBS.o _ (gt.o.bl bh)).mono ?_;rintro e w2 ⟨E7,r,t,rfl,hp,hr⟩;subst E7;have xk:Hd (Rp n ts (Av n x) r):=by show Rp _ _ _ _;rw[ESM.o];exact hp
 have N9:Hd (t=true↔Hq n ts x r):=by show _↔_;unfold Hq;rw[ESM.o];exact hr
 have hrl:r≤ts.length:=hp.le;clear hp hr HBS oq;obtain⟨r0,r1,r2,r3,r4,r5⟩:=Hj du.o;have rf:=(λj=>fH du.o j);have K8:Hd (Cv w1 w.heap.size 164):=⟨_,du.o⟩;have J9:Hd (Li w1 g lo w1.heap.size n (J sa ts.length sc) (J ta ts.length p1) (J qa ql qc) (ts.map (Av n)) ts):=Li.wide gy.o (Nat.le_refl _) qb;have HKS:Hd (Uq w w1 g (J ta ts.length p1) (J sa ts.length sc)):=λb hb _ _ _=>bh.block b hb;have HOWN:Hd (∀b,(Value.slice sa ts.length sc).ownBlock=M b→(Value.slice sa ts.length sc).ownBlock=M b∨w.heap.size≤b):=λb h=>Or.inl h;cases t
 ·have O3:Hd (¬ Hq n ts x r):=λh=>by have:=N9.o.2 h;cases this
  by_cases h5:5000≤ts.length
  ·have HP:Hd (Iv n ts x r 3 ts ⟨#[]⟩ ⟨#[]⟩):=Or.inr (Or.inr (Or.inl ⟨O3.o,h5,rfl,rfl,rfl,rfl⟩))
   have e5:ts.length=5000:=qb;(have d5:(((ts.length:X):Int) == 5000)=true:=by rw[e5];rfl);clear e5 N9;go_wp2;refine bR (v:=G #[I 3,I 0,nS,nS,ze,ze]) qdr rfl (Ro.mk sq (bh.mono sq) K8.o xk.o HP.o hgl J9.o HKS.o HOWN.o (λb h=>Or.inl h) _ _ _ _ _ _)
  ·have HP:Hd (Iv n ts x r 0 (Gs ts x r) ⟨#[]⟩ ⟨#[]⟩):=Or.inr (Or.inr (Or.inr ⟨O3.o,h5,rfl,rfl,rfl,rfl⟩))
   (have d5:(((ts.length:X):Int) == 5000)=false:=by rw[beq_eq_false_iff_ne];omega);clear N9 O3 J9 HKS HOWN K8;obtain⟨w2,e2⟩:=Aj (w1.alloc (O #[S sm] 9));have ag:=aB e2;(have HV2:Hd (w2.heap[w1.heap.size]?=M (O #[S sm] 9 (0,0))):=by show _=_;rw[←e2];exact Ch _ _);have gj:w1.heap.size<w2.heap.size:=El HV2.o
   have HINS:Hd (Calls prog 191 #[J sa ts.length sc,I r,J (p_ w1.heap.size) 1 1] w2 λe w'=>∃g' cp,e=H (J (p_ g') (ts.length+1) cp)∧w'.ownsRow lo 9 1 (J (p_ g') (ts.length+1) cp) (ts.length+1) ((Gs (ts.map (Av n)) sm r).map Value.string)∧Below lo w2 w'∧Dc (Value.slice sa ts.length sc).ownBlock w2 w'∧((Value.slice sa ts.length sc).ownBlock=M g'∨g'=w2.heap.size)):=by
    have ho:w2.ownsRow lo 9 1 (J sa ts.length sc) ts.length ((ts.map (Av n)).map Value.string):=by
     have:=Bg.own (gy.o.bl ag).sx;rw[List.length_map]at this;exact this
    rw[Po];exact Rf lo ts.length r w1.heap.size _ _ (S sm) w2 ho qb hrl qb HV2.o (λe=>by have:=Bg.top gy.o.sx _ e;omega) (Kf _) qbt
   have fw:Hd (Bw w1 w2):=ag;clear ag;go_wp2_with fail;clear e2;refine HINS.o.mono ?_;rintro e w3 ⟨g3,p3,rfl,M3,ba,ia,Q1⟩;have nj:w2.heap.size≤w3.heap.size:=ba.size;have F5:=(gy.o.bl fw.o).blk
   have kg3:w3.heap[g]?=M (O #[I (n:Int),J ta ts.length p1,J qa ql qc,J sa ts.length sc] 171 (0,0)):=by
    rw[ia g qb (λe=>Cv.ne (T:=171) ⟨_,F5⟩ (Bg.own (gy.o.bl fw.o).sx) qd e.symm)];exact F5
   have gz:Hd (w3.heap[w.heap.size]?=M (O #[I 0,I 0,nS,nS,ze,ze] 164 (0,0))):=by
    show _=_;rw[ia _ qb (λe=>by have:=Bg.top gy.o.sx _ e.symm;omega)];exact Af du.o fw.o
   have O0:Hd (Li (w3.setCell ⟨g,3,N⟩ (J (p_ g3) (ts.length+1) p3)) g lo w3.heap.size n (J (p_ g3) (ts.length+1) p3) (J ta ts.length p1) (J qa ql qc) (Gs (ts.map (Av n)) sm r) ts):=
    Li.insS gy.o qb fw.o (by rw[Ip _ _ _ (by rw[List.length_map];exact hrl),List.length_map]) M3 ia nj Q1
   have HKP3:Hd (∀b,b<w.heap.size→b≠g→(Value.slice sa ts.length sc).ownBlock≠M b→(Value.slice ta ts.length p1).ownBlock≠M b→w3.heap[b]?=w.heap[b]?):=λb q1 q2 q3 q4=>by
    rw[ia b qb (λe=>q3 e.symm),fw.o.block b qb,bh.block b q1]
   have HBL3:Hd (Below lo w w3):=(bh.mono sq).trans ((fw.o.mono qb).trans ba)
   have HL3:Hd (∀b,(Value.slice (p_ g3) (ts.length+1) p3).ownBlock=M b→(Value.slice sa ts.length sc).ownBlock=M b∨w.heap.size≤b):=λb e=>by
    obtain rfl:g3=b:=qcn
    rcases Q1 with h|h
    ·exact Or.inl h
    ·right;omega
   clear c0 c1 c2 c3 cf r0 r1 r2 r3 r4 r5 rf F5 M3 ba ia Q1 HINS HV2;obtain⟨c0,c1,c2,c3,cf⟩:=Lu kg3;obtain⟨w4,e4⟩:=Aj (w3.setCell ⟨g,3,N⟩ (J (p_ g3) (ts.length+1) p3));(have gw:Hd (Li w4 g lo w3.heap.size n (J (p_ g3) (ts.length+1) p3) (J ta ts.length p1) (J qa ql qc) (Gs (ts.map (Av n)) sm r) ts):=by show Li _ _ _ _ _ _ _ _ _ _;rw[←e4];exact O0.o);have B8:w3.heap.size≤w4.heap.size∧w4.heap.size≤w3.heap.size:=by rw[←e4];simp
   have li:Hd (w4.heap[w.heap.size]?=M (O #[I 0,I 0,nS,nS,ze,ze] 164 (0,0))):=by
    show _=_;rw[←e4,hC w3 ⟨g,3,N⟩ _ w.heap.size (by show w.heap.size≠g;omega)];exact gz.o
   have HKP4:Hd (∀b,b<w.heap.size→b≠g→(Value.slice sa ts.length sc).ownBlock≠M b→(Value.slice ta ts.length p1).ownBlock≠M b→w4.heap[b]?=w.heap[b]?):=λb q1 q2 q3 q4=>by
    rw[←e4,hC w3 ⟨g,3,N⟩ _ b q2];exact HKP3.o b q1 q2 q3 q4
   (have HBL4:Hd (Below lo w w4):=by show Below _ _ _;rw[←e4];exact HBL3.o.setCell (p:=⟨g,3,N⟩) hlg _);obtain⟨x0,x1,x2,x3,xf⟩:=Lu gw.o.blk;obtain⟨w5,e5⟩:=Aj (w4.alloc (O #[S x] 9));(have jm:Hd (Bw w4 w5):=by show Below _ _ _;rw[←e5];exact aN _ _);(have HV5:Hd (w5.heap[w4.heap.size]?=M (O #[S x] 9 (0,0))):=by show _=_;rw[←e5];exact Ch _ _);have vp:w4.heap.size<w5.heap.size:=El HV5.o
   have HINS:Hd (Calls prog 191 #[J ta ts.length p1,I r,J (p_ w4.heap.size) 1 1] w5 λe w'=>∃g' cp,e=H (J (p_ g') (ts.length+1) cp)∧w'.ownsRow lo 9 1 (J (p_ g') (ts.length+1) cp) (ts.length+1) ((Gs ts x r).map Value.string)∧Below lo w5 w'∧Dc (Value.slice ta ts.length p1).ownBlock w5 w'∧((Value.slice ta ts.length p1).ownBlock=M g'∨g'=w5.heap.size)):=by
    rw[Po];exact Rf lo ts.length r w4.heap.size _ _ (S x) w5 (Bg.own (gw.o.bl jm.o).tx) qb hrl qb HV5.o (λe=>by have:=Bg.top gw.o.tx _ e;omega) (Kf _) qbt
   go_wp2_with fail;clear e4 e5;refine HINS.o.mono ?_;rintro e w6 ⟨g6,p6,rfl,U3,bz,ip,hl6⟩;have xz:w5.heap.size≤w6.heap.size:=bz.size;have hg5:=(gw.o.bl jm.o).blk
   have kg6:w6.heap[g]?=M (O #[I (n:Int),J ta ts.length p1,J qa ql qc,J (p_ g3) (ts.length+1) p3] 171 (0,0)):=by
    rw[ip g qb (λe=>Cv.ne (T:=171) ⟨_,hg5⟩ (Bg.own (gw.o.bl jm.o).tx) qd e.symm)];exact hg5
   have kr6:w6.heap[w.heap.size]?=M (O #[I 0,I 0,nS,nS,ze,ze] 164 (0,0)):=by
    rw[ip _ qb (λe=>by have:=Bg.top K3.o.tx _ e.symm;omega)];exact Af li.o jm.o
   have HSJ:Hd (Li (w6.setCell ⟨g,1,N⟩ (J (p_ g6) (ts.length+1) p6)) g lo w6.heap.size n (J (p_ g3) (ts.length+1) p3) (J (p_ g6) (ts.length+1) p6) (J qa ql qc) (Gs (ts.map (Av n)) sm r) (Gs ts x r)):=
    Li.insT gw.o qb jm.o (Ip _ _ _ hrl).symm U3 ip xz hl6
   have HKP6:Hd (Uq w (w6.setCell ⟨g,1,N⟩ (J (p_ g6) (ts.length+1) p6)) g (J ta ts.length p1) (J sa ts.length sc)):=λb q1 q2 q3 q4=>by
    rw[hC w6 ⟨g,1,N⟩ _ b q2,ip b qb (λe=>q4 e.symm),jm.o.block b qb];exact HKP4.o b q1 q2 q3 q4
   have HBL6:Hd (Below lo w (w6.setCell ⟨g,1,N⟩ (J (p_ g6) (ts.length+1) p6))):=(HBL4.o.trans ((jm.o.mono qb).trans bz)).setCell (p:=⟨g,1,N⟩) hlg _
   have H7:Hd (∀b,(Value.slice (p_ g6) (Gs ts x r).length p6).ownBlock=M b→(Value.slice ta ts.length p1).ownBlock=M b∨w.heap.size≤b):=λb e=>by
    obtain rfl:g6=b:=qcn
    rcases hl6 with h|h
    ·exact Or.inl h
    ·right;omega
   have HHT6:Hd (Cv (w6.setCell ⟨g,1,N⟩ (J (p_ g6) (ts.length+1) p6)) w.heap.size 164):=Cv.set ⟨_,kr6⟩ _
   have J9:Hd (Li (w6.setCell ⟨g,1,N⟩ (J (p_ g6) (ts.length+1) p6)) g lo (w6.setCell ⟨g,1,N⟩ (J (p_ g6) (ts.length+1) p6)).heap.size n (J (p_ g3) (ts.length+1) p3) (J (p_ g6) (Gs ts x r).length p6) (J qa ql qc) ((Gs ts x r).map (Av n)) (Gs ts x r)):=by
    show Li _ _ _ _ _ _ _ _ _ _;rw[map_insX,ESM.o,Ip _ _ _ hrl];exact Li.wide HSJ.o (Nat.le_refl _) qg
   have hne:w.heap.size≠g:=qb;clear c0 c1 c2 c3 cf x0 x1 x2 x3 xf hg5 U3 bz ip hl6 HINS HV5 HSJ;obtain⟨c0,c1,c2,c3,cf⟩:=Lu kg6;obtain⟨r0,r1,r2,r3,r4,r5⟩:=Hj kr6;have rf:=(λj=>fH kr6 j);go_wp2;refine bR (v:=G #[I 0,I 0,nS,nS,ze,ze]) qdr rfl (Ro.mk sq HBL6.o HHT6.o xk.o HP.o hgl J9.o HKP6.o HL3.o H7.o _ _ _ _ _ _)
 ·obtain⟨h3,h4⟩:=N9.o.1 rfl
  have A6:Hd (Hq n ts x r):=⟨h3,h4⟩;have hrI:(r:Int)<(ts.length:Int):=qb
  obtain⟨tb,toff,rfl,k1⟩:∃tb toff,ta=M ⟨tb,toff,N⟩∧w1.cell? ⟨tb,toff+r,N⟩=M (S (nx ts r)):=by
   obtain⟨a',c',ea,de⟩:=Cp.sl gy.o.tx;cases ea;obtain⟨b',bp,ea,c⟩:=de r h3;exact⟨b',bp,ea,c⟩
  by_cases hne:nx ts r=x
  ·have HP:Hd (Iv n ts x r 0 ts ⟨#[]⟩ ⟨#[]⟩):=Or.inr (Or.inl ⟨A6.o,hne,rfl,rfl,rfl,rfl⟩)
   have n6:=Dg hne;clear N9 A6 h4 hne;generalize nx ts r=z at k1 n6;go_wp2;refine bR (v:=G #[I 0,I 0,nS,nS,ze,ze]) qdr rfl (Ro.mk sq (bh.mono sq) K8.o xk.o HP.o hgl J9.o HKS.o HOWN.o (λb h=>Or.inl h) _ _ _ _ _ _)
  ·have HP:Hd (Iv n ts x r 2 ts (nx ts r) x):=Or.inl ⟨A6.o,hne,rfl,rfl,rfl,rfl⟩
   have n6:=Gy hne;clear N9 A6 h4 hne;generalize nx ts r=z at k1 n6 HP;go_wp2;refine bR (v:=G #[I 2,I 0,nS,nS,S z,S x]) qdr rfl (Ro.mk sq (bh.mono sq) K8.o xk.o HP.o hgl J9.o HKS.o HOWN.o (λb h=>Or.inl h) _ _ _ _ _ _)
structure Fc (B h mb:X) (C:Gg) (ss:L S2) (ts:L T2) (w:E) (ms:Mm) (s:Sb) (lu ld:X) (av kv:Z) (r:Rv):Prop where
 lb:B<=C.hb/\B<=C.hs/\B<=C.sb/\mb≠C.sb
 wd:1<=C.n/\C.n<=8
 bd:w.heap[C.hb]?=M (O (Pv C h r) 168 (0,0))
 sh:w.heap[C.hs]?=M (O #[I C.n,r.tx,r.qv,r.su] 171 (0,0))
 sn:∃f,Kb w C.sb r.sn f/\Ow ss ts C.n ms f
 tx:w.ownsRow B 9 1 r.tx s.T.length (Aq s.T)
 su:w.ownsRow B 9 1 r.su s.T.length (Aq (s.T.map (Av C.n)))
 qs:Ex w B r.qv s.R
 ran:w.ownsRow B 9 1 r.nv s.ran.length (Aq s.ran)
 held:w.ownsRow B 9 1 r.ev s.held.length (Aq s.held)
 us:∃xs:L Bool,w.ownsRow B 4 1 r.uv lu (xs.map .bool)
 df:∃xs:L Bool,w.ownsRow B 4 1 r.dv ld (xs.map .bool)/\∀i:X,xs[i]?=M true->NoH ss ts C.n ms (qx s.R i).looks
 ud:∀b,r.uv.ownBlock=M b->r.dv.ownBlock≠M b
 ap:Hp [av,kv,r.tx,r.su,r.nv,r.ev]
section
variable {B h mb:X} {C:Gg} {ss:L S2} {ts:L T2} {w w':E} {ms:Mm} {s:Sb} {lu ld:X} {av kv:Z} {r:Rv}
theorem Fc.of(k:Kx B h mb C ss ts w ms s av kv r):Fc B h mb C ss ts w ms s s.R.length s.R.length av kv r:=⟨k.lb,k.wd,k.bd,k.sh,k.sn,k.tx,k.su,k.qs,k.ran,k.held,k.us,k.df,k.ud,k.ap⟩
theorem Fc.to(k:Fc B h mb C ss ts w ms s s.R.length s.R.length av kv r):Kx B h mb C ss ts w ms s av kv r:=⟨k.lb,k.wd,k.bd,k.sh,k.sn,k.tx,k.su,k.qs,k.ran,k.held,k.us,k.df,k.ud,k.ap⟩
theorem Fc.rowT(k:Fc B h mb C ss ts w ms s lu ld av kv r){u:Z}(hu:u∈Mw r){b:X}(q:u.ownBlock=M b):B<=b/\∃cs T,w.heap[b]?=M (O cs T (0,0))/\(T=9\/T=94\/T=4):=by
 exact qhd
theorem Fc.bl(k:Fc B h mb C ss ts w ms s lu ld av kv r)(hb:Bw w w'):Fc B h mb C ss ts w' ms s lu ld av kv r:=by
 obtain⟨f,f1,f2⟩:=k.sn;obtain⟨xs,u1⟩:=k.us;obtain⟨ys,d1,d2⟩:=k.df;obtain⟨zs,cv,lv,qr⟩:=k.qs;exact⟨k.lb,k.wd,Af k.bd hb,Af k.sh hb,⟨f,f1.same (hb.block _ f1.lt),f2⟩,Ab k.tx hb,Ab k.su hb,k.qs.kept (λb q=>hb.block b (qr.row.lt b q).2) (λb cs T _ q=>Af q hb),Ab k.ran hb,Ab k.held hb,⟨xs,Ab u1 hb⟩,⟨ys,Ab d1 hb,d2⟩,k.ud,k.ap⟩
structure FrR (B:X) (C:Gg) (r r':Rv) (w w':E):Prop where
 bel:Below B w w'
 keep:∀b,b<w.heap.size->¬ Ks C r b->w'.heap[b]?=w.heap[b]?
 new:∀b,Ks C r' b->Ks C r b\/w.heap.size<=b
theorem FrR.trans{r' r'':Rv}{w1 w2:E}(h:FrR B C r r' w w1)(k:FrR B C r' r'' w1 w2):FrR B C r r'' w w2:=by
 have hs:=h.bel.size
 exact⟨h.bel.trans k.bel,λb hb ho=>(k.keep b qb (λe=>by rcases h.new b e with q|q;exact ho q;omega)).trans (h.keep b hb ho),λb e=>by
  rcases k.new b e with q|q
  ·exact h.new b q
  ·exact Or.inr qb⟩
theorem FrR.of_below(hb:Bw w w')(hB:B<=w.heap.size):FrR B C r r w w':=⟨hb.mono hB,λb hl _=>hb.block b hl,λ_ h=>Or.inl h⟩
theorem Fc.growN(k:Fc B h mb C ss ts w ms s lu ld av kv r)(hB:B<=w.heap.size)(X7:∀b,av.ownBlock=M b->b<w.heap.size)(C6:∀b,kv.ownBlock=M b->b<w.heap.size){o:Obj}{w2:E}{nw:Z}{x:By}(hg:(w.alloc o).grownBy w2 r.nv.ownBlock)(fg:w2.ownsRow B 9 1 nw (s.ran++[x]).length (Aq (s.ran++[x])))(hl:∀b,nw.ownBlock=M b->r.nv.ownBlock=M b\/w.heap.size<=b):Fc B h mb C ss ts (w2.setCell ⟨C.hb,1,N⟩ nw) ms ⟨s.T,s.R,s.ran++[x],s.held⟩ lu ld av kv ⟨r.tx,r.su,r.qv,nw,r.ev,r.uv,r.dv,r.sn⟩/\FrR B C r ⟨r.tx,r.su,r.qv,nw,r.ev,r.uv,r.dv,r.sn⟩ w (w2.setCell ⟨C.hb,1,N⟩ nw):=by
 obtain⟨f,f1,f2⟩:=k.sn;obtain⟨xs,u1⟩:=k.us;obtain⟨ys,d1,d2⟩:=k.df;obtain⟨zs,cv,lv,qr⟩:=k.qs;have k2:∀b,b<w.heap.size->r.nv.ownBlock≠M b->w2.heap[b]?=w.heap[b]?:=λb h1 h2=>by rw[hg.block b qh (λe=>h2 e.symm),Lib.alloc_old _ _ _ h1]
 have f9:w2.heap[C.hb]?=M (O (Pv C h r) 168 (0,0)):=by rw[k2 _ (Ag k.bd) (Ae k.ran qd k.bd)];exact k.bd
 have cw:w2.heap[C.hs]?=M (O #[I C.n,r.tx,r.qv,r.su] 171 (0,0)):=by rw[k2 _ (Ag k.sh) (Ae k.ran qd k.sh)];exact k.sh
 have hne:∀b,b≠C.hb->(w2.setCell ⟨C.hb,1,N⟩ nw).heap[b]?=w2.heap[b]?:=λb e=>hC w2 ⟨C.hb,1,N⟩ _ b e
 have um:∀(b:X)(cs:Array Z)(T:TypeId),T≠168->w.heap[b]?=M (O cs T (0,0))->b≠C.hb:=λb cs T hT hb e=>by
  exact qbd
 have kk:∀ {e sz n:X} {u:Z} {ys:L Z},w.ownsRow B e sz u n ys->(∀b,u.ownBlock=M b->r.nv.ownBlock≠M b)->e≠168->(w2.setCell ⟨C.hb,1,N⟩ nw).ownsRow B e sz u n ys:=λho hx he=>Al ho λb q=>by
  exact qav
 have hHb:C.hb≠C.hs:=λe=>by have q:=k.sh;rw[←e,k.bd]at q;injection q with q;injection q with _ q;exact absurd q qd
 refine⟨⟨k.lb,k.wd,qbx,qbu,⟨f,f1.same (by rw[hne _ (λe=>f1.notCells (e▸k.bd)),k2 _ f1.lt (λe=>by obtain⟨cs,c1⟩:=Az k.ran _ e;exact f1.notCells c1)]),f2⟩,kk k.tx (λb q1 q2=>k.ap.ne (i:=4) (j:=2) qd qg qg b q2 q1) qd,kk k.su (λb q1 q2=>k.ap.ne (i:=4) (j:=3) qd qg qg b q2 q1) qd,k.qs.kept (λb q=>by rw[hne b (by obtain⟨cs,c1⟩:=Az qr.row b q;exact um b cs _ qd c1),k2 b (qr.row.lt b q).2 (λe=>apart qr.row k.ran qd b q e)]) (λb cs T hT q=>by rw[hne b (um b cs T (by rcases hT with e|e<;>rw[e]<;>decide) q),k2 b (Ag q) (Ae k.ran (by rcases hT with e|e<;>rw[e]<;>decide) q)];exact q),Ao fg ⟨_,f9⟩ qd _,kk k.held (λb q1 q2=>k.ap.ne (i:=4) (j:=5) qd qg qg b q2 q1) qd,⟨xs,kk u1 (apart u1 k.ran qd) qd⟩,⟨ys,kk d1 (apart d1 k.ran qd) qd,d2⟩,k.ud,Hp.set k.ap 4 nw qg hl (λv hv b q=>by
  simp only[List.mem_cons,List.not_mem_nil,or_false]at hv
  rcases hv with rfl|rfl|rfl|rfl|rfl|rfl
  ·exact X7 b q
  ·exact C6 b q
  ·exact(k.tx.lt b q).2
  ·exact(k.su.lt b q).2
  ·exact(k.ran.lt b q).2
  ·exact(k.held.lt b q).2)⟩,⟨?_,λb hb ho=>?_,λb e=>?_⟩⟩
 ·exact(((Below.refl B w).alloc hB o).grown hg qh (λb q=>(k.ran.lt b q).1)).setCell (p:=⟨C.hb,1,N⟩) (k.lb.1) _
 ·exact qlm
 ·exact qhf
theorem Fc.growE(k:Fc B h mb C ss ts w ms s lu ld av kv r)(hB:B<=w.heap.size)(X7:∀b,av.ownBlock=M b->b<w.heap.size)(C6:∀b,kv.ownBlock=M b->b<w.heap.size){o:Obj}{w2:E}{nw:Z}{x:By}(hg:(w.alloc o).grownBy w2 r.ev.ownBlock)(fg:w2.ownsRow B 9 1 nw (s.held++[x]).length (Aq (s.held++[x])))(hl:∀b,nw.ownBlock=M b->r.ev.ownBlock=M b\/w.heap.size<=b):Fc B h mb C ss ts (w2.setCell ⟨C.hb,2,N⟩ nw) ms ⟨s.T,s.R,s.ran,s.held++[x]⟩ lu ld av kv ⟨r.tx,r.su,r.qv,r.nv,nw,r.uv,r.dv,r.sn⟩/\FrR B C r ⟨r.tx,r.su,r.qv,r.nv,nw,r.uv,r.dv,r.sn⟩ w (w2.setCell ⟨C.hb,2,N⟩ nw):=by
 obtain⟨f,f1,f2⟩:=k.sn;obtain⟨xs,u1⟩:=k.us;obtain⟨ys,d1,d2⟩:=k.df;obtain⟨zs,cv,lv,qr⟩:=k.qs;have k2:∀b,b<w.heap.size->r.ev.ownBlock≠M b->w2.heap[b]?=w.heap[b]?:=λb h1 h2=>by rw[hg.block b qh (λe=>h2 e.symm),Lib.alloc_old _ _ _ h1]
 have f9:w2.heap[C.hb]?=M (O (Pv C h r) 168 (0,0)):=by rw[k2 _ (Ag k.bd) (Ae k.held qd k.bd)];exact k.bd
 have cw:w2.heap[C.hs]?=M (O #[I C.n,r.tx,r.qv,r.su] 171 (0,0)):=by rw[k2 _ (Ag k.sh) (Ae k.held qd k.sh)];exact k.sh
 have hne:∀b,b≠C.hb->(w2.setCell ⟨C.hb,2,N⟩ nw).heap[b]?=w2.heap[b]?:=λb e=>hC w2 ⟨C.hb,2,N⟩ _ b e
 have um:∀(b:X)(cs:Array Z)(T:TypeId),T≠168->w.heap[b]?=M (O cs T (0,0))->b≠C.hb:=λb cs T hT hb e=>by
  exact qbd
 have kk:∀ {e sz n:X} {u:Z} {ys:L Z},w.ownsRow B e sz u n ys->(∀b,u.ownBlock=M b->r.ev.ownBlock≠M b)->e≠168->(w2.setCell ⟨C.hb,2,N⟩ nw).ownsRow B e sz u n ys:=λho hx he=>Al ho λb q=>by
  exact qav
 have hHb:C.hb≠C.hs:=λe=>by have q:=k.sh;rw[←e,k.bd]at q;injection q with q;injection q with _ q;exact absurd q qd
 refine⟨⟨k.lb,k.wd,qbx,qbu,⟨f,f1.same (by rw[hne _ (λe=>f1.notCells (e▸k.bd)),k2 _ f1.lt (λe=>by obtain⟨cs,c1⟩:=Az k.held _ e;exact f1.notCells c1)]),f2⟩,kk k.tx (λb q1 q2=>k.ap.ne (i:=5) (j:=2) qd qg qg b q2 q1) qd,kk k.su (λb q1 q2=>k.ap.ne (i:=5) (j:=3) qd qg qg b q2 q1) qd,k.qs.kept (λb q=>by rw[hne b (by obtain⟨cs,c1⟩:=Az qr.row b q;exact um b cs _ qd c1),k2 b (qr.row.lt b q).2 (λe=>apart qr.row k.held qd b q e)]) (λb cs T hT q=>by rw[hne b (um b cs T (by rcases hT with e|e<;>rw[e]<;>decide) q),k2 b (Ag q) (Ae k.held (by rcases hT with e|e<;>rw[e]<;>decide) q)];exact q),kk k.ran (λb q1 q2=>k.ap.ne (i:=5) (j:=4) qd qg qg b q2 q1) qd,Ao fg ⟨_,f9⟩ qd _,⟨xs,kk u1 (apart u1 k.held qd) qd⟩,⟨ys,kk d1 (apart d1 k.held qd) qd,d2⟩,k.ud,Hp.set k.ap 5 nw qg hl (λv hv b q=>by
  simp only[List.mem_cons,List.not_mem_nil,or_false]at hv
  rcases hv with rfl|rfl|rfl|rfl|rfl|rfl
  ·exact X7 b q
  ·exact C6 b q
  ·exact(k.tx.lt b q).2
  ·exact(k.su.lt b q).2
  ·exact(k.ran.lt b q).2
  ·exact(k.held.lt b q).2)⟩,⟨?_,λb hb ho=>?_,λb e=>?_⟩⟩
 ·exact(((Below.refl B w).alloc hB o).grown hg qh (λb q=>(k.held.lt b q).1)).setCell (p:=⟨C.hb,2,N⟩) (k.lb.1) _
 ·exact qln
 ·exact qhg
theorem Fc.growQ(k:Fc B h mb C ss ts w ms s lu ld av kv r)(hB:B<=w.heap.size)(X7:∀b,av.ownBlock=M b->b<w.heap.size)(C6:∀b,kv.ownBlock=M b->b<w.heap.size){o:Obj}{w2:E}{nw:Z}{R2:L T3}(hg:(w.alloc o).grownBy w2 r.qv.ownBlock)(hq:Ex (w2.setCell ⟨C.hs,2,N⟩ nw) B nw R2)(hdf:∀ys:L Bool,(∀i:X,ys[i]?=M true->NoH ss ts C.n ms (qx s.R i).looks)->∀i:X,ys[i]?=M true->NoH ss ts C.n ms (qx R2 i).looks)(hl:∀b,nw.ownBlock=M b->r.qv.ownBlock=M b\/w.heap.size<=b):Fc B h mb C ss ts (w2.setCell ⟨C.hs,2,N⟩ nw) ms ⟨s.T,R2,s.ran,s.held⟩ lu ld av kv ⟨r.tx,r.su,nw,r.nv,r.ev,r.uv,r.dv,r.sn⟩/\FrR B C r ⟨r.tx,r.su,nw,r.nv,r.ev,r.uv,r.dv,r.sn⟩ w (w2.setCell ⟨C.hs,2,N⟩ nw):=by
 obtain⟨f,f1,f2⟩:=k.sn;obtain⟨xs,u1⟩:=k.us;obtain⟨ys,d1,d2⟩:=k.df;obtain⟨zs,cv,lv,qr⟩:=k.qs;have k2:∀b,b<w.heap.size->r.qv.ownBlock≠M b->w2.heap[b]?=w.heap[b]?:=λb h1 h2=>by rw[hg.block b qh (λe=>h2 e.symm),Lib.alloc_old _ _ _ h1]
 have f9:w2.heap[C.hb]?=M (O (Pv C h r) 168 (0,0)):=by rw[k2 _ (Ag k.bd) (Ae qr.row qd k.bd)];exact k.bd
 have cw:w2.heap[C.hs]?=M (O #[I C.n,r.tx,r.qv,r.su] 171 (0,0)):=by rw[k2 _ (Ag k.sh) (Ae qr.row qd k.sh)];exact k.sh
 have hne:∀b,b≠C.hs->(w2.setCell ⟨C.hs,2,N⟩ nw).heap[b]?=w2.heap[b]?:=λb e=>hC w2 ⟨C.hs,2,N⟩ _ b e
 have um:∀(b:X)(cs:Array Z)(T:TypeId),T≠171->w.heap[b]?=M (O cs T (0,0))->b≠C.hs:=λb cs T hT hb e=>by
  exact qly
 have kk:∀ {e sz n:X} {u:Z} {ys:L Z},w.ownsRow B e sz u n ys->(∀b,u.ownBlock=M b->r.qv.ownBlock≠M b)->e≠171->(w2.setCell ⟨C.hs,2,N⟩ nw).ownsRow B e sz u n ys:=λho hx he=>Al ho λb q=>by
  exact qav
 have hHb:C.hb≠C.hs:=λe=>by have q:=k.sh;rw[←e,k.bd]at q;injection q with q;injection q with _ q;exact absurd q qd
 refine⟨⟨k.lb,k.wd,by rw[hne _ hHb];exact f9,by rw[jB cw];rfl,⟨f,f1.same (by rw[hne _ (λe=>f1.notCells (e▸k.sh)),k2 _ f1.lt (λe=>by obtain⟨cs,c1⟩:=Az qr.row _ e;exact f1.notCells c1)]),f2⟩,kk k.tx (apart k.tx qr.row qd) qd,kk k.su (apart k.su qr.row qd) qd,hq,kk k.ran (apart k.ran qr.row qd) qd,kk k.held (apart k.held qr.row qd) qd,⟨xs,kk u1 (apart u1 qr.row qd) qd⟩,⟨ys,kk d1 (apart d1 qr.row qd) qd,hdf ys d2⟩,k.ud,k.ap⟩,⟨?_,λb hb ho=>?_,λb e=>?_⟩⟩
 ·exact(((Below.refl B w).alloc hB o).grown hg qh (λb q=>(qr.row.lt b q).1)).setCell (p:=⟨C.hs,2,N⟩) (k.lb.2.1) _
 ·exact qkq
 ·exact qhe
end
theorem Hp.set2{l:L Z}(h:Hp l)(i j:X)(u v:Z){AI:X}(rh:i<j)(hj:j<l.length)(hu:∀b,u.ownBlock=M b->(l[i]'qb).ownBlock=M b\/AI<=b)(hv:∀b,v.ownBlock=M b->l[j].ownBlock=M b\/AI<=b)(huv:∀b,u.ownBlock=M b->v.ownBlock≠M b)(aj:∀v∈l,∀b,v.ownBlock=M b->b<AI):Hp ((l.set i u).set j v):=by
 have h1:=h.set i u qb hu aj;unfold Hp at *;rw[List.pairwise_iff_getElem]at *;intro a c ha hc hac b e1 e2;rw[List.length_set]at ha hc
 have key:∀(d:X)(hd:d<(l.set i u).length),d≠j->∀b,(l.set i u)[d].ownBlock=M b->v.ownBlock=M b->False:=λd hd hne b q1 q2=>by
  rw[List.getElem_set]at q1
  split at q1
  ·exact huv b q1 q2
  ·rw[List.length_set]at hd
   rcases hv b q2 with k|k
   ·rcases Nat.lt_or_ge d j with o|o
    ·exact h d j hd hj o b q1 k
    ·exact h j d hj hd qb b k q1
   ·have:=aj _ (List.getElem_mem hd) b q1;omega
 rw[List.getElem_set]at e1 e2
 split at e1
 ·rename_i q
  rw[if_neg qb]at e2;exact key c hc qb b e2 e1
 ·split at e2
  ·exact key a ha qb b e1 e2
  ·exact h1 a c ha hc hac b e1 e2
section
variable {B h mb k:X} {C:Gg} {sv tv:Z} {ss:L S2} {ts:L T2} {w w':E} {ms:Mm} {mk st:L By} {al:X} {av kv:Z} {vs:By->Z} {s:Sb} {r:Rv}
theorem BS.shP(q:BS B h mb k C sv tv ss ts w ms mk st al av kv vs s r):∃ta p1,r.tx=J ta s.T.length p1/\Li w C.hs B w.heap.size C.n r.su (J ta s.T.length p1) r.qv (s.T.map (Av C.n)) s.T:=by
 obtain⟨ta,tc,e1⟩:=Ay q.rs.tx;obtain⟨zs,cv,lv,qr⟩:=q.rs.qs;obtain⟨ra,rc,e3⟩:=Ay qr.row;have cw:=q.rs.sh;have htx:=q.rs.tx;rw[e1]at cw htx;refine⟨ta,tc,e1,cw,?_,⟨htx,λb e=>(htx.lt b e).2⟩,⟨_,_,_,e3⟩,λb e1' e2'=>?_⟩
 ·have hsu:=q.rs.su
  refine⟨?_,λb e=>(hsu.lt b e).2⟩;rw[List.length_map];exact hsu
 ·rw[←e1]at e2'
  exact q.rs.ap.ne (i:=3) (j:=2) qd qg qg b e1' e2'
theorem BS.put(q:BS B h mb k C sv tv ss ts w ms mk st al av kv vs s r){I1 I0:Z}{ts':L By}(hb:Below B w w')(hp:Li w' C.hs B w'.heap.size C.n I1 I0 r.qv (ts'.map (Av C.n)) ts')(hk:Uq w w' C.hs r.tx r.su)(h1:∀b,I1.ownBlock=M b→r.su.ownBlock=M b∨w.heap.size≤b)(h2:∀b,I0.ownBlock=M b→r.tx.ownBlock=M b∨w.heap.size≤b):BS B h mb k C sv tv ss ts w' ms mk st al av kv vs ⟨ts',s.R,s.ran,s.held⟩ ⟨I0,I1,r.qv,r.nv,r.ev,r.uv,r.dv,r.sn⟩/\KQ B h mb C av kv r ⟨I0,I1,r.qv,r.nv,r.ev,r.uv,r.dv,r.sn⟩ w w':=by
 obtain⟨f,f1,f2⟩:=q.rs.sn;obtain⟨xs,u1⟩:=q.rs.us;obtain⟨ys,d1,d2⟩:=q.rs.df;obtain⟨zs,cv,lv,qr⟩:=q.rs.qs
 have kT:∀(b:X)(cs:Array Z)(T:TypeId),T≠171->T≠9->w.heap[b]?=M (O cs T (0,0))->w'.heap[b]?=M (O cs T (0,0)):=λb cs T n1 n2 hh=>by
  rw[hk b (Ag hh) (λe=>by have o:=q.rs.sh;rw[←e,hh]at o;injection o with o;injection o with _ o;exact n1 o) (Ae q.rs.su n2 hh) (Ae q.rs.tx n2 hh)];exact hh
 have kR:∀ {e sz n:X} {u:Z} {ys:L Z},w.ownsRow B e sz u n ys->e≠171->e≠9->w'.ownsRow B e sz u n ys:=λho n1 n2=>Al ho λb o=>by
  obtain⟨cs,c1⟩:=Az ho b o;rw[c1];exact kT b cs _ n1 n2 c1
 have k9:∀ {n:X} {u:Z} {ys:L Z},w.ownsRow B 9 1 u n ys->(∀b,u.ownBlock=M b->r.su.ownBlock≠M b/\r.tx.ownBlock≠M b)->w'.ownsRow B 9 1 u n ys:=λho hx=>Al ho λb o=>by
  obtain⟨cs,c1⟩:=Az ho b o;exact hk b (ho.lt b o).2 (λe=>by have o:=q.rs.sh;rw[←e,c1]at o;injection o with o;injection o with _ o;exact absurd o qd) (hx b o).1 (hx b o).2
 have J5:=q.rs.ap;have hsb:w'.heap[C.sb]?=w.heap[C.sb]?:=hk _ f1.lt (λe=>f1.notCells (e▸q.rs.sh)) (λe=>by obtain⟨cs,c1⟩:=Az q.rs.su _ e;exact f1.notCells c1) (λe=>by obtain⟨cs,c1⟩:=Az q.rs.tx _ e;exact f1.notCells c1);refine q.upd hb (λb hl ho=>hk b hl (λe=>ho (Or.inr (Or.inl e))) (λe=>ho (Aw C (u:=r.su) qq e)) (λe=>ho (Aw C (u:=r.tx) qq e))) ⟨q.rs.lb,q.rs.wd,kT _ _ _ qd qd q.rs.bd,hp.blk,⟨f,f1.same hsb,f2⟩,Bg.own hp.tx,?_,q.rs.qs.kept (λb o=>?_) (λb cs T hT hh=>kT b cs T (by rcases hT with e|e<;>rw[e]<;>decide) (by rcases hT with e|e<;>rw[e]<;>decide) hh),k9 q.rs.ran (λb o=>⟨J5.ne (i:=4) (j:=3) qd qg qg b o,J5.ne (i:=4) (j:=2) qd qg qg b o⟩),k9 q.rs.held (λb o=>⟨J5.ne (i:=5) (j:=3) qd qg qg b o,J5.ne (i:=5) (j:=2) qd qg qg b o⟩),⟨xs,kR u1 qd qd⟩,⟨ys,kR d1 qd qd,d2⟩,q.rs.ud,Hp.set2 J5 2 3 I0 I1 qd qg h2 h1 (λb e1 e2=>hp.ne b e2 e1) (q.rs.l6 q.ownA.1 q.ownA.2)⟩ (λb o=>?_) (Ka.same λb o=>?_) (Nat.le_refl _)
 ·have:=Bg.own hp.sx
  rw[List.length_map]at this;exact this
 ·exact qmf
 ·rcases o with o|o|o|⟨u,hu,o⟩
  ·exact Or.inl (Or.inl o)
  ·exact Or.inl (Or.inr (Or.inl o))
  ·exact Or.inl (Or.inr (Or.inr (Or.inl o)))
  ·simp only[Mw,List.mem_cons,List.not_mem_nil,or_false]at hu
   rcases hu with rfl|rfl|rfl|rfl|rfl|rfl|rfl
   ·rcases h2 b o with q1|q1;exact Or.inl (Aw C (u:=r.tx) qq q1);exact Or.inr q1
   ·rcases h1 b o with q1|q1;exact Or.inl (Aw C (u:=r.su) qq q1);exact Or.inr q1
   ·exact Or.inl (Aw C (u:=r.qv) qq o)
   ·exact Or.inl (Aw C (u:=r.nv) qq o)
   ·exact Or.inl (Aw C (u:=r.ev) qq o)
   ·exact Or.inl (Aw C (u:=r.uv) qq o)
   ·exact Or.inl (Aw C (u:=r.dv) qq o)
 ·exact qmf
end
def PutTB(B h mb k:X)(C:Gg)(sv tv:Z)(ss:L S2)(ts:L T2)(ms:Mm)(mk st:L By)(al:X)(av kv:Z)(vs:By->Z)(s:Sb)(r:Rv)(x:By)(w:E)(e:Ending)(w':E):Prop:=
 (∃v,e=H v/\∃T' r',v=Y #[]/\Dj C.n s.T [x] T' N/\BS B h mb k C sv tv ss ts w' ms mk st al av kv vs ⟨T',s.R,s.ran,s.held⟩ r'/\KQ B h mb C av kv r r' w w'/\r'.sn=r.sn)\/
 (∃v,e=Lb v/\∃b r',Dj C.n s.T [x] s.T (M b)/\Cz B C w' b v/\KQ B h mb C av kv r r' w w')
theorem Qy(B h mb k:X)(C:Gg)(sv tv:Z)(ss:L S2)(ts:L T2)(ms:Mm)(mk st:L By)(al:X)(av kv:Z)(vs:By->Z)(s:Sb)(r:Rv)(x:By)(w:E)(q:BS B h mb k C sv tv ss ts w ms mk st al av kv vs s r)(hB:B<=w.heap.size)(ft:Uk C.n s.T)(hx:x.size<=2002):Calls prog 166 #[D (p_ C.hb),S x] w λe w'=>PutTB B h mb k C sv tv ss ts ms mk st al av kv vs s r x w e w':=by
 obtain⟨ta,p1,etx,xy⟩:=q.shP
 have O2:Hd (Calls prog 180 #[D (p_ C.hs),S x] w λe w'=>Ro w C.hs B C.n r.su r.tx r.qv s.T x e w'):=by
  show Calls _ _ _ _ _;rw[etx];exact put_b C.hs B w.heap.size C.n ta p1 r.su r.qv s.T x w q.rs.wd.1 q.rs.wd.2 qb ft.1 ft.2.2 q.rs.lb.2.1 (Nat.le_refl _) xy
 obtain⟨y0,-⟩:=q.rs.cellsB;have HQ:=Ac q;clear q etx xy;go_enter func166,ntmps166;go_wp2_with fail;refine O2.o.mono ?_;rintro e w1 ⟨rr,cd,ts',A,B',I1,I0,rfl,dr,hpr,af,cw,hks,d9,gj⟩;obtain⟨b1,k1⟩:=HQ.o.put af cw hks d9 gj;have ff:=Ac b1;have du:=Ac k1;have xk:=Ac dr;have tm:=Ac hpr;clear O2 dr hpr af cw hks d9 gj b1 k1 y0;have cz:=du.o.bel.size
 rcases tm.o with⟨c1,c2,rfl,rfl,rfl,rfl⟩|⟨c1,c2,rfl,rfl,rfl,rfl⟩|⟨c1,c2,rfl,rfl,rfl,rfl⟩|⟨c1,c2,rfl,rfl,rfl,rfl⟩
 ·have we:Hd (Dj C.n s.T [B'] s.T (M (.clash (nx s.T rr) B'))):=.clash xk.o tm.o
  clear tm c1 c2;generalize nx s.T rr=A at we ⊢;obtain⟨V,eV⟩:=Aj (w1.alloc (O #[I 2,I 0,nS,nS,S A,S B'] 164));have ll:=aB eV;(have px:Hd (V.heap[w1.heap.size]?=M (O #[I 2,I 0,nS,nS,S A,S B'] 164 (0,0))):=by show _=_;rw[←eV];exact Hc _ _);have ui:=Ac (ff.o.bl ll);have me:=Ac (du.o.after (An.refl _ _) (An.refl _ _) ff.o ll qb);obtain⟨⟨z0,z1,z2,z3,z4,z5⟩,zf⟩:=Rm px.o;have HBD:=Ac ui.o.rs.bd
  obtain⟨b4,b5,b6,b7,b8,b9⟩:V.cell? ⟨C.hb,4,N⟩=M (I 0)/\V.cell? ⟨C.hb,5,N⟩=M (I 0)/\V.cell? ⟨C.hb,6,N⟩=M nS/\V.cell? ⟨C.hb,7,N⟩=M nS/\V.cell? ⟨C.hb,8,N⟩=M ze/\V.cell? ⟨C.hb,9,N⟩=M ze:=by
   refine⟨?_,?_,?_,?_,?_,?_⟩<;>rw[cH HBD.o]<;>rfl
  have bf:=fZ HBD.o;clear ll
  go_upto_region 3 with fail
  try rw[eV]
  clear eV;go_wp2_with fail;(have hne:w1.heap.size≠C.hb:=λe=>by have o:=HBD.o;rw[←e,px.o]at o;injection o with o;injection o with _ o;exact absurd o qd);have pw:=Ep (b:=C.hb) [(C.hb,4,I 2),(C.hb,5,I 0),(C.hb,6,nS),(C.hb,7,nS),(C.hb,8,S A),(C.hb,9,S B')] V _ qg HBD.o;have hnl:∀b,b≠C.hb->(Cu V [(C.hb,4,I 2),(C.hb,5,I 0),(C.hb,6,nS),(C.hb,7,nS),(C.hb,8,S A),(C.hb,9,S B')]).heap[b]?=V.heap[b]?:=λb e=>Gz _ V (by simp[e]);have bi:=Cm (w:=w) [(C.hb,4,I 2),(C.hb,5,I 0),(C.hb,6,nS),(C.hb,7,nS),(C.hb,8,S A),(C.hb,9,S B')] V me.o.bel (by simp[ui.o.rs.lb.1]);refine⟨rfl,Or.inr ⟨_,rfl,_,⟨I0,I1,r.qv,r.nv,r.ev,r.uv,r.dv,r.sn⟩,we.o,⟨?_,?_,rfl⟩,⟨bi,λb hb n1 n2 n3 n4 n5=>(hnl b (λe=>n5 (Or.inl e))).trans (me.o.keep b hb n1 n2 n3 n4 n5),me.o.new,λg l cp cs e hg=>?_,me.o.len⟩⟩⟩
  ·exact(cH pw 8).trans rfl
  ·exact(cH pw 9).trans rfl
  ·obtain⟨A4,g1,g2⟩:=me.o.old g l cp cs e hg
   exact⟨A4,(hnl g (λe=>by subst e;rw[HBD.o]at g1;injection g1 with g1;injection g1 with _ g1;exact absurd g1 qd)).trans g1,g2⟩
 ·have we:Hd (Dj C.n s.T [x] s.T N):=.go xk.o tm.o .nil
  clear tm c1 c2;go_wp2_with fail;refine bodyPost_end (v:=Y #[]) (by simp[results,results166,go_sem]) rfl ?_;exact Or.inl ⟨_,rfl,s.T,_,rfl,we.o,ff.o.bl (Ai _ _),du.o.after (An.refl _ _) (An.refl _ _) ff.o (Ai _ _) qb,rfl⟩
 ·have we:Hd (Dj C.n s.T [x] s.T (M .full)):=.full xk.o tm.o
  clear tm c1 c2;go_wp2_with fail;have f9:=Af ff.o.rs.bd (Ai w1 (O #[I 3,I 0,nS,nS,ze,ze] 164));exact⟨rfl,Or.inr ⟨_,rfl,_,_,we.o,⟨qdx,qdx,rfl⟩,du.o.after (An.refl _ _) (An.refl _ _) ff.o (Ai _ _) qb⟩⟩
 ·have we:Hd (Dj C.n s.T [x] (Gs s.T x rr) N):=.go xk.o tm.o .nil
  clear tm c1 c2;go_wp2_with fail;refine bodyPost_end (v:=Y #[]) (by simp[results,results166,go_sem]) rfl ?_;exact Or.inl ⟨_,rfl,_,_,rfl,we.o,ff.o.bl (Ai _ _),du.o.after (An.refl _ _) (An.refl _ _) ff.o (Ai _ _) qb,rfl⟩
theorem Jd.addI{h:X}{v nw c d:Z}{R:L T3}{rec:T3}{cv lv:X->Z}{cs:Array Z}(r:Jd w B v R xs cv lv)(hg:w.grownBy w' v.ownBlock)(ho:w'.ownsRow B 94 3 nw (R.length+1) (xs++[c,d,S rec.out])){zs us:L Z}(h1:w.ownsRow B 143 3 c rec.code.length zs)(h2:Ck rec.code rec.code.length zs)(h3:w.ownsRow B 145 3 d rec.looks.length us)(h4:Bk rec.looks rec.looks.length us)(hc:∀i,i<R.length->∀b,(cv i).ownBlock=M b->c.ownBlock≠M b)(hd:∀i,i<R.length->∀b,(lv i).ownBlock=M b->d.ownBlock≠M b)(hb:w'.heap[h]?=M (O cs 171 (0,0)))(x:Z):Ex (w'.setCell ⟨h,2,N⟩ x) B nw (R++[rec]):=by
 have ht:Cv w' h 171:=⟨_,hb⟩;exact qgu
theorem append_old{ty:TypeId}{v v':Z}(ah:W.ownsRow B 94 3 v n xs)(a:Addr)(c:X)(u0 u1 u2:Z)(lz:∀j u,[u0,u1,u2][j]?=M u→W.cell? (a.add j)=M u)(h1:∀u∈[u0,u1,u2],u.oneCell'=true)(hn:n<=10000)(hr:(Builtin.append_ #[33,33] ty #[v,J (M a) 1 c]).run prog W=.ok v' w'):Ka v W w':=by
 intro g l cp cs e hb;subst e;obtain⟨i0,hi,bq,bg,bv⟩:=info_parts Tryz.info97x
 rcases ah.2 with⟨e,_⟩|⟨g',cap,cur,e,hB,hh,hnc,F8,ir,htake⟩
 ·simp at e
 simp only[Value.slice.injEq,Option.some.injEq,Addr.mk.injEq,and_true,true_and]at e;obtain⟨rfl,rfl,rfl⟩:=e;rw[hb]at hh;injection hh with hh;injection hh with hh;subst hh
 by_cases I8:l+1<=cp
 ·have hfit:l*i0.size+[u0,u1,u2].length<=cs.size:=by rw[bg,ir];simp;omega
  have h2:=run_append_room (P:=prog) W 33 ty 94 i0 underlying33 hi g l cp cs hb a 1 c [u0,u1,u2] (by rw[bg];rfl) lz h1 I8 hfit;rw[h2]at hr;injection hr with hv hw;subst hw;refine⟨_,setRow_heap W g cs _ 94 _ hb,λj hj=>?_⟩;rw[bg,List.getElem?_toArray,List.append_assoc,List.getElem?_append_left (by rw[List.length_take];simp only[Array.length_toList];rw[ir];omega),List.getElem?_take,if_pos hj,Array.getElem?_toList]
 ·have holds:∀j u,xs[j]?=M u→W.cell? ((⟨g,0,N⟩:Addr).add j)=M u:=ah.cells (g:=g) rfl
  have h2:=run_append_grow (P:=prog) W 33 ty 94 i0 _ underlying33 hi bq ⟨g,0,N⟩ l cp xs (by rw[bg];exact ah.1) holds a 1 c [u0,u1,u2] (by rw[bg];rfl) lz qb qb (growslice_fits qb qan);rw[h2]at hr;injection hr with hv hw;subst hw;exact⟨cs,(Lib.alloc_old W.drew _ _ (Ag hb)).trans hb,λ_ _=>rfl⟩
theorem step_appQ2{s x:Operand}{o:Oper}{K:Act->E->Prop}{AF:Prop}(ri:o.guard=N)(ho:o.op=.call { callee:=.builtin .append,args:=#[s,x],argTypes:=#[33,33] })(B:X)(v:Z)(nn:X)(xs:L Z)(hs:a.eval s=v)(ah:W.ownsRow B 94 3 v nn xs)(d:X)(u0 u1 u2:Z)(hx:a.eval x=J (p_ d) 1 1)(hc:W.heap[d]?=M (O #[u0,u1,u2] 94 (0,0)))(h1:∀u∈[u0,u1,u2],u.oneCell'=true)(hB:B<=W.heap.size)(hn:nn<=10000)(h:∀g' ai w',w'.ownsRow B 94 3 (J (p_ g') (nn+1) ai) (nn+1) (xs++[u0,u1,u2])->W.grownBy w' v.ownBlock->(v.ownBlock=M g'\/g'=W.heap.size)->Ka v W w'->K (a.put o.dst (J (p_ g') (nn+1) ai)) w'):if Region.wanted o (yielded ops a.tmps)=true then Oper.wp prog o a W K Q else AF:=by
 have hw:Region.wanted o (yielded ops a.tmps)=true:=qby
 obtain⟨i0,hi,bq,bg,bv⟩:=info_parts Tryz.info97x;have lz:=World.news_of_block (cs:=#[u0,u1,u2]) (t:=94) (fr:=(0,0)) hc;obtain⟨g,cap,w',hr,h2,h3,h4,h5⟩:=run_append_lies (P:=prog) W 33 o.type B 94 i0 (G #[nS,nS,ze]) 3 64 underlying33 hi bq bg bv rfl qd v nn xs ah ⟨d,0,N⟩ 1 1 [u0,u1,u2] rfl lz h1 qb qm qb hB W.heap.size rfl;rw[if_pos hw];unfold Oper.wp execOp;simp only[ho,resolve,invoke,builtin,Sem.run_bind,Sem.run_pure,Result.andThen_ok,List.map_toArray,List.map_cons,List.map_nil,hs,hx,hr];exact h g cap w' h2 h3 h4 (append_old ah _ _ _ _ _ lz h1 hn hr)
theorem Dj.more{T U:L By}{b:Hm}(h:Dj n T [x] U (M b))(ys:L By):Dj n T ([x]++ys) T (M b)/\U=T:=by
 cases h with
 | go _ _ h3=>cases h3
 | clash h1 h2=>exact⟨.clash h1 h2,rfl⟩
 | full h1 h2=>exact⟨.full h1 h2,rfl⟩
theorem Ka.next{v:Z}(h:Ka v w w1)(k:∀(g:X)(cs:Array Z),w1.heap[g]?=M (O cs 94 (0,0))->w2.heap[g]?=M (O cs 94 (0,0))):Ka v w w2:=λg l cp cs e hb=>by
 obtain⟨A4,h1,h2⟩:=h g l cp cs e hb;exact⟨A4,k g A4 h1,h2⟩
theorem k2_of{o:Obj}{row:Option X}(hg:(w.alloc o).grownBy w2 row):∀b,b<w.heap.size->row≠M b->w2.heap[b]?=w.heap[b]?:=λb h1 h2=>by rw[hg.block b qh (λe=>h2 e.symm),Lib.alloc_old _ _ _ h1]
theorem bel_of{o:Obj}{row:Option X}(hg:(w.alloc o).grownBy w2 row)(hB:B<=w.heap.size)(hr:∀b,row=M b->B<=b):Below B w w2:=((Below.refl B w).alloc hB o).grown hg qh hr
section
variable {B h mb:X} {C:Gg} {ss:L S2} {ts:L T2} {w w':E} {ms:Mm} {s:Sb} {lu ld:X} {av kv:Z} {r:Rv}
theorem Fc.gN(k:Fc B h mb C ss ts w ms s lu ld av kv r)(hB:B<=w.heap.size)(X7:∀b,av.ownBlock=M b->b<w.heap.size)(C6:∀b,kv.ownBlock=M b->b<w.heap.size){w2:E}{nw:Z}{x:By}(am:Below B w w2)(k2:∀b,b<w.heap.size->r.nv.ownBlock≠M b->w2.heap[b]?=w.heap[b]?)(fg:w2.ownsRow B 9 1 nw (s.ran++[x]).length (Aq (s.ran++[x])))(hl:∀b,nw.ownBlock=M b->r.nv.ownBlock=M b\/w.heap.size<=b):Fc B h mb C ss ts (w2.setCell ⟨C.hb,1,N⟩ nw) ms ⟨s.T,s.R,s.ran++[x],s.held⟩ lu ld av kv ⟨r.tx,r.su,r.qv,nw,r.ev,r.uv,r.dv,r.sn⟩/\FrR B C r ⟨r.tx,r.su,r.qv,nw,r.ev,r.uv,r.dv,r.sn⟩ w (w2.setCell ⟨C.hb,1,N⟩ nw):=by
 obtain⟨f,f1,f2⟩:=k.sn;obtain⟨xs,u1⟩:=k.us;obtain⟨ys,d1,d2⟩:=k.df;obtain⟨zs,cv,lv,qr⟩:=k.qs;have f9:w2.heap[C.hb]?=M (O (Pv C h r) 168 (0,0)):=by rw[k2 _ (Ag k.bd) (Ae k.ran qd k.bd)];exact k.bd
 have cw:w2.heap[C.hs]?=M (O #[I C.n,r.tx,r.qv,r.su] 171 (0,0)):=by rw[k2 _ (Ag k.sh) (Ae k.ran qd k.sh)];exact k.sh
 have hne:∀b,b≠C.hb->(w2.setCell ⟨C.hb,1,N⟩ nw).heap[b]?=w2.heap[b]?:=λb e=>hC w2 ⟨C.hb,1,N⟩ _ b e
 have um:∀(b:X)(cs:Array Z)(T:TypeId),T≠168->w.heap[b]?=M (O cs T (0,0))->b≠C.hb:=λb cs T hT hb e=>by
  exact qbd
 have kk:∀ {e sz n:X} {u:Z} {ys:L Z},w.ownsRow B e sz u n ys->(∀b,u.ownBlock=M b->r.nv.ownBlock≠M b)->e≠168->(w2.setCell ⟨C.hb,1,N⟩ nw).ownsRow B e sz u n ys:=λho hx he=>Al ho λb q=>by
  exact qav
 have hHb:C.hb≠C.hs:=λe=>by have q:=k.sh;rw[←e,k.bd]at q;injection q with q;injection q with _ q;exact absurd q qd
 refine⟨⟨k.lb,k.wd,qbx,qbu,⟨f,f1.same (by rw[hne _ (λe=>f1.notCells (e▸k.bd)),k2 _ f1.lt (λe=>by obtain⟨cs,c1⟩:=Az k.ran _ e;exact f1.notCells c1)]),f2⟩,kk k.tx (λb q1 q2=>k.ap.ne (i:=4) (j:=2) qd qg qg b q2 q1) qd,kk k.su (λb q1 q2=>k.ap.ne (i:=4) (j:=3) qd qg qg b q2 q1) qd,k.qs.kept (λb q=>by rw[hne b (by obtain⟨cs,c1⟩:=Az qr.row b q;exact um b cs _ qd c1),k2 b (qr.row.lt b q).2 (λe=>apart qr.row k.ran qd b q e)]) (λb cs T hT q=>by rw[hne b (um b cs T (by rcases hT with e|e<;>rw[e]<;>decide) q),k2 b (Ag q) (Ae k.ran (by rcases hT with e|e<;>rw[e]<;>decide) q)];exact q),Ao fg ⟨_,f9⟩ qd _,kk k.held (λb q1 q2=>k.ap.ne (i:=4) (j:=5) qd qg qg b q2 q1) qd,⟨xs,kk u1 (apart u1 k.ran qd) qd⟩,⟨ys,kk d1 (apart d1 k.ran qd) qd,d2⟩,k.ud,Hp.set k.ap 4 nw qg hl (λv hv b q=>by
  simp only[List.mem_cons,List.not_mem_nil,or_false]at hv
  rcases hv with rfl|rfl|rfl|rfl|rfl|rfl
  ·exact X7 b q
  ·exact C6 b q
  ·exact(k.tx.lt b q).2
  ·exact(k.su.lt b q).2
  ·exact(k.ran.lt b q).2
  ·exact(k.held.lt b q).2)⟩,⟨?_,λb hb ho=>?_,λb e=>?_⟩⟩
 ·exact am.setCell (p:=⟨C.hb,1,N⟩) (k.lb.1) _
 ·exact qlm
 ·exact qhf
theorem Fc.gE(k:Fc B h mb C ss ts w ms s lu ld av kv r)(hB:B<=w.heap.size)(X7:∀b,av.ownBlock=M b->b<w.heap.size)(C6:∀b,kv.ownBlock=M b->b<w.heap.size){w2:E}{nw:Z}{x:By}(am:Below B w w2)(k2:∀b,b<w.heap.size->r.ev.ownBlock≠M b->w2.heap[b]?=w.heap[b]?)(fg:w2.ownsRow B 9 1 nw (s.held++[x]).length (Aq (s.held++[x])))(hl:∀b,nw.ownBlock=M b->r.ev.ownBlock=M b\/w.heap.size<=b):Fc B h mb C ss ts (w2.setCell ⟨C.hb,2,N⟩ nw) ms ⟨s.T,s.R,s.ran,s.held++[x]⟩ lu ld av kv ⟨r.tx,r.su,r.qv,r.nv,nw,r.uv,r.dv,r.sn⟩/\FrR B C r ⟨r.tx,r.su,r.qv,r.nv,nw,r.uv,r.dv,r.sn⟩ w (w2.setCell ⟨C.hb,2,N⟩ nw):=by
 obtain⟨f,f1,f2⟩:=k.sn;obtain⟨xs,u1⟩:=k.us;obtain⟨ys,d1,d2⟩:=k.df;obtain⟨zs,cv,lv,qr⟩:=k.qs;have f9:w2.heap[C.hb]?=M (O (Pv C h r) 168 (0,0)):=by rw[k2 _ (Ag k.bd) (Ae k.held qd k.bd)];exact k.bd
 have cw:w2.heap[C.hs]?=M (O #[I C.n,r.tx,r.qv,r.su] 171 (0,0)):=by rw[k2 _ (Ag k.sh) (Ae k.held qd k.sh)];exact k.sh
 have hne:∀b,b≠C.hb->(w2.setCell ⟨C.hb,2,N⟩ nw).heap[b]?=w2.heap[b]?:=λb e=>hC w2 ⟨C.hb,2,N⟩ _ b e
 have um:∀(b:X)(cs:Array Z)(T:TypeId),T≠168->w.heap[b]?=M (O cs T (0,0))->b≠C.hb:=λb cs T hT hb e=>by
  exact qbd
 have kk:∀ {e sz n:X} {u:Z} {ys:L Z},w.ownsRow B e sz u n ys->(∀b,u.ownBlock=M b->r.ev.ownBlock≠M b)->e≠168->(w2.setCell ⟨C.hb,2,N⟩ nw).ownsRow B e sz u n ys:=λho hx he=>Al ho λb q=>by
  exact qav
 have hHb:C.hb≠C.hs:=λe=>by have q:=k.sh;rw[←e,k.bd]at q;injection q with q;injection q with _ q;exact absurd q qd
 refine⟨⟨k.lb,k.wd,qbx,qbu,⟨f,f1.same (by rw[hne _ (λe=>f1.notCells (e▸k.bd)),k2 _ f1.lt (λe=>by obtain⟨cs,c1⟩:=Az k.held _ e;exact f1.notCells c1)]),f2⟩,kk k.tx (λb q1 q2=>k.ap.ne (i:=5) (j:=2) qd qg qg b q2 q1) qd,kk k.su (λb q1 q2=>k.ap.ne (i:=5) (j:=3) qd qg qg b q2 q1) qd,k.qs.kept (λb q=>by rw[hne b (by obtain⟨cs,c1⟩:=Az qr.row b q;exact um b cs _ qd c1),k2 b (qr.row.lt b q).2 (λe=>apart qr.row k.held qd b q e)]) (λb cs T hT q=>by rw[hne b (um b cs T (by rcases hT with e|e<;>rw[e]<;>decide) q),k2 b (Ag q) (Ae k.held (by rcases hT with e|e<;>rw[e]<;>decide) q)];exact q),kk k.ran (λb q1 q2=>k.ap.ne (i:=5) (j:=4) qd qg qg b q2 q1) qd,Ao fg ⟨_,f9⟩ qd _,⟨xs,kk u1 (apart u1 k.held qd) qd⟩,⟨ys,kk d1 (apart d1 k.held qd) qd,d2⟩,k.ud,Hp.set k.ap 5 nw qg hl (λv hv b q=>by
  simp only[List.mem_cons,List.not_mem_nil,or_false]at hv
  rcases hv with rfl|rfl|rfl|rfl|rfl|rfl
  ·exact X7 b q
  ·exact C6 b q
  ·exact(k.tx.lt b q).2
  ·exact(k.su.lt b q).2
  ·exact(k.ran.lt b q).2
  ·exact(k.held.lt b q).2)⟩,⟨?_,λb hb ho=>?_,λb e=>?_⟩⟩
 ·exact am.setCell (p:=⟨C.hb,2,N⟩) (k.lb.1) _
 ·exact qln
 ·exact qhg
theorem Fc.gU(k:Fc B h mb C ss ts w ms s lu ld av kv r)(hB:B<=w.heap.size)(X7:∀b,av.ownBlock=M b->b<w.heap.size)(C6:∀b,kv.ownBlock=M b->b<w.heap.size){w2:E}{nw:Z}{nxs:L Bool}{lu2:X}(am:Below B w w2)(k2:∀b,b<w.heap.size->r.uv.ownBlock≠M b->w2.heap[b]?=w.heap[b]?)(fg:w2.ownsRow B 4 1 nw lu2 (nxs.map .bool))(hl:∀b,nw.ownBlock=M b->r.uv.ownBlock=M b\/w.heap.size<=b):Fc B h mb C ss ts (w2.setCell ⟨C.hb,3,N⟩ nw) ms s lu2 ld av kv ⟨r.tx,r.su,r.qv,r.nv,r.ev,nw,r.dv,r.sn⟩/\FrR B C r ⟨r.tx,r.su,r.qv,r.nv,r.ev,nw,r.dv,r.sn⟩ w (w2.setCell ⟨C.hb,3,N⟩ nw):=by
 obtain⟨f,f1,f2⟩:=k.sn;obtain⟨xs,u1⟩:=k.us;obtain⟨ys,d1,d2⟩:=k.df;obtain⟨zs,cv,lv,qr⟩:=k.qs;have f9:w2.heap[C.hb]?=M (O (Pv C h r) 168 (0,0)):=by rw[k2 _ (Ag k.bd) (Ae u1 qd k.bd)];exact k.bd
 have cw:w2.heap[C.hs]?=M (O #[I C.n,r.tx,r.qv,r.su] 171 (0,0)):=by rw[k2 _ (Ag k.sh) (Ae u1 qd k.sh)];exact k.sh
 have hne:∀b,b≠C.hb->(w2.setCell ⟨C.hb,3,N⟩ nw).heap[b]?=w2.heap[b]?:=λb e=>hC w2 ⟨C.hb,3,N⟩ _ b e
 have um:∀(b:X)(cs:Array Z)(T:TypeId),T≠168->w.heap[b]?=M (O cs T (0,0))->b≠C.hb:=λb cs T hT hb e=>by
  exact qbd
 have kk:∀ {e sz n:X} {u:Z} {ys:L Z},w.ownsRow B e sz u n ys->(∀b,u.ownBlock=M b->r.uv.ownBlock≠M b)->e≠168->(w2.setCell ⟨C.hb,3,N⟩ nw).ownsRow B e sz u n ys:=λho hx he=>Al ho λb q=>by
  exact qav
 have hHb:C.hb≠C.hs:=λe=>by have q:=k.sh;rw[←e,k.bd]at q;injection q with q;injection q with _ q;exact absurd q qd
 refine⟨⟨k.lb,k.wd,qbx,qbu,⟨f,f1.same (by rw[hne _ (λe=>f1.notCells (e▸k.bd)),k2 _ f1.lt (λe=>by obtain⟨cs,c1⟩:=Az u1 _ e;exact f1.notCells c1)]),f2⟩,kk k.tx (apart k.tx u1 qd) qd,kk k.su (apart k.su u1 qd) qd,k.qs.kept (λb q=>by rw[hne b (by obtain⟨cs,c1⟩:=Az qr.row b q;exact um b cs _ qd c1),k2 b (qr.row.lt b q).2 (λe=>apart qr.row u1 qd b q e)]) (λb cs T hT q=>by rw[hne b (um b cs T (by rcases hT with e|e<;>rw[e]<;>decide) q),k2 b (Ag q) (Ae u1 (by rcases hT with e|e<;>rw[e]<;>decide) q)];exact q),kk k.ran (apart k.ran u1 qd) qd,kk k.held (apart k.held u1 qd) qd,⟨nxs,Ao fg ⟨_,f9⟩ qd _⟩,⟨ys,kk d1 (λb q1 q2=>k.ud b q2 q1) qd,d2⟩,λb q1 q2=>by rcases hl b q1 with q|q;exact k.ud b q q2;have:=(d1.lt b q2).2;omega,k.ap⟩,⟨?_,λb hb ho=>?_,λb e=>?_⟩⟩
 ·exact am.setCell (p:=⟨C.hb,3,N⟩) (k.lb.1) _
 ·rw[hne b (λe=>ho (Or.inl e)),k2 b hb (λe=>ho (Aw C (u:=r.uv) qq e))]
 ·rcases e with e|e|e|⟨u,hu,e⟩
  ·exact Or.inl (Or.inl e)
  ·exact Or.inl (Or.inr (Or.inl e))
  ·exact Or.inl (Or.inr (Or.inr (Or.inl e)))
  ·simp only[Mw,List.mem_cons,List.not_mem_nil,or_false]at hu
   rcases hu with rfl|rfl|rfl|rfl|rfl|rfl|rfl
   ·exact Or.inl (Aw C (u:=r.tx) qq e)
   ·exact Or.inl (Aw C (u:=r.su) qq e)
   ·exact Or.inl (Aw C (u:=r.qv) qq e)
   ·exact Or.inl (Aw C (u:=r.nv) qq e)
   ·exact Or.inl (Aw C (u:=r.ev) qq e)
   ·rcases hl b e with q|q;exact Or.inl (Aw C (u:=r.uv) qq q);exact Or.inr q
   ·exact Or.inl (Aw C (u:=r.dv) qq e)
theorem Fc.gD(k:Fc B h mb C ss ts w ms s lu ld av kv r)(hB:B<=w.heap.size)(X7:∀b,av.ownBlock=M b->b<w.heap.size)(C6:∀b,kv.ownBlock=M b->b<w.heap.size){w2:E}{nw:Z}{nxs:L Bool}{ld2:X}(am:Below B w w2)(k2:∀b,b<w.heap.size->r.dv.ownBlock≠M b->w2.heap[b]?=w.heap[b]?)(fg:w2.ownsRow B 4 1 nw ld2 (nxs.map .bool))(hdf:∀i:X,nxs[i]?=M true->NoH ss ts C.n ms (qx s.R i).looks)(hl:∀b,nw.ownBlock=M b->r.dv.ownBlock=M b\/w.heap.size<=b):Fc B h mb C ss ts (w2.setCell ⟨C.hb,12,N⟩ nw) ms s lu ld2 av kv ⟨r.tx,r.su,r.qv,r.nv,r.ev,r.uv,nw,r.sn⟩/\FrR B C r ⟨r.tx,r.su,r.qv,r.nv,r.ev,r.uv,nw,r.sn⟩ w (w2.setCell ⟨C.hb,12,N⟩ nw):=by
 obtain⟨f,f1,f2⟩:=k.sn;obtain⟨xs,u1⟩:=k.us;obtain⟨ys,d1,d2⟩:=k.df;obtain⟨zs,cv,lv,qr⟩:=k.qs;have f9:w2.heap[C.hb]?=M (O (Pv C h r) 168 (0,0)):=by rw[k2 _ (Ag k.bd) (Ae d1 qd k.bd)];exact k.bd
 have cw:w2.heap[C.hs]?=M (O #[I C.n,r.tx,r.qv,r.su] 171 (0,0)):=by rw[k2 _ (Ag k.sh) (Ae d1 qd k.sh)];exact k.sh
 have hne:∀b,b≠C.hb->(w2.setCell ⟨C.hb,12,N⟩ nw).heap[b]?=w2.heap[b]?:=λb e=>hC w2 ⟨C.hb,12,N⟩ _ b e
 have um:∀(b:X)(cs:Array Z)(T:TypeId),T≠168->w.heap[b]?=M (O cs T (0,0))->b≠C.hb:=λb cs T hT hb e=>by
  exact qbd
 have kk:∀ {e sz n:X} {u:Z} {ys:L Z},w.ownsRow B e sz u n ys->(∀b,u.ownBlock=M b->r.dv.ownBlock≠M b)->e≠168->(w2.setCell ⟨C.hb,12,N⟩ nw).ownsRow B e sz u n ys:=λho hx he=>Al ho λb q=>by
  exact qav
 have hHb:C.hb≠C.hs:=λe=>by have q:=k.sh;rw[←e,k.bd]at q;injection q with q;injection q with _ q;exact absurd q qd
 refine⟨⟨k.lb,k.wd,qbx,qbu,⟨f,f1.same (by rw[hne _ (λe=>f1.notCells (e▸k.bd)),k2 _ f1.lt (λe=>by obtain⟨cs,c1⟩:=Az d1 _ e;exact f1.notCells c1)]),f2⟩,kk k.tx (apart k.tx d1 qd) qd,kk k.su (apart k.su d1 qd) qd,k.qs.kept (λb q=>by rw[hne b (by obtain⟨cs,c1⟩:=Az qr.row b q;exact um b cs _ qd c1),k2 b (qr.row.lt b q).2 (λe=>apart qr.row d1 qd b q e)]) (λb cs T hT q=>by rw[hne b (um b cs T (by rcases hT with e|e<;>rw[e]<;>decide) q),k2 b (Ag q) (Ae d1 (by rcases hT with e|e<;>rw[e]<;>decide) q)];exact q),kk k.ran (apart k.ran d1 qd) qd,kk k.held (apart k.held d1 qd) qd,⟨xs,kk u1 (λb q1 q2=>k.ud b q1 q2) qd⟩,⟨nxs,Ao fg ⟨_,f9⟩ qd _,hdf⟩,λb q1 q2=>by rcases hl b q2 with q|q;exact k.ud b q1 q;have:=(u1.lt b q1).2;omega,k.ap⟩,⟨?_,λb hb ho=>?_,λb e=>?_⟩⟩
 ·exact am.setCell (p:=⟨C.hb,12,N⟩) (k.lb.1) _
 ·rw[hne b (λe=>ho (Or.inl e)),k2 b hb (λe=>ho (Aw C (u:=r.dv) qq e))]
 ·rcases e with e|e|e|⟨u,hu,e⟩
  ·exact Or.inl (Or.inl e)
  ·exact Or.inl (Or.inr (Or.inl e))
  ·exact Or.inl (Or.inr (Or.inr (Or.inl e)))
  ·simp only[Mw,List.mem_cons,List.not_mem_nil,or_false]at hu
   rcases hu with rfl|rfl|rfl|rfl|rfl|rfl|rfl
   ·exact Or.inl (Aw C (u:=r.tx) qq e)
   ·exact Or.inl (Aw C (u:=r.su) qq e)
   ·exact Or.inl (Aw C (u:=r.qv) qq e)
   ·exact Or.inl (Aw C (u:=r.nv) qq e)
   ·exact Or.inl (Aw C (u:=r.ev) qq e)
   ·exact Or.inl (Aw C (u:=r.uv) qq e)
   ·rcases hl b e with q|q;exact Or.inl (Aw C (u:=r.dv) qq q);exact Or.inr q
theorem Fc.gQ(k:Fc B h mb C ss ts w ms s lu ld av kv r)(hB:B<=w.heap.size)(X7:∀b,av.ownBlock=M b->b<w.heap.size)(C6:∀b,kv.ownBlock=M b->b<w.heap.size){w2:E}{nw:Z}{R2:L T3}(am:Below B w w2)(k2:∀b,b<w.heap.size->r.qv.ownBlock≠M b->w2.heap[b]?=w.heap[b]?)(hq:Ex (w2.setCell ⟨C.hs,2,N⟩ nw) B nw R2)(hdf:∀ys:L Bool,(∀i:X,ys[i]?=M true->NoH ss ts C.n ms (qx s.R i).looks)->∀i:X,ys[i]?=M true->NoH ss ts C.n ms (qx R2 i).looks)(hl:∀b,nw.ownBlock=M b->r.qv.ownBlock=M b\/w.heap.size<=b):Fc B h mb C ss ts (w2.setCell ⟨C.hs,2,N⟩ nw) ms ⟨s.T,R2,s.ran,s.held⟩ lu ld av kv ⟨r.tx,r.su,nw,r.nv,r.ev,r.uv,r.dv,r.sn⟩/\FrR B C r ⟨r.tx,r.su,nw,r.nv,r.ev,r.uv,r.dv,r.sn⟩ w (w2.setCell ⟨C.hs,2,N⟩ nw):=by
 obtain⟨f,f1,f2⟩:=k.sn;obtain⟨xs,u1⟩:=k.us;obtain⟨ys,d1,d2⟩:=k.df;obtain⟨zs,cv,lv,qr⟩:=k.qs;have f9:w2.heap[C.hb]?=M (O (Pv C h r) 168 (0,0)):=by rw[k2 _ (Ag k.bd) (Ae qr.row qd k.bd)];exact k.bd
 have cw:w2.heap[C.hs]?=M (O #[I C.n,r.tx,r.qv,r.su] 171 (0,0)):=by rw[k2 _ (Ag k.sh) (Ae qr.row qd k.sh)];exact k.sh
 have hne:∀b,b≠C.hs->(w2.setCell ⟨C.hs,2,N⟩ nw).heap[b]?=w2.heap[b]?:=λb e=>hC w2 ⟨C.hs,2,N⟩ _ b e
 have um:∀(b:X)(cs:Array Z)(T:TypeId),T≠171->w.heap[b]?=M (O cs T (0,0))->b≠C.hs:=λb cs T hT hb e=>by
  exact qly
 have kk:∀ {e sz n:X} {u:Z} {ys:L Z},w.ownsRow B e sz u n ys->(∀b,u.ownBlock=M b->r.qv.ownBlock≠M b)->e≠171->(w2.setCell ⟨C.hs,2,N⟩ nw).ownsRow B e sz u n ys:=λho hx he=>Al ho λb q=>by
  exact qav
 have hHb:C.hb≠C.hs:=λe=>by have q:=k.sh;rw[←e,k.bd]at q;injection q with q;injection q with _ q;exact absurd q qd
 refine⟨⟨k.lb,k.wd,by rw[hne _ hHb];exact f9,by rw[jB cw];rfl,⟨f,f1.same (by rw[hne _ (λe=>f1.notCells (e▸k.sh)),k2 _ f1.lt (λe=>by obtain⟨cs,c1⟩:=Az qr.row _ e;exact f1.notCells c1)]),f2⟩,kk k.tx (apart k.tx qr.row qd) qd,kk k.su (apart k.su qr.row qd) qd,hq,kk k.ran (apart k.ran qr.row qd) qd,kk k.held (apart k.held qr.row qd) qd,⟨xs,kk u1 (apart u1 qr.row qd) qd⟩,⟨ys,kk d1 (apart d1 qr.row qd) qd,hdf ys d2⟩,k.ud,k.ap⟩,⟨?_,λb hb ho=>?_,λb e=>?_⟩⟩
 ·exact am.setCell (p:=⟨C.hs,2,N⟩) (k.lb.2.1) _
 ·exact qkq
 ·exact qhe
end
theorem Lt.two{P:Program}{AC:E->Prop}{z i:X}{oi oj:Oper}{l:Array Bool}(hr:Region.ready .any ops l=[i,j])(hi:ops[i]?=M oi)(hj:ops[j]?=M oj)(h1:∀K:Act->E->Prop,Shut (∀a w,(i≠z->AC w)->((i≠z->AC w)->Lt P ops Q AC z n (l.setIfInBounds i true) a w)->K a w)->if Region.wanted oi (yielded ops a.tmps)=true then Oper.wp P oi a w K Q else K (a.put oi.dst undef) w)(h2:∀K:Act->E->Prop,Shut (∀a w,(j≠z->AC w)->((j≠z->AC w)->Lt P ops Q AC z n (l.setIfInBounds j true) a w)->K a w)->if Region.wanted oj (yielded ops a.tmps)=true then Oper.wp P oj a w K Q else K (a.put oj.dst undef) w):Lt P ops Q AC z (n+1) l a w:=by
 refine⟨λh0=>(by rw[hr]at h0;cases h0),λk hk=>?_⟩;rw[hr]at hk
 rcases(by simpa using hk:k=i\/k=j)with rfl|rfl
 ·exact wpOp_step hi (λK hK=>h1 K (λa w hS hW=>hK a w ⟨hS,hW hS⟩))
 ·exact wpOp_step hj (λK hK=>h2 K (λa w hS hW=>hK a w ⟨hS,hW hS⟩))
section
variable {B h mb k:X} {C:Gg} {sv tv:Z} {ss:L S2} {ts:L T2} {w:E} {ms:Mm} {mk st:L By} {al:X} {av kv:Z} {vs:By->Z} {s:Sb} {r:Rv}
theorem BS.old9(q:BS B h mb k C sv tv ss ts w ms mk st al av kv vs s r){w2:E}{u:Z}{n j:X}{xs:L Z}{nw:Z}(ho:w.ownsRow B 9 1 u n xs)(k2:∀b,b<w.heap.size->u.ownBlock≠M b->w2.heap[b]?=w.heap[b]?):Ka r.qv w (w2.setCell ⟨C.hb,j,N⟩ nw):=Ka.same λb e=>by
 obtain⟨zs,cv,lv,qr⟩:=q.rs.qs;obtain⟨cs,c1⟩:=Az qr.row b e;rw[hC w2 ⟨C.hb,j,N⟩ _ b (λe=>by have e:b=C.hb:=e;have o:=q.rs.bd;rw[←e,c1]at o;injection o with o;injection o with _ o;exact absurd o qd),k2 b (Ag c1) (Ae ho qd c1)]
theorem BS.grE(q:BS B h mb k C sv tv ss ts w ms mk st al av kv vs s r)(hB:B<=w.heap.size){w2:E}{nw:Z}{x:By}(am:Below B w w2)(k2:∀b,b<w.heap.size->r.ev.ownBlock≠M b->w2.heap[b]?=w.heap[b]?)(fg:w2.ownsRow B 9 1 nw (s.held++[x]).length (Aq (s.held++[x])))(hl:∀b,nw.ownBlock=M b->r.ev.ownBlock=M b\/w.heap.size<=b):BS B h mb k C sv tv ss ts (w2.setCell ⟨C.hb,2,N⟩ nw) ms mk st al av kv vs ⟨s.T,s.R,s.ran,s.held++[x]⟩ ⟨r.tx,r.su,r.qv,r.nv,nw,r.uv,r.dv,r.sn⟩/\KQ B h mb C av kv r ⟨r.tx,r.su,r.qv,r.nv,nw,r.uv,r.dv,r.sn⟩ w (w2.setCell ⟨C.hb,2,N⟩ nw):=by
 obtain⟨AA,AG⟩:=(Fc.of q.rs).gE hB q.ownA.1 q.ownA.2 am k2 fg hl;exact q.upd AG.bel AG.keep AA.to AG.new (q.old9 q.rs.held k2) (Nat.le_refl _)
theorem BS.grN(q:BS B h mb k C sv tv ss ts w ms mk st al av kv vs s r)(hB:B<=w.heap.size){w2:E}{nw:Z}{x:By}(am:Below B w w2)(k2:∀b,b<w.heap.size->r.nv.ownBlock≠M b->w2.heap[b]?=w.heap[b]?)(fg:w2.ownsRow B 9 1 nw (s.ran++[x]).length (Aq (s.ran++[x])))(hl:∀b,nw.ownBlock=M b->r.nv.ownBlock=M b\/w.heap.size<=b):BS B h mb k C sv tv ss ts (w2.setCell ⟨C.hb,1,N⟩ nw) ms mk st al av kv vs ⟨s.T,s.R,s.ran++[x],s.held⟩ ⟨r.tx,r.su,r.qv,nw,r.ev,r.uv,r.dv,r.sn⟩/\KQ B h mb C av kv r ⟨r.tx,r.su,r.qv,nw,r.ev,r.uv,r.dv,r.sn⟩ w (w2.setCell ⟨C.hb,1,N⟩ nw):=by
 obtain⟨AA,AG⟩:=(Fc.of q.rs).gN hB q.ownA.1 q.ownA.2 am k2 fg hl;exact q.upd AG.bel AG.keep AA.to AG.new (q.old9 q.rs.ran k2) (Nat.le_refl _)
end
theorem k2_via{row:Option X}(hb:Bw w w1)(hg:w1.grownBy w2 row):∀b,b<w.heap.size->row≠M b->w2.heap[b]?=w.heap[b]?:=λb h1 h2=>by rw[hg.block b (zo hb.size) (λe=>h2 e.symm),hb.block b h1]
theorem bel_via{row:Option X}(hb:Bw w w1)(hg:w1.grownBy w2 row)(hB:B<=w.heap.size)(hr:∀b,row=M b->B<=b):Below B w w2:=(hb.mono hB).grown hg (zo hb.size) hr
end Go.Proofs.YtbkkjodaaijimaaGreatDoor
