import Derived.Test.YtnflkpmmfpfhlaaGreatDoorBvO
namespace Go.Proofs.YtnflkpmmfpfhlaaGreatDoor
open Value renaming slice->J,string->S,agg->G,pointer->D,tuple->Y
open Option renaming some->M,none->N
open Obj renaming cells->O
open Go renaming Value->Z,World->E
open Ending renaming returned->H
open _root_ renaming List->L,Nat->X
set_option maxHeartbeats 8000000
set_option maxRecDepth 100000
open _root_.Go.Proofs.Tryz Go.RowKit Go.Deep
set_option linter.unusedVariables false
set_option linter.unusedSimpArgs false
variable {w w' w2 w3 W w1:E} {g lo hi n j g3 l3 c3 B:X} {sv tv qv v:Z} {ss ts ts':L By} {x:By} {xs:L Z} {ops:Array Oper} {a:Act} {Q:Exit->Act->E->Prop}
structure Mj (w:E) (g lo hi n:X) (sv tv qv:Z) (ss ts:L By):Prop where
 blk:w.heap[g]?=M (O #[I (n:Int),tv,qv,sv] 136 (0,0))
 sx:Ds w lo hi sv ss
 tx:Ds w lo hi tv ts
 qs:∃a l c,qv=J a l c
 ne:∀b,sv.ownBlock=M b→tv.ownBlock≠M b
theorem Mj.bl(h:Mj w g lo hi n sv tv qv ss ts)(hb:Bw w w'):Mj w' g lo hi n sv tv qv ss ts:=⟨Af h.blk hb,h.sx.bl hb,h.tx.bl hb,h.qs,h.ne⟩
theorem Mj.wide{lo' hi':X}(h:Mj w g lo hi n sv tv qv ss ts)(h1:lo'≤lo)(h2:hi≤hi'):Mj w g lo' hi' n sv tv qv ss ts:=⟨h.blk,h.sx.wide h1 h2,h.tx.wide h1 h2,h.qs,h.ne⟩
theorem Mj.lt(h:Mj w g lo hi n sv tv qv ss ts):g<w.heap.size:=Fp h.blk
theorem Mj.setT{b T:X}(h:Mj w g lo hi n sv tv qv ss ts)(ht:Dl w b T)(hg:b≠g)(h9:T≠9)(h1:T≠73)(h2:T≠174)(h3:T≠115)(u:Z):Mj (w.setCell ⟨b,j,N⟩ u) g lo hi n sv tv qv ss ts:=
 ⟨by rw[Dm w ⟨b,j,N⟩ u g (by show g≠b;omega)];exact h.blk,h.sx.setT ht h9 u,h.tx.setT ht h9 u,h.qs,h.ne⟩
theorem Mj.insS{ss':L By}(h:Mj w g lo hi n sv tv qv ss ts)(hh:hi≤w.heap.size)(hb:Bw w w2)(hl:l3=ss'.length)(ho:w3.ownsRow lo 9 1 (J (p_ g3) l3 c3) l3 (ss'.map .string))(hk:Ej sv.ownBlock w2 w3)(hs:w2.heap.size≤w3.heap.size)(dh:sv.ownBlock=M g3∨g3=w2.heap.size):Mj (w3.setCell ⟨g,3,N⟩ (J (p_ g3) l3 c3)) g lo w3.heap.size n (J (p_ g3) l3 c3) tv qv ss' ts:=by
 subst hl;have h2:=h.bl hb;have mr:=hb.size;have ai:=h2.lt;have os:=Bu.own h2.sx;have ot:=Bu.own h2.tx
 have kg:w3.heap[g]?=M (O #[I (n:Int),tv,qv,sv] 136 (0,0)):=by
  rw[hk g ai (λe=>Dl.ne (T:=136) ⟨_,h2.blk⟩ os qh e.symm)];exact h2.blk
 have ht:Dl w3 g 136:=⟨_,kg⟩;have t3:Ds w3 lo w3.heap.size tv ts:=Ds.wide (Bu.same h2.tx λb e=>hk b (ot.lt b e).2 (λe'=>h.ne b e'.symm e)) (Nat.le_refl _) qg;have s3:Ds w3 lo w3.heap.size (J (p_ g3) ss'.length c3) ss':=Bu.new ho;refine⟨blk4_s3 kg _,s3.setT ht qh _,t3.setT ht qh _,h.qs,?_⟩;intro b e e';obtain rfl:g3=b:=qcv
 rcases dh with hl|hl
 ·exact h.ne g3 hl e'
 ·have:=(ot.lt g3 e').2;omega
theorem Mj.insT(h:Mj w g lo hi n sv tv qv ss ts)(hh:hi≤w.heap.size)(hb:Bw w w2)(hl:l3=ts'.length)(ho:w3.ownsRow lo 9 1 (J (p_ g3) l3 c3) l3 (ts'.map .string))(hk:Ej tv.ownBlock w2 w3)(hs:w2.heap.size≤w3.heap.size)(dh:tv.ownBlock=M g3∨g3=w2.heap.size):Mj (w3.setCell ⟨g,1,N⟩ (J (p_ g3) l3 c3)) g lo w3.heap.size n sv (J (p_ g3) l3 c3) qv ss ts':=by
 subst hl;have h2:=h.bl hb;have mr:=hb.size;have ai:=h2.lt;have os:=Bu.own h2.sx;have ot:=Bu.own h2.tx
 have kg:w3.heap[g]?=M (O #[I (n:Int),tv,qv,sv] 136 (0,0)):=by
  rw[hk g ai (λe=>Dl.ne (T:=136) ⟨_,h2.blk⟩ ot qh e.symm)];exact h2.blk
 have ht:Dl w3 g 136:=⟨_,kg⟩;have s3:Ds w3 lo w3.heap.size sv ss:=Ds.wide (Bu.same h2.sx λb e=>hk b (os.lt b e).2 (λe'=>h.ne b e e'.symm)) (Nat.le_refl _) qg;have t3:Ds w3 lo w3.heap.size (J (p_ g3) ts'.length c3) ts':=Bu.new ho;refine⟨blk4_s1 kg _,s3.setT ht qh _,t3.setT ht qh _,h.qs,?_⟩;intro b e e';obtain rfl:g3=b:=by simpa [Value.ownBlock] using e'
 rcases dh with hl|hl
 ·exact h.ne g3 e hl
 ·have:=(os.lt g3 e).2;omega
theorem Mj.set6T{R:X}(h:Mj w g lo hi n sv tv qv ss ts)(ht:Dl w R 129)(hg:R≠g)(u1 u2 u3 u4 u5 u6:Z):Mj ((((((w.setCell ⟨R,0,N⟩ u1).setCell ⟨R,1,N⟩ u2).setCell ⟨R,2,N⟩ u3).setCell ⟨R,3,N⟩ u4).setCell ⟨R,4,N⟩ u5).setCell ⟨R,5,N⟩ u6) g lo hi n sv tv qv ss ts:=
 (((((h.setT ht hg qh qh qh qh u1).setT (ht.set u1) hg qh qh qh qh u2).setT ((ht.set u1).set u2) hg qh qh qh qh u3).setT (((ht.set u1).set u2).set u3) hg qh qh qh qh u4).setT ((((ht.set u1).set u2).set u3).set u4) hg qh qh qh qh u5).setT (((((ht.set u1).set u2).set u3).set u4).set u5) hg qh qh qh qh u6

def Wj(w w':E)(g:X)(tv sv:Z):Prop:=∀b,b<w.heap.size→b≠g→sv.ownBlock≠M b→tv.ownBlock≠M b→w'.heap[b]?=w.heap[b]?
def Sy(w:E)(g lo n:X)(sv tv qv:Z)(ts:L By)(x:By)(e:Ending)(w':E):Prop:=
 ∃r cd ts' A B P3 O8,e=H (G #[I cd,I 0,nS,nS,S A,S B])∧Wm n ts (Ap n x) r∧Ji n ts x r cd ts' A B∧Below lo w w'∧Mj w' g lo w'.heap.size n P3 O8 qv (ts'.map (Ap n)) ts'∧Wj w w' g tv sv∧(∀b,P3.ownBlock=M b→sv.ownBlock=M b∨w.heap.size≤b)∧(∀b,O8.ownBlock=M b→tv.ownBlock=M b∨w.heap.size≤b)
theorem Sy.mk{r:X}{P3 O8:Z}{A B:By}{cd:Int}(vp:lo≤w.heap.size)(hB:Below lo w w')(hR:Dl w' w.heap.size 129)(hp:Wm n ts (Ap n x) r)(hr:Ji n ts x r cd ts' A B)(hg:g<w.heap.size)(dp:Mj w' g lo w'.heap.size n P3 O8 qv (ts'.map (Ap n)) ts')(hk:Wj w w' g tv sv)(hs:∀b,P3.ownBlock=M b→sv.ownBlock=M b∨w.heap.size≤b)(ht:∀b,O8.ownBlock=M b→tv.ownBlock=M b∨w.heap.size≤b)(u1 u2 u3 u4 u5 u6:Z):Sy w g lo n sv tv qv ts x (H (G #[I cd,I 0,nS,nS,S A,S B])) ((((((w'.setCell ⟨w.heap.size,0,N⟩ u1).setCell ⟨w.heap.size,1,N⟩ u2).setCell ⟨w.heap.size,2,N⟩ u3).setCell ⟨w.heap.size,3,N⟩ u4).setCell ⟨w.heap.size,4,N⟩ u5).setCell ⟨w.heap.size,5,N⟩ u6):=
 ⟨r,cd,ts',A,B,P3,O8,rfl,hp,hr,Ja hB vp _ _ _ _ _ _,Mj.wide (Mj.set6T dp hR qg u1 u2 u3 u4 u5 u6) (Nat.le_refl _) qi,λb h1 h2 h3 h4=>by rw[Fm qg];exact hk b h1 h2 h3 h4,hs,ht⟩
theorem put_b(g lo hi n:X)(ta:Option Addr)(p1:X)(sv qv:Z)(ts:L By)(x:By)(w:E)(h1:1≤n)(h8:n≤8)(hx:x.size≤1048576)(hl:ts.length≤5000)(fc:Hf (ts.map (Ap n)))(hlg:lo≤g)(hh:hi≤w.heap.size)(dp:Mj w g lo hi n sv (J ta ts.length p1) qv (ts.map (Ap n)) ts):Calls prog 169 #[D (p_ g),S x] w λe w'=>Sy w g lo n sv (J ta ts.length p1) qv ts x e w':=by
 obtain⟨sa,sc,esv,hss⟩:=Ds.sl dp.sx;rw[List.length_map]at esv;subst esv;obtain⟨qa,ql,qc,rfl⟩:=dp.qs;have hgl:=Mj.lt dp;have vp:lo≤w.heap.size:=qg;obtain⟨W,eW⟩:=Aj (w.alloc (O #[I 0,I 0,nS,nS,ze,ze] 129));have ak:Bw w W:=qgt;have HK:Hd (W.heap[w.heap.size]?=M (O #[I 0,I 0,nS,nS,ze,ze] 129 (0,0))):=by show _=_;rw[←eW];exact Cr _ _
 have N5:=Ab dp;have jt:=Ab fc;have fm:=Ab hss;obtain⟨c0,c1,c2,c3,cf⟩:=Kk (N5.o.bl ak).blk;obtain⟨sm,esm⟩:=Aj (Ap n x);have ly:Hd (∀W':E,Calls prog 36 #[S x,I (n:Int)] W' λe w'=>e=H (S sm)∧Bw W' w'):=λW'=>by rw[←esm];exact Hc x n W' hx h1 h8
 have ESM:=Ab esm
 have HBS:Hd (∀W':E,Cu W' sa (ts.map (Ap n))→Calls prog 120 #[J sa ts.length sc,S sm] W' λe w'=>W'=w'∧∃(r:X)(b:Bool),e=H (Y #[I r,.bool b])∧Wm n ts sm r∧(b=true↔(r<ts.length∧Ap n (nx ts r)=sm))):=λW' hW=>by
  have h:=Ue sa sc (ts.map (Ap n)) sm W' hW (by rw[List.length_map];omega) jt.o;rw[List.length_map]at h;refine h.mono ?_;rintro e w' ⟨rfl,r,b,rfl,k1,k2,k3,k4⟩;refine⟨rfl,r,b,rfl,⟨k1,λj hj=>?_,λhj=>?_⟩,?_⟩
  ·rw[←Hj n ts j qg];exact k2 j hj
  ·rw[←Hj n ts r hj];exact k3 r (Nat.le_refl _) hj
  ·rcases k4 with⟨rfl,k5,k6⟩|⟨rfl,k5⟩
   ·exact⟨λ_=>⟨k5,by rw[←Hj n ts r k5];exact k6⟩,λ_=>rfl⟩
   ·exact⟨λh=>absurd h qh,λh=>absurd ⟨h.1,by rw[Hj n ts r h.1];exact h.2⟩ k5⟩
 clear esm dp fc hss;go_enter func169,ntmps169;go_wp2_with fail;clear eW;refine(ly.o _).mono ?_;rintro e w1 ⟨rfl,ag⟩;have bm:=bt ak ag;have fb:=Ab (Af HK.o ag);have iw:=Ab (N5.o.bl bm);have fg:=Fp fb.o;clear c0 c1 c2 c3 cf ak ag HK;obtain⟨c0,c1,c2,c3,cf⟩:=Kk iw.o.blk;go_wp2_with fail;refine(HBS.o _ (fm.o.bl bm)).mono ?_;rintro e w2 ⟨Q0,r,t,rfl,hp,hr⟩;subst Q0;have A5:Hd (Wm n ts (Ap n x) r):=by show Wm _ _ _ _;rw[ESM.o];exact hp
 have A4:Hd (t=true↔Jm n ts x r):=by show _↔_;unfold Jm;rw[ESM.o];exact hr
 have hrl:=hp.le;clear hp hr HBS ly;obtain⟨r0,r1,r2,r3,r4,r5⟩:=Hn fb.o;have rf:=(λj=>fH fb.o j);have S8:Hd (Dl w1 w.heap.size 129):=⟨_,fb.o⟩;have R9:Hd (Mj w1 g lo w1.heap.size n (J sa ts.length sc) (J ta ts.length p1) (J qa ql qc) (ts.map (Ap n)) ts):=Mj.wide iw.o (Nat.le_refl _) qg;have HKS:Hd (Wj w w1 g (J ta ts.length p1) (J sa ts.length sc)):=λb hb _ _ _=>bm.block b hb;have HOWN:Hd (∀b,(Value.slice sa ts.length sc).ownBlock=M b→(Value.slice sa ts.length sc).ownBlock=M b∨w.heap.size≤b):=λb h=>Or.inl h;cases t
 ·have Y2:Hd (¬ Jm n ts x r):=λh=>by have:=A4.o.2 h;cases this
  by_cases h5:5000≤ts.length
  ·have HP:Hd (Ji n ts x r 3 ts ⟨#[]⟩ ⟨#[]⟩):=Or.inr (Or.inr (Or.inl ⟨Y2.o,h5,rfl,rfl,rfl,rfl⟩))
   have e5:ts.length=5000:=qg;(have d5:(((ts.length:X):Int) == 5000)=true:=by rw[e5];rfl);clear e5 A4;go_wp2;refine bR (v:=G #[I 3,I 0,nS,nS,ze,ze]) qeh rfl (Sy.mk vp (bm.mono vp) S8.o A5.o HP.o hgl R9.o HKS.o HOWN.o (λb h=>Or.inl h) _ _ _ _ _ _)
  ·have HP:Hd (Ji n ts x r 0 (Hg ts x r) ⟨#[]⟩ ⟨#[]⟩):=Or.inr (Or.inr (Or.inr ⟨Y2.o,h5,rfl,rfl,rfl,rfl⟩))
   (have d5:(((ts.length:X):Int) == 5000)=false:=by rw[beq_eq_false_iff_ne];omega);clear A4 Y2 R9 HKS HOWN S8;obtain⟨w2,e2⟩:=Aj (w1.alloc (O #[S sm] 9));have af:=aB e2;(have HV2:Hd (w2.heap[w1.heap.size]?=M (O #[S sm] 9 (0,0))):=by show _=_;rw[←e2];exact Cr _ _);have ir:=Fp HV2.o
   have HINS:Hd (Calls prog 181 #[J sa ts.length sc,I r,J (p_ w1.heap.size) 1 1] w2 λe w'=>∃g' cp,e=H (J (p_ g') (ts.length+1) cp)∧w'.ownsRow lo 9 1 (J (p_ g') (ts.length+1) cp) (ts.length+1) ((Hg (ts.map (Ap n)) sm r).map Value.string)∧Below lo w2 w'∧Ej (Value.slice sa ts.length sc).ownBlock w2 w'∧((Value.slice sa ts.length sc).ownBlock=M g'∨g'=w2.heap.size)):=by
    have ho:w2.ownsRow lo 9 1 (J sa ts.length sc) ts.length ((ts.map (Ap n)).map Value.string):=by
     have:=Bu.own (iw.o.bl af).sx;rw[List.length_map]at this;exact this
    rw[Qr];exact Sp lo ts.length r w1.heap.size _ _ (S sm) w2 ho qg hrl qg HV2.o (λe=>by have:=Bu.top iw.o.sx _ e;omega) (Nx _) qel
   have dy:=Ab af;clear af;go_wp2_with fail;clear e2;refine HINS.o.mono ?_;rintro e w3 ⟨g3,p3,rfl,ho3,au,gu,hl3⟩;have o6:=au.size;have xy:=(iw.o.bl dy.o).blk
   have kg3:w3.heap[g]?=M (O #[I (n:Int),J ta ts.length p1,J qa ql qc,J sa ts.length sc] 136 (0,0)):=by
    rw[gu g qg (λe=>Dl.ne (T:=136) ⟨_,xy⟩ (Bu.own (iw.o.bl dy.o).sx) qh e.symm)];exact xy
   have iy:Hd (w3.heap[w.heap.size]?=M (O #[I 0,I 0,nS,nS,ze,ze] 129 (0,0))):=by
    show _=_;rw[gu _ qg (λe=>by have:=Bu.top iw.o.sx _ e.symm;omega)];exact Af fb.o dy.o
   have X5:Hd (Mj (w3.setCell ⟨g,3,N⟩ (J (p_ g3) (ts.length+1) p3)) g lo w3.heap.size n (J (p_ g3) (ts.length+1) p3) (J ta ts.length p1) (J qa ql qc) (Hg (ts.map (Ap n)) sm r) ts):=
    Mj.insS iw.o qg dy.o (by rw[Ix _ _ _ (by rw[List.length_map];exact hrl),List.length_map]) ho3 gu o6 hl3
   have HKP3:Hd (∀b,b<w.heap.size→b≠g→(Value.slice sa ts.length sc).ownBlock≠M b→(Value.slice ta ts.length p1).ownBlock≠M b→w3.heap[b]?=w.heap[b]?):=λb q1 q2 q3 q4=>by
    rw[gu b qg (λe=>q3 e.symm),dy.o.block b qg,bm.block b q1]
   have HBL3:Hd (Below lo w w3):=(bm.mono vp).trans ((dy.o.mono qg).trans au)
   have HL3:Hd (∀b,(Value.slice (p_ g3) (ts.length+1) p3).ownBlock=M b→(Value.slice sa ts.length sc).ownBlock=M b∨w.heap.size≤b):=λb e=>by
    obtain rfl:g3=b:=qcv
    rcases hl3 with h|h
    ·exact Or.inl h
    ·right;omega
   clear c0 c1 c2 c3 cf r0 r1 r2 r3 r4 r5 rf xy ho3 au gu hl3 HINS HV2;obtain⟨c0,c1,c2,c3,cf⟩:=Kk kg3;obtain⟨w4,e4⟩:=Aj (w3.setCell ⟨g,3,N⟩ (J (p_ g3) (ts.length+1) p3));(have gq:Hd (Mj w4 g lo w3.heap.size n (J (p_ g3) (ts.length+1) p3) (J ta ts.length p1) (J qa ql qc) (Hg (ts.map (Ap n)) sm r) ts):=by show Mj _ _ _ _ _ _ _ _ _ _;rw[←e4];exact X5.o);have H8:w3.heap.size≤w4.heap.size∧w4.heap.size≤w3.heap.size:=by rw[←e4];simp
   have lp:Hd (w4.heap[w.heap.size]?=M (O #[I 0,I 0,nS,nS,ze,ze] 129 (0,0))):=by
    show _=_;rw[←e4,Dm w3 ⟨g,3,N⟩ _ w.heap.size (by show w.heap.size≠g;omega)];exact iy.o
   have HKP4:Hd (∀b,b<w.heap.size→b≠g→(Value.slice sa ts.length sc).ownBlock≠M b→(Value.slice ta ts.length p1).ownBlock≠M b→w4.heap[b]?=w.heap[b]?):=λb q1 q2 q3 q4=>by
    rw[←e4,Dm w3 ⟨g,3,N⟩ _ b q2];exact HKP3.o b q1 q2 q3 q4
   (have HBL4:Hd (Below lo w w4):=by show Below _ _ _;rw[←e4];exact HBL3.o.setCell (p:=⟨g,3,N⟩) hlg _);obtain⟨x0,x1,x2,x3,xf⟩:=Kk gq.o.blk;obtain⟨w5,e5⟩:=Aj (w4.alloc (O #[S x] 9));(have ko:Hd (Bw w4 w5):=by show Below _ _ _;rw[←e5];exact aN _ _);(have HV5:Hd (w5.heap[w4.heap.size]?=M (O #[S x] 9 (0,0))):=by show _=_;rw[←e5];exact Cr _ _);have yl:=Fp HV5.o
   have HINS:Hd (Calls prog 181 #[J ta ts.length p1,I r,J (p_ w4.heap.size) 1 1] w5 λe w'=>∃g' cp,e=H (J (p_ g') (ts.length+1) cp)∧w'.ownsRow lo 9 1 (J (p_ g') (ts.length+1) cp) (ts.length+1) ((Hg ts x r).map Value.string)∧Below lo w5 w'∧Ej (Value.slice ta ts.length p1).ownBlock w5 w'∧((Value.slice ta ts.length p1).ownBlock=M g'∨g'=w5.heap.size)):=by
    rw[Qr];exact Sp lo ts.length r w4.heap.size _ _ (S x) w5 (Bu.own (gq.o.bl ko.o).tx) qg hrl qg HV5.o (λe=>by have:=Bu.top gq.o.tx _ e;omega) (Nx _) qel
   go_wp2_with fail;clear e4 e5;refine HINS.o.mono ?_;rintro e w6 ⟨g6,p6,rfl,ho6,bj,it,hl6⟩;have xu:=bj.size;have hg5:=(gq.o.bl ko.o).blk
   have kg6:w6.heap[g]?=M (O #[I (n:Int),J ta ts.length p1,J qa ql qc,J (p_ g3) (ts.length+1) p3] 136 (0,0)):=by
    rw[it g qg (λe=>Dl.ne (T:=136) ⟨_,hg5⟩ (Bu.own (gq.o.bl ko.o).tx) qh e.symm)];exact hg5
   have kr6:w6.heap[w.heap.size]?=M (O #[I 0,I 0,nS,nS,ze,ze] 129 (0,0)):=by
    rw[it _ qg (λe=>by have:=Bu.top N5.o.tx _ e.symm;omega)];exact Af lp.o ko.o
   have HSJ:Hd (Mj (w6.setCell ⟨g,1,N⟩ (J (p_ g6) (ts.length+1) p6)) g lo w6.heap.size n (J (p_ g3) (ts.length+1) p3) (J (p_ g6) (ts.length+1) p6) (J qa ql qc) (Hg (ts.map (Ap n)) sm r) (Hg ts x r)):=
    Mj.insT gq.o qg ko.o (Ix _ _ _ hrl).symm ho6 it xu hl6
   have HKP6:Hd (Wj w (w6.setCell ⟨g,1,N⟩ (J (p_ g6) (ts.length+1) p6)) g (J ta ts.length p1) (J sa ts.length sc)):=λb q1 q2 q3 q4=>by
    rw[Dm w6 ⟨g,1,N⟩ _ b q2,it b qg (λe=>q4 e.symm),ko.o.block b qg];exact HKP4.o b q1 q2 q3 q4
   have HBL6:Hd (Below lo w (w6.setCell ⟨g,1,N⟩ (J (p_ g6) (ts.length+1) p6))):=(HBL4.o.trans ((ko.o.mono qg).trans bj)).setCell (p:=⟨g,1,N⟩) hlg _
   have O1:Hd (∀b,(Value.slice (p_ g6) (Hg ts x r).length p6).ownBlock=M b→(Value.slice ta ts.length p1).ownBlock=M b∨w.heap.size≤b):=λb e=>by
    obtain rfl:g6=b:=qcv
    rcases hl6 with h|h
    ·exact Or.inl h
    ·right;omega
   have HHT6:Hd (Dl (w6.setCell ⟨g,1,N⟩ (J (p_ g6) (ts.length+1) p6)) w.heap.size 129):=Dl.set ⟨_,kr6⟩ _
   have R9:Hd (Mj (w6.setCell ⟨g,1,N⟩ (J (p_ g6) (ts.length+1) p6)) g lo (w6.setCell ⟨g,1,N⟩ (J (p_ g6) (ts.length+1) p6)).heap.size n (J (p_ g3) (ts.length+1) p3) (J (p_ g6) (Hg ts x r).length p6) (J qa ql qc) ((Hg ts x r).map (Ap n)) (Hg ts x r)):=by
    show Mj _ _ _ _ _ _ _ _ _ _;rw[map_insX,ESM.o,Ix _ _ _ hrl];exact Mj.wide HSJ.o (Nat.le_refl _) qi
   clear c0 c1 c2 c3 cf x0 x1 x2 x3 xf hg5 ho6 bj it hl6 HINS HV5 HSJ;obtain⟨c0,c1,c2,c3,cf⟩:=Kk kg6;obtain⟨r0,r1,r2,r3,r4,r5⟩:=Hn kr6;have rf:=(λj=>fH kr6 j);go_wp2;refine bR (v:=G #[I 0,I 0,nS,nS,ze,ze]) qeh rfl (Sy.mk vp HBL6.o HHT6.o A5.o HP.o hgl R9.o HKP6.o HL3.o O1.o _ _ _ _ _ _)
 ·obtain⟨h3,h4⟩:=A4.o.1 rfl
  have yx:Hd (Jm n ts x r):=⟨h3,h4⟩;have hrI:(r:Int)<(ts.length:Int):=qg
  obtain⟨tb,toff,rfl,k1⟩:∃tb toff,ta=M ⟨tb,toff,N⟩∧w1.cell? ⟨tb,toff+r,N⟩=M (S (nx ts r)):=by
   obtain⟨a',c',ea,cr⟩:=Ds.sl iw.o.tx;cases ea;obtain⟨b',bz,ea,c⟩:=cr r h3;exact⟨b',bz,ea,c⟩
  by_cases hne:nx ts r=x
  ·have HP:Hd (Ji n ts x r 0 ts ⟨#[]⟩ ⟨#[]⟩):=Or.inr (Or.inl ⟨yx.o,hne,rfl,rfl,rfl,rfl⟩)
   have jh:=Fk hne;clear A4 yx h4 hne;generalize nx ts r=z at k1 jh;go_wp2;refine bR (v:=G #[I 0,I 0,nS,nS,ze,ze]) qeh rfl (Sy.mk vp (bm.mono vp) S8.o A5.o HP.o hgl R9.o HKS.o HOWN.o (λb h=>Or.inl h) _ _ _ _ _ _)
  ·have HP:Hd (Ji n ts x r 2 ts (nx ts r) x):=Or.inl ⟨yx.o,hne,rfl,rfl,rfl,rfl⟩
   have jh:=Hi hne;clear A4 yx h4 hne;generalize nx ts r=z at k1 jh HP;go_wp2;refine bR (v:=G #[I 2,I 0,nS,nS,S z,S x]) qeh rfl (Sy.mk vp (bm.mono vp) S8.o A5.o HP.o hgl R9.o HKS.o HOWN.o (λb h=>Or.inl h) _ _ _ _ _ _)
theorem Ju.set2{l:L Z}(h:Ju l)(i j:X)(u v:Z){AI:X}(n9:i<j)(hj:j<l.length)(hu:∀b,u.ownBlock=M b->(l[i]'qg).ownBlock=M b\/AI<=b)(hv:∀b,v.ownBlock=M b->l[j].ownBlock=M b\/AI<=b)(huv:∀b,u.ownBlock=M b->v.ownBlock≠M b)(ai:∀v∈l,∀b,v.ownBlock=M b->b<AI):Ju ((l.set i u).set j v):=by
 have h1:=h.set i u qg hu ai;unfold Ju at *;rw[List.pairwise_iff_getElem]at *;intro a c ha hc hac b e1 e2;rw[List.length_set]at ha hc
 have key:∀(d:X)(hd:d<(l.set i u).length),d≠j->∀b,(l.set i u)[d].ownBlock=M b->v.ownBlock=M b->False:=λd hd hne b q1 q2=>by
  rw[List.getElem_set]at q1
  split at q1
  ·exact huv b q1 q2
  ·rw[List.length_set]at hd
   rcases hv b q2 with k|k
   ·rcases Nat.lt_or_ge d j with o|o
    ·exact h d j hd hj o b q1 k
    ·exact h j d hj hd qg b k q1
   ·have:=ai _ (List.getElem_mem hd) b q1;omega
 rw[List.getElem_set]at e1 e2
 split at e1
 ·rename_i q
  rw[if_neg qg]at e2;exact key c hc qg b e2 e1
 ·split at e2
  ·exact key a ha qg b e1 e2
  ·exact h1 a c ha hc hac b e1 e2
section
variable {B h mb k:X} {C:Fr} {sv tv:Z} {ss:L S2} {ts:L T2} {w w':E} {ms:Mm} {mk st:L By} {al:X} {av kv:Z} {vs:By->Z} {s:Sb} {r:Rv}
theorem BS.shP(q:BS B h mb k C sv tv ss ts w ms mk st al av kv vs s r):∃ta p1,r.tx=J ta s.T.length p1/\Mj w C.hs B w.heap.size C.n r.su (J ta s.T.length p1) r.qv (s.T.map (Ap C.n)) s.T:=by
 obtain⟨ta,tc,e1⟩:=Al q.rs.tx;obtain⟨zs,cv,lv,qr⟩:=q.rs.qs;obtain⟨ra,rc,e3⟩:=Al qr.row;have dp:=q.rs.sh;have Z8:=q.rs.tx;rw[e1]at dp Z8;refine⟨ta,tc,e1,dp,?_,⟨Z8,λb e=>(Z8.lt b e).2⟩,⟨_,_,_,e3⟩,λb e1' e2'=>?_⟩
 ·have hsu:=q.rs.su
  refine⟨?_,λb e=>(hsu.lt b e).2⟩;rw[List.length_map];exact hsu
 ·rw[←e1]at e2'
  exact q.rs.ap.ne (i:=3) (j:=2) qh qi qi b e1' e2'
theorem BS.put(q:BS B h mb k C sv tv ss ts w ms mk st al av kv vs s r){P3 O8:Z}{ts':L By}(hb:Below B w w')(hp:Mj w' C.hs B w'.heap.size C.n P3 O8 r.qv (ts'.map (Ap C.n)) ts')(hk:Wj w w' C.hs r.tx r.su)(h1:∀b,P3.ownBlock=M b→r.su.ownBlock=M b∨w.heap.size≤b)(h2:∀b,O8.ownBlock=M b→r.tx.ownBlock=M b∨w.heap.size≤b):BS B h mb k C sv tv ss ts w' ms mk st al av kv vs ⟨ts',s.R,s.ran,s.held,s.us⟩ ⟨O8,P3,r.qv,r.nv,r.ev,r.uv,r.dv,r.sn⟩/\KQ B h mb C av kv r ⟨O8,P3,r.qv,r.nv,r.ev,r.uv,r.dv,r.sn⟩ w w':=by
 obtain⟨f,f1,f2⟩:=q.rs.sn;obtain⟨xs,u1,u9⟩:=q.rs.us;obtain⟨ys,d1,d2⟩:=q.rs.df;obtain⟨zs,cv,lv,qr⟩:=q.rs.qs
 have kT:∀(b:X)(cs:Array Z)(T:TypeId),T≠136->T≠9->w.heap[b]?=M (O cs T (0,0))->w'.heap[b]?=M (O cs T (0,0)):=λb cs T n1 n2 hh=>by
  rw[hk b (Ag hh) (λe=>by have o:=q.rs.sh;rw[←e,hh]at o;injection o with o;injection o with _ o;exact n1 o) (Ae q.rs.su n2 hh) (Ae q.rs.tx n2 hh)];exact hh
 have kR:∀ {e sz n:X} {u:Z} {ys:L Z},w.ownsRow B e sz u n ys->e≠136->e≠9->w'.ownsRow B e sz u n ys:=λho n1 n2=>An ho λb o=>by
  obtain⟨cs,c1⟩:=Bd ho b o;rw[c1];exact kT b cs _ n1 n2 c1
 have k9:∀ {n:X} {u:Z} {ys:L Z},w.ownsRow B 9 1 u n ys->(∀b,u.ownBlock=M b->r.su.ownBlock≠M b/\r.tx.ownBlock≠M b)->w'.ownsRow B 9 1 u n ys:=λho hx=>An ho λb o=>by
  obtain⟨cs,c1⟩:=Bd ho b o;exact hk b (ho.lt b o).2 (λe=>by have o:=q.rs.sh;rw[←e,c1]at o;injection o with o;injection o with _ o;exact absurd o qh) (hx b o).1 (hx b o).2
 have Is:=q.rs.ap;have hsb:w'.heap[C.sb]?=w.heap[C.sb]?:=hk _ f1.lt (λe=>f1.notCells (e▸q.rs.sh)) (λe=>by obtain⟨cs,c1⟩:=Bd q.rs.su _ e;exact f1.notCells c1) (λe=>by obtain⟨cs,c1⟩:=Bd q.rs.tx _ e;exact f1.notCells c1);refine q.upd hb (λb hl ho=>hk b hl (λe=>ho (Or.inr (Or.inl e))) (λe=>ho (Bk C (u:=r.su) qy e)) (λe=>ho (Bk C (u:=r.tx) qy e))) ⟨q.rs.lb,q.rs.wd,kT _ _ _ qh qh q.rs.bd,hp.blk,⟨f,f1.same hsb,f2⟩,Bu.own hp.tx,?_,q.rs.qs.kept (λb o=>?_) (λb cs T hT hh=>kT b cs T (by rcases hT with e|e<;>rw[e]<;>decide) (by rcases hT with e|e<;>rw[e]<;>decide) hh),k9 q.rs.ran (λb o=>⟨Is.ne (i:=4) (j:=3) qh qi qi b o,Is.ne (i:=4) (j:=2) qh qi qi b o⟩),k9 q.rs.held (λb o=>⟨Is.ne (i:=5) (j:=3) qh qi qi b o,Is.ne (i:=5) (j:=2) qh qi qi b o⟩),⟨xs,kR u1 qh qh,u9⟩,⟨ys,kR d1 qh qh,d2⟩,q.rs.ud,Ju.set2 Is 2 3 O8 P3 qh qi h2 h1 (λb e1 e2=>hp.ne b e2 e1) (q.rs.l6 q.ownA.1 q.ownA.2)⟩ (λb o=>?_) (Lr.same λb o=>?_) (Nat.le_refl _)
 ·have:=Bu.own hp.sx
  rw[List.length_map]at this;exact this
 ·exact qnc
 ·rcases o with o|o|o|⟨u,hu,o⟩
  ·exact Or.inl (Or.inl o)
  ·exact Or.inl (Or.inr (Or.inl o))
  ·exact Or.inl (Or.inr (Or.inr (Or.inl o)))
  ·simp only[Ol,List.mem_cons,List.not_mem_nil,or_false]at hu
   rcases hu with rfl|rfl|rfl|rfl|rfl|rfl|rfl
   ·rcases h2 b o with q1|q1;exact Or.inl (Bk C (u:=r.tx) qy q1);exact Or.inr q1
   ·rcases h1 b o with q1|q1;exact Or.inl (Bk C (u:=r.su) qy q1);exact Or.inr q1
   ·exact Or.inl (Bk C (u:=r.qv) qy o)
   ·exact Or.inl (Bk C (u:=r.nv) qy o)
   ·exact Or.inl (Bk C (u:=r.ev) qy o)
   ·exact Or.inl (Bk C (u:=r.uv) qy o)
   ·exact Or.inl (Bk C (u:=r.dv) qy o)
 ·exact qnc
end
def PutTB(B h mb k:X)(C:Fr)(sv tv:Z)(ss:L S2)(ts:L T2)(ms:Mm)(mk st:L By)(al:X)(av kv:Z)(vs:By->Z)(s:Sb)(r:Rv)(x:By)(w:E)(e:Ending)(w':E):Prop:=
 (∃v,e=H v/\∃T' r',v=Y #[]/\Dr C.n s.T [x] T' N/\BS B h mb k C sv tv ss ts w' ms mk st al av kv vs ⟨T',s.R,s.ran,s.held,s.us⟩ r'/\KQ B h mb C av kv r r' w w'/\r'.sn=r.sn)\/
 (∃v,e=Lm v/\∃b r',Dr C.n s.T [x] s.T (M b)/\Dj B C w' b v/\KQ B h mb C av kv r r' w w')
theorem Sf(B h mb k:X)(C:Fr)(sv tv:Z)(ss:L S2)(ts:L T2)(ms:Mm)(mk st:L By)(al:X)(av kv:Z)(vs:By->Z)(s:Sb)(r:Rv)(x:By)(w:E)(q:BS B h mb k C sv tv ss ts w ms mk st al av kv vs s r)(hB:B<=w.heap.size)(fw:Wf C.n s.T)(hx:x.size<=2002):Calls prog 150 #[D (p_ C.hb),S x] w λe w'=>PutTB B h mb k C sv tv ss ts ms mk st al av kv vs s r x w e w':=by
 obtain⟨ta,p1,etx,sw⟩:=q.shP
 have Y1:Hd (Calls prog 169 #[D (p_ C.hs),S x] w λe w'=>Sy w C.hs B C.n r.su r.tx r.qv s.T x e w'):=by
  show Calls _ _ _ _ _;rw[etx];exact put_b C.hs B w.heap.size C.n ta p1 r.su r.qv s.T x w q.rs.wd.1 q.rs.wd.2 qg fw.1 fw.2.2 q.rs.lb.2.1 (Nat.le_refl _) sw
 obtain⟨y0,-⟩:=q.rs.cellsB;have HQ:=Ab q;clear q etx sw;go_enter func150,ntmps150;go_wp2_with fail;refine Y1.o.mono ?_;rintro e w1 ⟨rr,cd,ts',A,B',P3,O8,rfl,d7,hpr,ag,dp,hks,fg,ir⟩;obtain⟨b1,k1⟩:=HQ.o.put ag dp hks fg ir;have d6:=Ab b1;have fb:=Ab k1;have A5:=Ab d7;have we:=Ab hpr;clear Y1 d7 hpr ag dp hks fg ir b1 k1 y0;have de:=fb.o.bel.size
 rcases we.o with⟨c1,c2,rfl,rfl,rfl,rfl⟩|⟨c1,c2,rfl,rfl,rfl,rfl⟩|⟨c1,c2,rfl,rfl,rfl,rfl⟩|⟨c1,c2,rfl,rfl,rfl,rfl⟩
 ·have za:Hd (Dr C.n s.T [B'] s.T (M (.clash (nx s.T rr) B'))):=.clash A5.o we.o
  clear we c1 c2;generalize nx s.T rr=A at za ⊢;obtain⟨V,eV⟩:=Aj (w1.alloc (O #[I 2,I 0,nS,nS,S A,S B'] 129));have pw:=aB eV;(have gj:Hd (V.heap[w1.heap.size]?=M (O #[I 2,I 0,nS,nS,S A,S B'] 129 (0,0))):=by show _=_;rw[←eV];exact Fg _ _);have D8:=Ab (d6.o.bl pw);have oc:=Ab (fb.o.after (Am.refl _ _) (Am.refl _ _) d6.o pw qg);obtain⟨⟨z0,z1,z2,z3,z4,z5⟩,zf⟩:=Sv gj.o;have HBD:=Ab D8.o.rs.bd
  obtain⟨b4,b5,b6,b7,b8,b9⟩:V.cell? ⟨C.hb,4,N⟩=M (I 0)/\V.cell? ⟨C.hb,5,N⟩=M (I 0)/\V.cell? ⟨C.hb,6,N⟩=M nS/\V.cell? ⟨C.hb,7,N⟩=M nS/\V.cell? ⟨C.hb,8,N⟩=M ze/\V.cell? ⟨C.hb,9,N⟩=M ze:=by
   refine⟨?_,?_,?_,?_,?_,?_⟩<;>rw[cH HBD.o]<;>rfl
  have bf:=fZ HBD.o;clear pw
  go_upto_region 3 with fail
  try rw[eV]
  clear eV;go_wp2_with fail;have ul:=De (b:=C.hb) [(C.hb,4,I 2),(C.hb,5,I 0),(C.hb,6,nS),(C.hb,7,nS),(C.hb,8,S A),(C.hb,9,S B')] V _ qi HBD.o;have hnl:∀b,b≠C.hb->(Bo V [(C.hb,4,I 2),(C.hb,5,I 0),(C.hb,6,nS),(C.hb,7,nS),(C.hb,8,S A),(C.hb,9,S B')]).heap[b]?=V.heap[b]?:=λb e=>Fb _ V (by simp[e]);have bv:=Bg (w:=w) [(C.hb,4,I 2),(C.hb,5,I 0),(C.hb,6,nS),(C.hb,7,nS),(C.hb,8,S A),(C.hb,9,S B')] V oc.o.bel (by simp[D8.o.rs.lb.1]);refine⟨rfl,Or.inr ⟨_,rfl,_,⟨O8,P3,r.qv,r.nv,r.ev,r.uv,r.dv,r.sn⟩,za.o,⟨?_,?_,rfl⟩,⟨bv,λb hb n1 n2 n3 n4 n5=>(hnl b (λe=>n5 (Or.inl e))).trans (oc.o.keep b hb n1 n2 n3 n4 n5),oc.o.new,λg l cp cs e hg=>?_,oc.o.len⟩⟩⟩
  ·exact(cH ul 8).trans rfl
  ·exact(cH ul 9).trans rfl
  ·obtain⟨N4,g1,g2⟩:=oc.o.old g l cp cs e hg
   exact⟨N4,(hnl g (λe=>by subst e;rw[HBD.o]at g1;injection g1 with g1;injection g1 with _ g1;exact absurd g1 qh)).trans g1,g2⟩
 ·have za:Hd (Dr C.n s.T [x] s.T N):=.go A5.o we.o .nil
  clear we c1 c2;go_wp2_with fail;refine bodyPost_end (v:=Y #[]) (by simp[results,results150,go_sem]) rfl ?_;exact Or.inl ⟨_,rfl,s.T,_,rfl,za.o,d6.o.bl (Ai _ _),fb.o.after (Am.refl _ _) (Am.refl _ _) d6.o (Ai _ _) qg,rfl⟩
 ·have za:Hd (Dr C.n s.T [x] s.T (M .full)):=.full A5.o we.o
  clear we c1 c2;go_wp2_with fail;have iz:=Af d6.o.rs.bd (Ai w1 (O #[I 3,I 0,nS,nS,ze,ze] 129));exact⟨rfl,Or.inr ⟨_,rfl,_,_,za.o,⟨qes,qes,rfl⟩,fb.o.after (Am.refl _ _) (Am.refl _ _) d6.o (Ai _ _) qg⟩⟩
 ·have za:Hd (Dr C.n s.T [x] (Hg s.T x rr) N):=.go A5.o we.o .nil
  clear we c1 c2;go_wp2_with fail;refine bodyPost_end (v:=Y #[]) (by simp[results,results150,go_sem]) rfl ?_;exact Or.inl ⟨_,rfl,_,_,rfl,za.o,d6.o.bl (Ai _ _),fb.o.after (Am.refl _ _) (Am.refl _ _) d6.o (Ai _ _) qg,rfl⟩
theorem Dv.addI{h:X}{nw c d:Z}{R:L T3}{rec:T3}{cv lv:X->Z}{cs:Array Z}(r:Dv w B v R xs cv lv)(hg:w.grownBy w' v.ownBlock)(ho:w'.ownsRow B 73 3 nw (R.length+1) (xs++[c,d,S rec.out])){zs us:L Z}(h1:w.ownsRow B 174 3 c rec.code.length zs)(h2:Cs rec.code rec.code.length zs)(h3:w.ownsRow B 115 3 d rec.looks.length us)(h4:Bx rec.looks rec.looks.length us)(hc:∀i,i<R.length->∀b,(cv i).ownBlock=M b->c.ownBlock≠M b)(hd:∀i,i<R.length->∀b,(lv i).ownBlock=M b->d.ownBlock≠M b)(hb:w'.heap[h]?=M (O cs 136 (0,0)))(x:Z):Eo (w'.setCell ⟨h,2,N⟩ x) B nw (R++[rec]):=by
 have ht:Dl w' h 136:=⟨_,hb⟩;exact qht
theorem append_old{ty:TypeId}{v':Z}(ah:W.ownsRow B 73 3 v n xs)(a:Addr)(c:X)(u0 u1 u2:Z)(n7:∀j u,[u0,u1,u2][j]?=M u→W.cell? (a.add j)=M u)(h1:∀u∈[u0,u1,u2],u.oneCell'=true)(hn:n<=10000)(hr:(Builtin.append_ #[33,33] ty #[v,J (M a) 1 c]).run prog W=.ok v' w'):Lr v W w':=by
 intro g l cp cs e hb;subst e;obtain⟨i0,hi,bq,bi,ci⟩:=info_parts Tryz.info97x
 rcases ah.2 with⟨e,_⟩|⟨g',cap,cur,e,hB,hh,hnc,zv,jd,htake⟩
 ·simp at e
 simp only[Value.slice.injEq,Option.some.injEq,Addr.mk.injEq,and_true,true_and]at e;obtain⟨rfl,rfl,rfl⟩:=e;rw[hb]at hh;injection hh with hh;injection hh with hh;subst hh
 by_cases Q3:l+1<=cp
 ·have hfit:l*i0.size+[u0,u1,u2].length<=cs.size:=by rw[bi,jd];simp;omega
  have h2:=run_append_room (P:=prog) W 33 ty 73 i0 underlying33 hi g l cp cs hb a 1 c [u0,u1,u2] (by rw[bi];rfl) n7 h1 Q3 hfit;rw[h2]at hr;injection hr with hv hw;subst hw;refine⟨_,setRow_heap W g cs _ 73 _ hb,λj hj=>?_⟩;rw[bi,List.getElem?_toArray,List.append_assoc,List.getElem?_append_left (by rw[List.length_take];simp only[Array.length_toList];rw[jd];omega),List.getElem?_take,if_pos hj,Array.getElem?_toList]
 ·have holds:∀j u,xs[j]?=M u→W.cell? ((⟨g,0,N⟩:Addr).add j)=M u:=ah.cells (g:=g) rfl
  have h2:=run_append_grow (P:=prog) W 33 ty 73 i0 _ underlying33 hi bq ⟨g,0,N⟩ l cp xs (by rw[bi];exact ah.1) holds a 1 c [u0,u1,u2] (by rw[bi];rfl) n7 qg qg (growslice_fits qg qaq);rw[h2]at hr;injection hr with hv hw;subst hw;exact⟨cs,(Lib.alloc_old W.drew _ _ (Ag hb)).trans hb,λ_ _=>rfl⟩
theorem step_appQ2{s x:Operand}{o:Oper}{K:Act->E->Prop}{AF:Prop}(uj:o.guard=N)(ho:o.op=.call { callee:=.builtin .append,args:=#[s,x],argTypes:=#[33,33] })(B:X)(v:Z)(nn:X)(xs:L Z)(hs:a.eval s=v)(ah:W.ownsRow B 73 3 v nn xs)(d:X)(u0 u1 u2:Z)(hx:a.eval x=J (p_ d) 1 1)(hc:W.heap[d]?=M (O #[u0,u1,u2] 73 (0,0)))(h1:∀u∈[u0,u1,u2],u.oneCell'=true)(hB:B<=W.heap.size)(hn:nn<=10000)(h:∀g' aj w',w'.ownsRow B 73 3 (J (p_ g') (nn+1) aj) (nn+1) (xs++[u0,u1,u2])->W.grownBy w' v.ownBlock->(v.ownBlock=M g'\/g'=W.heap.size)->Lr v W w'->K (a.put o.dst (J (p_ g') (nn+1) aj)) w'):if Region.wanted o (yielded ops a.tmps)=true then Oper.wp prog o a W K Q else AF:=by
 have hw:Region.wanted o (yielded ops a.tmps)=true:=qbm;obtain⟨i0,hi,bq,bi,ci⟩:=info_parts Tryz.info97x;have n7:=World.news_of_block (cs:=#[u0,u1,u2]) (t:=73) (fr:=(0,0)) hc;obtain⟨g,cap,w',hr,h2,h3,h4,h5⟩:=run_append_lies (P:=prog) W 33 o.type B 73 i0 (G #[nS,nS,ze]) 3 64 underlying33 hi bq bi ci rfl qh v nn xs ah ⟨d,0,N⟩ 1 1 [u0,u1,u2] rfl n7 h1 qg qq qg hB W.heap.size rfl;rw[if_pos hw];unfold Oper.wp execOp;simp only[ho,resolve,invoke,builtin,Sem.run_bind,Sem.run_pure,Result.andThen_ok,List.map_toArray,List.map_cons,List.map_nil,hs,hx,hr];exact h g cap w' h2 h3 h4 (append_old ah _ _ _ _ _ n7 h1 hn hr)
theorem Dr.more{T U:L By}{b:Gi}(h:Dr n T [x] U (M b))(ys:L By):Dr n T ([x]++ys) T (M b)/\U=T:=by
 cases h with
 | go _ _ h3=>cases h3
 | clash h1 h2=>exact⟨.clash h1 h2,rfl⟩
 | full h1 h2=>exact⟨.full h1 h2,rfl⟩
structure Kl (B h mb:X) (C:Fr) (ss:L S2) (ts:L T2) (w:E) (ms:Mm) (s:Sb) (lu ld:X) (av kv:Z) (r:Rv):Prop where
 lb:B<=C.hb/\B<=C.hs/\B<=C.sb/\mb≠C.sb
 wd:1<=C.n/\C.n<=8
 bd:w.heap[C.hb]?=M (O (Ul C h r) 133 (0,0))
 sh:w.heap[C.hs]?=M (O #[I C.n,r.tx,r.qv,r.su] 136 (0,0))
 sn:∃f,Kq w C.sb r.sn f/\Rx ss ts C.n ms f
 tx:w.ownsRow B 9 1 r.tx s.T.length (Ar s.T)
 su:w.ownsRow B 9 1 r.su s.T.length (Ar (s.T.map (Ap C.n)))
 qs:Eo w B r.qv s.R
 ran:w.ownsRow B 9 1 r.nv s.ran.length (Ar s.ran)
 held:w.ownsRow B 9 1 r.ev s.held.length (Ar s.held)
 us:∃xs:L Bool,w.ownsRow B 4 1 r.uv lu (xs.map .bool)/\∀j:X,xs[j]?=M true <-> j∈s.us
 df:∃xs:L Bool,w.ownsRow B 4 1 r.dv ld (xs.map .bool)/\∀i:X,xs[i]?=M true->NoH ss ts C.n ms (qx s.R i).looks
 ud:∀b,r.uv.ownBlock=M b->r.dv.ownBlock≠M b
 ap:Ju [av,kv,r.tx,r.su,r.nv,r.ev]
section
variable {B h mb:X} {C:Fr} {ss:L S2} {ts:L T2} {w w':E} {ms:Mm} {s:Sb} {lu ld:X} {av kv:Z} {r:Rv}
theorem Kl.of(k:Lj B h mb C ss ts w ms s av kv r):Kl B h mb C ss ts w ms s s.R.length s.R.length av kv r:=⟨k.lb,k.wd,k.bd,k.sh,k.sn,k.tx,k.su,k.qs,k.ran,k.held,k.us,k.df,k.ud,k.ap⟩
theorem Kl.to(k:Kl B h mb C ss ts w ms s s.R.length s.R.length av kv r):Lj B h mb C ss ts w ms s av kv r:=⟨k.lb,k.wd,k.bd,k.sh,k.sn,k.tx,k.su,k.qs,k.ran,k.held,k.us,k.df,k.ud,k.ap⟩
structure FrR (B:X) (C:Fr) (r r':Rv) (w w':E):Prop where
 bel:Below B w w'
 keep:∀b,b<w.heap.size->¬ Lc C r b->w'.heap[b]?=w.heap[b]?
 new:∀b,Lc C r' b->Lc C r b\/w.heap.size<=b
theorem FrR.trans{r' r'':Rv}{w1 w2:E}(h:FrR B C r r' w w1)(k:FrR B C r' r'' w1 w2):FrR B C r r'' w w2:=by
 have hs:=h.bel.size
 exact⟨h.bel.trans k.bel,λb hb ho=>(k.keep b qg (λe=>by rcases h.new b e with q|q;exact ho q;omega)).trans (h.keep b hb ho),λb e=>by
  rcases k.new b e with q|q
  ·exact h.new b q
  ·exact Or.inr qg⟩
theorem FrR.of_below(hb:Bw w w')(hB:B<=w.heap.size):FrR B C r r w w':=⟨hb.mono hB,λb hl _=>hb.block b hl,λ_ h=>Or.inl h⟩
end
theorem Lr.next(h:Lr v w w1)(k:∀(g:X)(cs:Array Z),w1.heap[g]?=M (O cs 73 (0,0))->w2.heap[g]?=M (O cs 73 (0,0))):Lr v w w2:=λg l cp cs e hb=>by
 obtain⟨N4,h1,h2⟩:=h g l cp cs e hb;exact⟨N4,k g N4 h1,h2⟩
theorem k2_of{o:Obj}{row:Option X}(hg:(w.alloc o).grownBy w2 row):∀b,b<w.heap.size->row≠M b->w2.heap[b]?=w.heap[b]?:=λb h1 h2=>by rw[hg.block b qj (λe=>h2 e.symm),Lib.alloc_old _ _ _ h1]
theorem bel_of{o:Obj}{row:Option X}(hg:(w.alloc o).grownBy w2 row)(hB:B<=w.heap.size)(hr:∀b,row=M b->B<=b):Below B w w2:=((Below.refl B w).alloc hB o).grown hg qj hr
section
variable {B h mb:X} {C:Fr} {ss:L S2} {ts:L T2} {w w':E} {ms:Mm} {s:Sb} {lu ld:X} {av kv:Z} {r:Rv}
theorem Kl.gN(k:Kl B h mb C ss ts w ms s lu ld av kv r)(hB:B<=w.heap.size)(hav:∀b,av.ownBlock=M b->b<w.heap.size)(hkv:∀b,kv.ownBlock=M b->b<w.heap.size){w2:E}{nw:Z}{x:By}(am:Below B w w2)(k2:∀b,b<w.heap.size->r.nv.ownBlock≠M b->w2.heap[b]?=w.heap[b]?)(du:w2.ownsRow B 9 1 nw (s.ran++[x]).length (Ar (s.ran++[x])))(hl:∀b,nw.ownBlock=M b->r.nv.ownBlock=M b\/w.heap.size<=b):Kl B h mb C ss ts (w2.setCell ⟨C.hb,1,N⟩ nw) ms ⟨s.T,s.R,s.ran++[x],s.held,s.us⟩ lu ld av kv ⟨r.tx,r.su,r.qv,nw,r.ev,r.uv,r.dv,r.sn⟩/\FrR B C r ⟨r.tx,r.su,r.qv,nw,r.ev,r.uv,r.dv,r.sn⟩ w (w2.setCell ⟨C.hb,1,N⟩ nw):=by
 obtain⟨f,f1,f2⟩:=k.sn;obtain⟨xs,u1,u9⟩:=k.us;obtain⟨ys,d1,d2⟩:=k.df;obtain⟨zs,cv,lv,qr⟩:=k.qs;have iz:w2.heap[C.hb]?=M (O (Ul C h r) 133 (0,0)):=by rw[k2 _ (Ag k.bd) (Ae k.ran qh k.bd)];exact k.bd
 have dp:w2.heap[C.hs]?=M (O #[I C.n,r.tx,r.qv,r.su] 136 (0,0)):=by rw[k2 _ (Ag k.sh) (Ae k.ran qh k.sh)];exact k.sh
 have hne:∀b,b≠C.hb->(w2.setCell ⟨C.hb,1,N⟩ nw).heap[b]?=w2.heap[b]?:=λb e=>Dm w2 ⟨C.hb,1,N⟩ _ b e
 have L1:∀(b:X)(cs:Array Z)(T:TypeId),T≠133->w.heap[b]?=M (O cs T (0,0))->b≠C.hb:=λb cs T hT hb e=>by
  exact qcm
 have kk:∀ {e sz n:X} {u:Z} {ys:L Z},w.ownsRow B e sz u n ys->(∀b,u.ownBlock=M b->r.nv.ownBlock≠M b)->e≠133->(w2.setCell ⟨C.hb,1,N⟩ nw).ownsRow B e sz u n ys:=λho hx he=>An ho λb q=>by
  exact qcl
 have hHb:C.hb≠C.hs:=λe=>by have q:=k.sh;rw[←e,k.bd]at q;injection q with q;injection q with _ q;exact absurd q qh
 refine⟨⟨k.lb,k.wd,qeo,qen,⟨f,f1.same (by rw[hne _ (λe=>f1.notCells (e▸k.bd)),k2 _ f1.lt (λe=>by obtain⟨cs,c1⟩:=Bd k.ran _ e;exact f1.notCells c1)]),f2⟩,kk k.tx (λb q1 q2=>k.ap.ne (i:=4) (j:=2) qh qi qi b q2 q1) qh,kk k.su (λb q1 q2=>k.ap.ne (i:=4) (j:=3) qh qi qi b q2 q1) qh,k.qs.kept (λb q=>by rw[hne b (by obtain⟨cs,c1⟩:=Bd qr.row b q;exact L1 b cs _ qh c1),k2 b (qr.row.lt b q).2 (λe=>apart qr.row k.ran qh b q e)]) (λb cs T hT q=>by rw[hne b (L1 b cs T (by rcases hT with e|e<;>rw[e]<;>decide) q),k2 b (Ag q) (Ae k.ran (by rcases hT with e|e<;>rw[e]<;>decide) q)];exact q),Ak du ⟨_,iz⟩ qh _,kk k.held (λb q1 q2=>k.ap.ne (i:=4) (j:=5) qh qi qi b q2 q1) qh,⟨xs,kk u1 (apart u1 k.ran qh) qh,u9⟩,⟨ys,kk d1 (apart d1 k.ran qh) qh,d2⟩,k.ud,Ju.set k.ap 4 nw qi hl (λv hv b q=>by
  simp only[List.mem_cons,List.not_mem_nil,or_false]at hv
  rcases hv with rfl|rfl|rfl|rfl|rfl|rfl
  ·exact hav b q
  ·exact hkv b q
  ·exact(k.tx.lt b q).2
  ·exact(k.su.lt b q).2
  ·exact(k.ran.lt b q).2
  ·exact(k.held.lt b q).2)⟩,⟨?_,λb hb ho=>?_,λb e=>?_⟩⟩
 ·exact am.setCell (p:=⟨C.hb,1,N⟩) (k.lb.1) _
 ·rw[hne b (λe=>ho (Or.inl e)),k2 b hb (λe=>ho (Bk C (u:=r.nv) qy e))]
 ·rcases e with e|e|e|⟨u,hu,e⟩
  ·exact Or.inl (Or.inl e)
  ·exact qcq
  ·exact qcp
  ·simp only[Ol,List.mem_cons,List.not_mem_nil,or_false]at hu
   rcases hu with rfl|rfl|rfl|rfl|rfl|rfl|rfl
   ·exact qcn
   ·exact qco
   ·exact qds
   ·rcases hl b e with q|q;exact Or.inl (Bk C (u:=r.nv) qy q);exact Or.inr q
   ·exact qdu
   ·exact qdr
   ·exact qdv
theorem Kl.gE(k:Kl B h mb C ss ts w ms s lu ld av kv r)(hB:B<=w.heap.size)(hav:∀b,av.ownBlock=M b->b<w.heap.size)(hkv:∀b,kv.ownBlock=M b->b<w.heap.size){w2:E}{nw:Z}{x:By}(am:Below B w w2)(k2:∀b,b<w.heap.size->r.ev.ownBlock≠M b->w2.heap[b]?=w.heap[b]?)(du:w2.ownsRow B 9 1 nw (s.held++[x]).length (Ar (s.held++[x])))(hl:∀b,nw.ownBlock=M b->r.ev.ownBlock=M b\/w.heap.size<=b):Kl B h mb C ss ts (w2.setCell ⟨C.hb,2,N⟩ nw) ms ⟨s.T,s.R,s.ran,s.held++[x],s.us⟩ lu ld av kv ⟨r.tx,r.su,r.qv,r.nv,nw,r.uv,r.dv,r.sn⟩/\FrR B C r ⟨r.tx,r.su,r.qv,r.nv,nw,r.uv,r.dv,r.sn⟩ w (w2.setCell ⟨C.hb,2,N⟩ nw):=by
 obtain⟨f,f1,f2⟩:=k.sn;obtain⟨xs,u1,u9⟩:=k.us;obtain⟨ys,d1,d2⟩:=k.df;obtain⟨zs,cv,lv,qr⟩:=k.qs;have iz:w2.heap[C.hb]?=M (O (Ul C h r) 133 (0,0)):=by rw[k2 _ (Ag k.bd) (Ae k.held qh k.bd)];exact k.bd
 have dp:w2.heap[C.hs]?=M (O #[I C.n,r.tx,r.qv,r.su] 136 (0,0)):=by rw[k2 _ (Ag k.sh) (Ae k.held qh k.sh)];exact k.sh
 have hne:∀b,b≠C.hb->(w2.setCell ⟨C.hb,2,N⟩ nw).heap[b]?=w2.heap[b]?:=λb e=>Dm w2 ⟨C.hb,2,N⟩ _ b e
 have L1:∀(b:X)(cs:Array Z)(T:TypeId),T≠133->w.heap[b]?=M (O cs T (0,0))->b≠C.hb:=λb cs T hT hb e=>by
  exact qcm
 have kk:∀ {e sz n:X} {u:Z} {ys:L Z},w.ownsRow B e sz u n ys->(∀b,u.ownBlock=M b->r.ev.ownBlock≠M b)->e≠133->(w2.setCell ⟨C.hb,2,N⟩ nw).ownsRow B e sz u n ys:=λho hx he=>An ho λb q=>by
  exact qcl
 have hHb:C.hb≠C.hs:=λe=>by have q:=k.sh;rw[←e,k.bd]at q;injection q with q;injection q with _ q;exact absurd q qh
 refine⟨⟨k.lb,k.wd,qeo,qen,⟨f,f1.same (by rw[hne _ (λe=>f1.notCells (e▸k.bd)),k2 _ f1.lt (λe=>by obtain⟨cs,c1⟩:=Bd k.held _ e;exact f1.notCells c1)]),f2⟩,kk k.tx (λb q1 q2=>k.ap.ne (i:=5) (j:=2) qh qi qi b q2 q1) qh,kk k.su (λb q1 q2=>k.ap.ne (i:=5) (j:=3) qh qi qi b q2 q1) qh,k.qs.kept (λb q=>by rw[hne b (by obtain⟨cs,c1⟩:=Bd qr.row b q;exact L1 b cs _ qh c1),k2 b (qr.row.lt b q).2 (λe=>apart qr.row k.held qh b q e)]) (λb cs T hT q=>by rw[hne b (L1 b cs T (by rcases hT with e|e<;>rw[e]<;>decide) q),k2 b (Ag q) (Ae k.held (by rcases hT with e|e<;>rw[e]<;>decide) q)];exact q),kk k.ran (λb q1 q2=>k.ap.ne (i:=5) (j:=4) qh qi qi b q2 q1) qh,Ak du ⟨_,iz⟩ qh _,⟨xs,kk u1 (apart u1 k.held qh) qh,u9⟩,⟨ys,kk d1 (apart d1 k.held qh) qh,d2⟩,k.ud,Ju.set k.ap 5 nw qi hl (λv hv b q=>by
  simp only[List.mem_cons,List.not_mem_nil,or_false]at hv
  rcases hv with rfl|rfl|rfl|rfl|rfl|rfl
  ·exact hav b q
  ·exact hkv b q
  ·exact(k.tx.lt b q).2
  ·exact(k.su.lt b q).2
  ·exact(k.ran.lt b q).2
  ·exact(k.held.lt b q).2)⟩,⟨?_,λb hb ho=>?_,λb e=>?_⟩⟩
 ·exact am.setCell (p:=⟨C.hb,2,N⟩) (k.lb.1) _
 ·rw[hne b (λe=>ho (Or.inl e)),k2 b hb (λe=>ho (Bk C (u:=r.ev) qy e))]
 ·rcases e with e|e|e|⟨u,hu,e⟩
  ·exact Or.inl (Or.inl e)
  ·exact qcq
  ·exact qcp
  ·simp only[Ol,List.mem_cons,List.not_mem_nil,or_false]at hu
   rcases hu with rfl|rfl|rfl|rfl|rfl|rfl|rfl
   ·exact qcn
   ·exact qco
   ·exact qds
   ·exact qdt
   ·rcases hl b e with q|q;exact Or.inl (Bk C (u:=r.ev) qy q);exact Or.inr q
   ·exact qdr
   ·exact qdv
theorem usApp{xs:L Bool}{us:L X}(h:∀j:X,xs[j]?=M true <-> j∈us){n:X}(hn:xs.length=n):∀j:X,(xs++[true])[j]?=M true <-> j∈us++[n]:=λj=>by
 rw[List.mem_append,List.mem_singleton,←h j];subst hn
 rcases Nat.lt_trichotomy j xs.length with e|e|e
 ·rw[List.getElem?_append_left e];exact⟨Or.inl,λq=>q.elim id (λq=>qg)⟩
 ·subst e;simp
 ·rw[List.getElem?_eq_none qj];constructor
  ·intro q;cases q
  ·rintro(q|q)
   ·rw[List.getElem?_eq_none qg]at q;cases q
   ·omega
theorem Kl.gU(k:Kl B h mb C ss ts w ms s lu ld av kv r)(hB:B<=w.heap.size)(hav:∀b,av.ownBlock=M b->b<w.heap.size)(hkv:∀b,kv.ownBlock=M b->b<w.heap.size){w2:E}{nw:Z}{nxs:L Bool}{lu2:X}(am:Below B w w2)(k2:∀b,b<w.heap.size->r.uv.ownBlock≠M b->w2.heap[b]?=w.heap[b]?){us':L X}(hus:∀j:X,nxs[j]?=M true <-> j∈us')(du:w2.ownsRow B 4 1 nw lu2 (nxs.map .bool))(hl:∀b,nw.ownBlock=M b->r.uv.ownBlock=M b\/w.heap.size<=b):Kl B h mb C ss ts (w2.setCell ⟨C.hb,3,N⟩ nw) ms ⟨s.T,s.R,s.ran,s.held,us'⟩ lu2 ld av kv ⟨r.tx,r.su,r.qv,r.nv,r.ev,nw,r.dv,r.sn⟩/\FrR B C r ⟨r.tx,r.su,r.qv,r.nv,r.ev,nw,r.dv,r.sn⟩ w (w2.setCell ⟨C.hb,3,N⟩ nw):=by
 obtain⟨f,f1,f2⟩:=k.sn;obtain⟨xs,u1,u9⟩:=k.us;obtain⟨ys,d1,d2⟩:=k.df;obtain⟨zs,cv,lv,qr⟩:=k.qs;have iz:w2.heap[C.hb]?=M (O (Ul C h r) 133 (0,0)):=by rw[k2 _ (Ag k.bd) (Ae u1 qh k.bd)];exact k.bd
 have dp:w2.heap[C.hs]?=M (O #[I C.n,r.tx,r.qv,r.su] 136 (0,0)):=by rw[k2 _ (Ag k.sh) (Ae u1 qh k.sh)];exact k.sh
 have hne:∀b,b≠C.hb->(w2.setCell ⟨C.hb,3,N⟩ nw).heap[b]?=w2.heap[b]?:=λb e=>Dm w2 ⟨C.hb,3,N⟩ _ b e
 have L1:∀(b:X)(cs:Array Z)(T:TypeId),T≠133->w.heap[b]?=M (O cs T (0,0))->b≠C.hb:=λb cs T hT hb e=>by
  exact qcm
 have kk:∀ {e sz n:X} {u:Z} {ys:L Z},w.ownsRow B e sz u n ys->(∀b,u.ownBlock=M b->r.uv.ownBlock≠M b)->e≠133->(w2.setCell ⟨C.hb,3,N⟩ nw).ownsRow B e sz u n ys:=λho hx he=>An ho λb q=>by
  exact qcl
 have hHb:C.hb≠C.hs:=λe=>by have q:=k.sh;rw[←e,k.bd]at q;injection q with q;injection q with _ q;exact absurd q qh
 refine⟨⟨k.lb,k.wd,qeo,qen,⟨f,f1.same (by rw[hne _ (λe=>f1.notCells (e▸k.bd)),k2 _ f1.lt (λe=>by obtain⟨cs,c1⟩:=Bd u1 _ e;exact f1.notCells c1)]),f2⟩,kk k.tx (apart k.tx u1 qh) qh,kk k.su (apart k.su u1 qh) qh,k.qs.kept (λb q=>by rw[hne b (by obtain⟨cs,c1⟩:=Bd qr.row b q;exact L1 b cs _ qh c1),k2 b (qr.row.lt b q).2 (λe=>apart qr.row u1 qh b q e)]) (λb cs T hT q=>by rw[hne b (L1 b cs T (by rcases hT with e|e<;>rw[e]<;>decide) q),k2 b (Ag q) (Ae u1 (by rcases hT with e|e<;>rw[e]<;>decide) q)];exact q),kk k.ran (apart k.ran u1 qh) qh,kk k.held (apart k.held u1 qh) qh,⟨nxs,Ak du ⟨_,iz⟩ qh _,hus⟩,⟨ys,kk d1 (λb q1 q2=>k.ud b q2 q1) qh,d2⟩,λb q1 q2=>by rcases hl b q1 with q|q;exact k.ud b q q2;have:=(d1.lt b q2).2;omega,k.ap⟩,⟨?_,λb hb ho=>?_,λb e=>?_⟩⟩
 ·exact am.setCell (p:=⟨C.hb,3,N⟩) (k.lb.1) _
 ·rw[hne b (λe=>ho (Or.inl e)),k2 b hb (λe=>ho (Bk C (u:=r.uv) qy e))]
 ·rcases e with e|e|e|⟨u,hu,e⟩
  ·exact Or.inl (Or.inl e)
  ·exact qcq
  ·exact qcp
  ·simp only[Ol,List.mem_cons,List.not_mem_nil,or_false]at hu
   rcases hu with rfl|rfl|rfl|rfl|rfl|rfl|rfl
   ·exact qcn
   ·exact qco
   ·exact qds
   ·exact qdt
   ·exact qdu
   ·rcases hl b e with q|q;exact Or.inl (Bk C (u:=r.uv) qy q);exact Or.inr q
   ·exact qdv
theorem Kl.gD(k:Kl B h mb C ss ts w ms s lu ld av kv r)(hB:B<=w.heap.size)(hav:∀b,av.ownBlock=M b->b<w.heap.size)(hkv:∀b,kv.ownBlock=M b->b<w.heap.size){w2:E}{nw:Z}{nxs:L Bool}{ld2:X}(am:Below B w w2)(k2:∀b,b<w.heap.size->r.dv.ownBlock≠M b->w2.heap[b]?=w.heap[b]?)(du:w2.ownsRow B 4 1 nw ld2 (nxs.map .bool))(hdf:∀i:X,nxs[i]?=M true->NoH ss ts C.n ms (qx s.R i).looks)(hl:∀b,nw.ownBlock=M b->r.dv.ownBlock=M b\/w.heap.size<=b):Kl B h mb C ss ts (w2.setCell ⟨C.hb,12,N⟩ nw) ms s lu ld2 av kv ⟨r.tx,r.su,r.qv,r.nv,r.ev,r.uv,nw,r.sn⟩/\FrR B C r ⟨r.tx,r.su,r.qv,r.nv,r.ev,r.uv,nw,r.sn⟩ w (w2.setCell ⟨C.hb,12,N⟩ nw):=by
 obtain⟨f,f1,f2⟩:=k.sn;obtain⟨xs,u1,u9⟩:=k.us;obtain⟨ys,d1,d2⟩:=k.df;obtain⟨zs,cv,lv,qr⟩:=k.qs;have iz:w2.heap[C.hb]?=M (O (Ul C h r) 133 (0,0)):=by rw[k2 _ (Ag k.bd) (Ae d1 qh k.bd)];exact k.bd
 have dp:w2.heap[C.hs]?=M (O #[I C.n,r.tx,r.qv,r.su] 136 (0,0)):=by rw[k2 _ (Ag k.sh) (Ae d1 qh k.sh)];exact k.sh
 have hne:∀b,b≠C.hb->(w2.setCell ⟨C.hb,12,N⟩ nw).heap[b]?=w2.heap[b]?:=λb e=>Dm w2 ⟨C.hb,12,N⟩ _ b e
 have L1:∀(b:X)(cs:Array Z)(T:TypeId),T≠133->w.heap[b]?=M (O cs T (0,0))->b≠C.hb:=λb cs T hT hb e=>by
  exact qcm
 have kk:∀ {e sz n:X} {u:Z} {ys:L Z},w.ownsRow B e sz u n ys->(∀b,u.ownBlock=M b->r.dv.ownBlock≠M b)->e≠133->(w2.setCell ⟨C.hb,12,N⟩ nw).ownsRow B e sz u n ys:=λho hx he=>An ho λb q=>by
  exact qcl
 have hHb:C.hb≠C.hs:=λe=>by have q:=k.sh;rw[←e,k.bd]at q;injection q with q;injection q with _ q;exact absurd q qh
 refine⟨⟨k.lb,k.wd,qeo,qen,⟨f,f1.same (by rw[hne _ (λe=>f1.notCells (e▸k.bd)),k2 _ f1.lt (λe=>by obtain⟨cs,c1⟩:=Bd d1 _ e;exact f1.notCells c1)]),f2⟩,kk k.tx (apart k.tx d1 qh) qh,kk k.su (apart k.su d1 qh) qh,k.qs.kept (λb q=>by rw[hne b (by obtain⟨cs,c1⟩:=Bd qr.row b q;exact L1 b cs _ qh c1),k2 b (qr.row.lt b q).2 (λe=>apart qr.row d1 qh b q e)]) (λb cs T hT q=>by rw[hne b (L1 b cs T (by rcases hT with e|e<;>rw[e]<;>decide) q),k2 b (Ag q) (Ae d1 (by rcases hT with e|e<;>rw[e]<;>decide) q)];exact q),kk k.ran (apart k.ran d1 qh) qh,kk k.held (apart k.held d1 qh) qh,⟨xs,kk u1 (λb q1 q2=>k.ud b q1 q2) qh,u9⟩,⟨nxs,Ak du ⟨_,iz⟩ qh _,hdf⟩,λb q1 q2=>by rcases hl b q2 with q|q;exact k.ud b q1 q;have:=(u1.lt b q1).2;omega,k.ap⟩,⟨?_,λb hb ho=>?_,λb e=>?_⟩⟩
 ·exact am.setCell (p:=⟨C.hb,12,N⟩) (k.lb.1) _
 ·rw[hne b (λe=>ho (Or.inl e)),k2 b hb (λe=>ho (Bk C (u:=r.dv) qy e))]
 ·rcases e with e|e|e|⟨u,hu,e⟩
  ·exact Or.inl (Or.inl e)
  ·exact qcq
  ·exact qcp
  ·simp only[Ol,List.mem_cons,List.not_mem_nil,or_false]at hu
   rcases hu with rfl|rfl|rfl|rfl|rfl|rfl|rfl
   ·exact qcn
   ·exact qco
   ·exact qds
   ·exact qdt
   ·exact qdu
   ·exact qdr
   ·rcases hl b e with q|q;exact Or.inl (Bk C (u:=r.dv) qy q);exact Or.inr q
theorem Kl.gQ(k:Kl B h mb C ss ts w ms s lu ld av kv r)(hB:B<=w.heap.size)(hav:∀b,av.ownBlock=M b->b<w.heap.size)(hkv:∀b,kv.ownBlock=M b->b<w.heap.size){w2:E}{nw:Z}{R2:L T3}(am:Below B w w2)(k2:∀b,b<w.heap.size->r.qv.ownBlock≠M b->w2.heap[b]?=w.heap[b]?)(hq:Eo (w2.setCell ⟨C.hs,2,N⟩ nw) B nw R2)(hdf:∀ys:L Bool,(∀i:X,ys[i]?=M true->NoH ss ts C.n ms (qx s.R i).looks)->∀i:X,ys[i]?=M true->NoH ss ts C.n ms (qx R2 i).looks)(hl:∀b,nw.ownBlock=M b->r.qv.ownBlock=M b\/w.heap.size<=b):Kl B h mb C ss ts (w2.setCell ⟨C.hs,2,N⟩ nw) ms ⟨s.T,R2,s.ran,s.held,s.us⟩ lu ld av kv ⟨r.tx,r.su,nw,r.nv,r.ev,r.uv,r.dv,r.sn⟩/\FrR B C r ⟨r.tx,r.su,nw,r.nv,r.ev,r.uv,r.dv,r.sn⟩ w (w2.setCell ⟨C.hs,2,N⟩ nw):=by
 obtain⟨f,f1,f2⟩:=k.sn;obtain⟨xs,u1,u9⟩:=k.us;obtain⟨ys,d1,d2⟩:=k.df;obtain⟨zs,cv,lv,qr⟩:=k.qs;have iz:w2.heap[C.hb]?=M (O (Ul C h r) 133 (0,0)):=by rw[k2 _ (Ag k.bd) (Ae qr.row qh k.bd)];exact k.bd
 have dp:w2.heap[C.hs]?=M (O #[I C.n,r.tx,r.qv,r.su] 136 (0,0)):=by rw[k2 _ (Ag k.sh) (Ae qr.row qh k.sh)];exact k.sh
 have hne:∀b,b≠C.hs->(w2.setCell ⟨C.hs,2,N⟩ nw).heap[b]?=w2.heap[b]?:=λb e=>Dm w2 ⟨C.hs,2,N⟩ _ b e
 have L1:∀(b:X)(cs:Array Z)(T:TypeId),T≠136->w.heap[b]?=M (O cs T (0,0))->b≠C.hs:=λb cs T hT hb e=>by
  have q:=k.sh;rw[e]at hb;rw[hb]at q;injection q with q;injection q with _ q;exact hT q
 have kk:∀ {e sz n:X} {u:Z} {ys:L Z},w.ownsRow B e sz u n ys->(∀b,u.ownBlock=M b->r.qv.ownBlock≠M b)->e≠136->(w2.setCell ⟨C.hs,2,N⟩ nw).ownsRow B e sz u n ys:=λho hx he=>An ho λb q=>by
  exact qcl
 have hHb:C.hb≠C.hs:=λe=>by have q:=k.sh;rw[←e,k.bd]at q;injection q with q;injection q with _ q;exact absurd q qh
 refine⟨⟨k.lb,k.wd,by rw[hne _ hHb];exact iz,by rw[jB dp];rfl,⟨f,f1.same (by rw[hne _ (λe=>f1.notCells (e▸k.sh)),k2 _ f1.lt (λe=>by obtain⟨cs,c1⟩:=Bd qr.row _ e;exact f1.notCells c1)]),f2⟩,kk k.tx (apart k.tx qr.row qh) qh,kk k.su (apart k.su qr.row qh) qh,hq,kk k.ran (apart k.ran qr.row qh) qh,kk k.held (apart k.held qr.row qh) qh,⟨xs,kk u1 (apart u1 qr.row qh) qh,u9⟩,⟨ys,kk d1 (apart d1 qr.row qh) qh,hdf ys d2⟩,k.ud,k.ap⟩,⟨?_,λb hb ho=>?_,λb e=>?_⟩⟩
 ·exact am.setCell (p:=⟨C.hs,2,N⟩) (k.lb.2.1) _
 ·rw[hne b (λe=>ho ((λe=>Or.inr (Or.inl e)) e)),k2 b hb (λe=>ho (Bk C (u:=r.qv) qy e))]
 ·rcases e with e|e|e|⟨u,hu,e⟩
  ·exact Or.inl (Or.inl e)
  ·exact qcq
  ·exact qcp
  ·simp only[Ol,List.mem_cons,List.not_mem_nil,or_false]at hu
   rcases hu with rfl|rfl|rfl|rfl|rfl|rfl|rfl
   ·exact qcn
   ·exact qco
   ·rcases hl b e with q|q;exact Or.inl (Bk C (u:=r.qv) qy q);exact Or.inr q
   ·exact qdt
   ·exact qdu
   ·exact qdr
   ·exact qdv
end
theorem Lt.two{P:Program}{AC:E->Prop}{z i:X}{oi oj:Oper}{l:Array Bool}(hr:Region.ready .any ops l=[i,j])(hi:ops[i]?=M oi)(hj:ops[j]?=M oj)(h1:∀K:Act->E->Prop,Shut (∀a w,(i≠z->AC w)->((i≠z->AC w)->Lt P ops Q AC z n (l.setIfInBounds i true) a w)->K a w)->if Region.wanted oi (yielded ops a.tmps)=true then Oper.wp P oi a w K Q else K (a.put oi.dst undef) w)(h2:∀K:Act->E->Prop,Shut (∀a w,(j≠z->AC w)->((j≠z->AC w)->Lt P ops Q AC z n (l.setIfInBounds j true) a w)->K a w)->if Region.wanted oj (yielded ops a.tmps)=true then Oper.wp P oj a w K Q else K (a.put oj.dst undef) w):Lt P ops Q AC z (n+1) l a w:=by
 refine⟨λh0=>(by rw[hr]at h0;cases h0),λk hk=>?_⟩;rw[hr]at hk
 rcases(by simpa using hk:k=i\/k=j)with rfl|rfl
 ·exact wpOp_step hi (λK hK=>h1 K (λa w hS hW=>hK a w ⟨hS,hW hS⟩))
 ·exact wpOp_step hj (λK hK=>h2 K (λa w hS hW=>hK a w ⟨hS,hW hS⟩))
section
variable {B h mb k:X} {C:Fr} {sv tv:Z} {ss:L S2} {ts:L T2} {w:E} {ms:Mm} {mk st:L By} {al:X} {av kv:Z} {vs:By->Z} {s:Sb} {r:Rv}
theorem BS.old9(q:BS B h mb k C sv tv ss ts w ms mk st al av kv vs s r){w2:E}{u:Z}{n j:X}{xs:L Z}{nw:Z}(ho:w.ownsRow B 9 1 u n xs)(k2:∀b,b<w.heap.size->u.ownBlock≠M b->w2.heap[b]?=w.heap[b]?):Lr r.qv w (w2.setCell ⟨C.hb,j,N⟩ nw):=Lr.same λb e=>by
 obtain⟨zs,cv,lv,qr⟩:=q.rs.qs;obtain⟨cs,c1⟩:=Bd qr.row b e;rw[Dm w2 ⟨C.hb,j,N⟩ _ b (λe=>by have e:b=C.hb:=e;have o:=q.rs.bd;rw[←e,c1]at o;injection o with o;injection o with _ o;exact absurd o qh),k2 b (Ag c1) (Ae ho qh c1)]
theorem BS.grE(q:BS B h mb k C sv tv ss ts w ms mk st al av kv vs s r)(hB:B<=w.heap.size){w2:E}{nw:Z}{x:By}(am:Below B w w2)(k2:∀b,b<w.heap.size->r.ev.ownBlock≠M b->w2.heap[b]?=w.heap[b]?)(du:w2.ownsRow B 9 1 nw (s.held++[x]).length (Ar (s.held++[x])))(hl:∀b,nw.ownBlock=M b->r.ev.ownBlock=M b\/w.heap.size<=b):BS B h mb k C sv tv ss ts (w2.setCell ⟨C.hb,2,N⟩ nw) ms mk st al av kv vs ⟨s.T,s.R,s.ran,s.held++[x],s.us⟩ ⟨r.tx,r.su,r.qv,r.nv,nw,r.uv,r.dv,r.sn⟩/\KQ B h mb C av kv r ⟨r.tx,r.su,r.qv,r.nv,nw,r.uv,r.dv,r.sn⟩ w (w2.setCell ⟨C.hb,2,N⟩ nw):=by
 obtain⟨AA,AG⟩:=(Kl.of q.rs).gE hB q.ownA.1 q.ownA.2 am k2 du hl;exact q.upd AG.bel AG.keep AA.to AG.new (q.old9 q.rs.held k2) (Nat.le_refl _)
theorem BS.grN(q:BS B h mb k C sv tv ss ts w ms mk st al av kv vs s r)(hB:B<=w.heap.size){w2:E}{nw:Z}{x:By}(am:Below B w w2)(k2:∀b,b<w.heap.size->r.nv.ownBlock≠M b->w2.heap[b]?=w.heap[b]?)(du:w2.ownsRow B 9 1 nw (s.ran++[x]).length (Ar (s.ran++[x])))(hl:∀b,nw.ownBlock=M b->r.nv.ownBlock=M b\/w.heap.size<=b):BS B h mb k C sv tv ss ts (w2.setCell ⟨C.hb,1,N⟩ nw) ms mk st al av kv vs ⟨s.T,s.R,s.ran++[x],s.held,s.us⟩ ⟨r.tx,r.su,r.qv,nw,r.ev,r.uv,r.dv,r.sn⟩/\KQ B h mb C av kv r ⟨r.tx,r.su,r.qv,nw,r.ev,r.uv,r.dv,r.sn⟩ w (w2.setCell ⟨C.hb,1,N⟩ nw):=by
 obtain⟨AA,AG⟩:=(Kl.of q.rs).gN hB q.ownA.1 q.ownA.2 am k2 du hl;exact q.upd AG.bel AG.keep AA.to AG.new (q.old9 q.rs.ran k2) (Nat.le_refl _)
end
theorem k2_via{row:Option X}(hb:Bw w w1)(hg:w1.grownBy w2 row):∀b,b<w.heap.size->row≠M b->w2.heap[b]?=w.heap[b]?:=λb h1 h2=>by rw[hg.block b (zo hb.size) (λe=>h2 e.symm),hb.block b h1]
theorem bel_via{row:Option X}(hb:Bw w w1)(hg:w1.grownBy w2 row)(hB:B<=w.heap.size)(hr:∀b,row=M b->B<=b):Below B w w2:=(hb.mono hB).grown hg (zo hb.size) hr
end Go.Proofs.YtnflkpmmfpfhlaaGreatDoor
