import Derived.Test.YtbkkjodaaijimaaGreatDoorBuX
import Derived.Test.YtbkkjodaaijimaaGreatDoorBvE
namespace Go.Proofs.YtbkkjodaaijimaaGreatDoor
open _root_.Go.Proofs.Tryz Go.RowKit Go.Deep
open Value renaming slice->J,string->S,agg->G,pointer->D,tuple->Y
open Option renaming some->M,none->N
open Obj renaming cells->O
open Go renaming Value->Z,World->E
open _root_ renaming List->L,Nat->X
set_option linter.unusedVariables false
set_option linter.unusedSimpArgs false
set_option maxHeartbeats 8000000
set_option maxRecDepth 100000
variable {B n:X} {ss:L S2} {ts:L T2} {T:L By} {R:L T3} {nm:By} {w6:E}
def BuildI(B n:X)(ss:L S2)(ts:L T2)(T:L By)(R:L T3)(nm:By)(v:Z)(w':E):Prop:=
 ∃ms' s' a,Bc ss ts n [] ⟨T,R,[],[]⟩ [] (.make nm) ms' s' a/\
  ((∃d tx qv nv ev,a=.ok d/\v=G #[I d.c,S d.t,nS,I n,tx,qv,nv,ev,ze,ze]/\w'.ownsRow B 9 1 tx s'.T.length (Aq s'.T)/\Ex w' B qv s'.R/\w'.ownsRow B 9 1 nv s'.ran.length (Aq s'.ran)/\w'.ownsRow B 9 1 ev s'.held.length (Aq s'.held)/\Hp [tx,nv,ev])\/
   (∃b x y cv tx qv A B',a=.bad b/\Jh B w' b [x,y,cv,I 0,nS,nS,nS,nS,A,B']/\v=G #[x,y,cv,I n,tx,qv,nS,nS,A,B']/\Gc w' B tx qv T R/\∀b,cv.ownBlock=M b->tx.ownBlock≠M b))
def PostB(B n:X)(ss:L S2)(ts:L T2)(T:L By)(R:L T3)(nm:By)(v:Z)(w':E):Prop:=(¬ Ar nm/\Zk B n T R v w')\/(Ar nm/\BuildI B n ss ts T R nm v w')
def FinB(B n:X)(ss:L S2)(ts:L T2)(T:L By)(R:L T3)(nm:By)(c:Int)(t:By)(cv:Z)(At Bt:By)(w6:E):Prop:=
 ∀(V:E)(tx qv:Z),(∀(b:X)(cur:Array Z),w6.heap[b]?=M (O cur 9 (0,0))->V.heap[b]?=w6.heap[b]?)->Gc V w6.heap.size tx qv T R->PostB B n ss ts T R nm (G #[I c,S t,cv,I n,tx,qv,nS,nS,S At,S Bt]) V
theorem FinB.no(gg:¬ Ar nm)(hB:B<=w6.heap.size):FinB B n ss ts T R nm 9 ⟨#[]⟩ nS ⟨#[]⟩ ⟨#[]⟩ w6:=λV tx qv _ hs=>Or.inl ⟨gg,tx,qv,rfl,hs.base hB⟩
theorem FinB.fall{C:Gg}{ms':Mm}{s':Sb}{b:Hm}{c:Int}{t:By}{ca:Option Addr}{cn cc:X}(cm:Ar nm)(hB:B<=w6.heap.size)(bi:Bc ss ts n [] ⟨T,R,[],[]⟩ [] (.make nm) ms' s' (.bad b))(hf:Cz B C w6 b (G #[I c,S t,J ca cn cc])):5<c/\FinB B n ss ts T R nm c t (J ca cn cc) (clA b) (clB b) w6:=by
 obtain⟨_,_,h3⟩:=hf
 cases b with
 | circle ch=>
   obtain⟨ca',cn',cc',e,ho⟩:=h3;simp only[Value.agg.injEq,Array.mk.injEq,List.cons.injEq,Value.int.injEq,Value.string.injEq,Value.slice.injEq,true_and,and_true]at e;obtain⟨rfl,rfl,rfl,rfl,rfl⟩:=e;refine⟨qd,λV tx qv hk hs=>Or.inr ⟨cm,ms',s',_,bi,Or.inr ⟨.circle ch,_,_,_,tx,qv,_,_,rfl,⟨_,Al ho (λb' q=>by obtain⟨_,cur,hh⟩:=Dr ho q;exact hk b' cur hh),rfl⟩,rfl,hs.base hB,λb' e1 e2=>?_⟩⟩⟩;have h1:=(ho.lt b' e1).2;have h2:=(hs.txt.lt b' e2).1;omega
 | deep nm'=>
   simp only[Value.agg.injEq,Array.mk.injEq,List.cons.injEq,Value.int.injEq,Value.string.injEq,Value.slice.injEq,true_and,and_true]at h3;obtain⟨rfl,rfl,rfl,rfl,rfl⟩:=h3;exact⟨qd,λV tx qv hk hs=>Or.inr ⟨cm,ms',s',_,bi,Or.inr ⟨.deep t,_,_,_,tx,qv,_,_,rfl,rfl,rfl,hs.base hB,λb' e1 e2=>by simp[Value.ownBlock]at e1⟩⟩⟩
 | clash A B'=>
   simp only[Value.agg.injEq,Array.mk.injEq,List.cons.injEq,Value.int.injEq,Value.string.injEq,Value.slice.injEq,true_and,and_true]at h3;obtain⟨rfl,rfl,rfl,rfl,rfl⟩:=h3;exact⟨qd,λV tx qv hk hs=>Or.inr ⟨cm,ms',s',_,bi,Or.inr ⟨.clash A B',_,_,_,tx,qv,_,_,rfl,rfl,rfl,hs.base hB,λb' e1 e2=>by simp[Value.ownBlock]at e1⟩⟩⟩
 | full=>
   simp only[Value.agg.injEq,Array.mk.injEq,List.cons.injEq,Value.int.injEq,Value.string.injEq,Value.slice.injEq,true_and,and_true]at h3;obtain⟨rfl,rfl,rfl,rfl,rfl⟩:=h3;exact⟨qd,λV tx qv hk hs=>Or.inr ⟨cm,ms',s',_,bi,Or.inr ⟨.full,_,_,_,tx,qv,_,_,rfl,rfl,rfl,hs.base hB,λb' e1 e2=>by simp[Value.ownBlock]at e1⟩⟩⟩
theorem Ex.setU{w:E}{h:X}{qv:Z}{cs:Array Z}{l:L (X×X×Z)}(k:Ex w B qv R)(hh:∀x∈l,x.1=h)(hk:w.heap[h]?=M (O cs 54 (0,0))):Ex (Go.Proofs.YtbkkjodaaijimaaGreatDoor.Cu w l) B qv R:=by
 obtain⟨xs,cv,lv,r⟩:=k;exact⟨xs,cv,lv,Dy r.row hh hk qd,r.fil,λi hi=>by obtain⟨ys,a,b⟩:=r.code i hi;exact⟨ys,Dy a hh hk qd,b⟩,λi hi=>by obtain⟨ys,a,b⟩:=r.look i hi;exact⟨ys,Dy a hh hk qd,b⟩,r.apc,r.apl⟩
theorem allB_yes(n:X)(tb tf tc nb nc:X)(qa sa ta:Option Addr)(qc c1 c2:X)(T:L By)(R:L T3)(ss:L S2)(ts:L T2)(nm:By)(w:E)(hT:Kd w)(hP10:Lj w)(de:Nm w (M ⟨tb,tf,N⟩) T qa R)(hrz:Qt w qa R)(hr:R.length≤1048576)(jx:∀i,i<R.length→(qx R i).code.length≤1048576∧(qx R i).looks.length≤1048576)(xy:Lv w sa ss ta ts)(lx:Fj ss ts)(hw:Ke n T R)(hch:Ic ss ts=0)(ig:w.heap[nb]?=M (O #[S nm] 9 (0,0)))(cm:nm.size<=9223372036854775807):Calls prog 66 #[G #[I n,J (M ⟨tb,tf,N⟩) T.length tc,J qa R.length qc],G #[J sa ss.length c1,J ta ts.length c2],J (p_ nb) 1 nc] w λe w'=>Bw w w'/\∃v u,e=.returned (Y #[v,u])/\PostB w.heap.size n ss ts T R nm v w':=by
 obtain⟨W,eW⟩:=Aj (((w.alloc (O #[I n,J (M ⟨tb,tf,N⟩) T.length tc,J qa R.length qc] 35)).alloc (O #[J sa ss.length c1,J ta ts.length c2] 40)).alloc (O z10 54));have bn:Bw w W:=qcj;have HQ:Hd (W.heap[w.heap.size]?=M (O #[I n,J (M ⟨tb,tf,N⟩) T.length tc,J qa R.length qc] 35 (0,0))):=qcm
 have HP:Hd (W.heap[w.heap.size+1]?=M (O #[J sa ss.length c1,J ta ts.length c2] 40 (0,0))):=by
  exact qch
 have HZ:Hd (W.heap[w.heap.size+1+1]?=M (O z10 54 (0,0))):=by
  exact qcg
 have vg:w.heap.size+1+1<W.heap.size:=Ag HZ.o;have my:=Ac bn;have K3:=Ac (Pd n tb tf tc qa qc T R W (hT.bl bn) (de.bl bn) (hrz.bl bn) hr jx);have K9:=Ac (λ(V:E) (hV:Bw w V)=>Jv n tb tf tc qa qc T R V (de.st.bl hV) (hrz.bl hV) de.lt hr jx);have HCK:=Ac (λ(V:E) (hV:Bw w V)=>Oh sa ta c1 c2 ss ts V (hT.bl hV) (xy.bl hV) lx);obtain⟨q0,q1,q2,qf⟩:=Dw HQ.o;have HCH:=Ac hch;have HEN:=Ac (show Hn w sa ta ss ts/\Kd w/\Lj w from ⟨Zj xy hch,hT,hP10⟩);have HNB:Hd (W.heap[nb]?=M (O #[S nm] 9 (0,0))):=Ad bn ig;have ru:R.length<=2000:=hw.2.2.2.1;have xm:Hd (Jz n ⟨T,R,[],[]⟩):=by have:=hw.2.2;show Jy n T R;simpa using this
 have M5:1<=n:=zo hw.1;have hn8:n<=8:=zo hw.2.1;clear hT de hrz hr jx xy lx bn hP10 hch ig;go_enter func66,ntmps66;go_wp2_with fail;clear eW;refine K3.o.mono ?_;rintro e w1 ⟨af,⟨gg,_⟩|⟨_,g,g1,p1,sv,qv,rfl,hg,cw⟩⟩
 ·exact absurd hw gg
 have kt:=Ac (Ad af HQ.o);have jr:=Ac (Ad af HP.o);have oc:=Ac (Ad af HZ.o);have B3:=Ac (Ad af HNB.o);have ff:=Ac (bt my.o af);have J9:=Ac (show ShO w1 g W.heap.size w1.heap.size n sv (J (p_ g1) T.length p1) qv T R from by simpa using cw);obtain⟨x0,x1⟩:=Fq jr.o;have d9:=af.size;have HC:=Ac (HCK.o w1 ff.o);rw[HCH.o]at HC;clear af hw q0 q1 q2 qf HQ HP HZ HNB K3 HCK cw my;go_wp2_with fail;clear x0 x1;refine HC.o.mono ?_;rintro e w2 ⟨ag,rfl⟩;replace kt:=Ac (Ad ag kt.o);replace jr:=Ac (Ad ag jr.o);replace oc:=Ac (Ad ag oc.o);replace B3:=Ac (Ad ag B3.o);replace ff:=Ac (bt ff.o ag);have HSO2:=Ac (J9.o.bl ag);have gj:=ag.size;clear ag HC J9;obtain⟨x0,x1,x2,xf⟩:=Dw kt.o;obtain⟨i0,ye,bq,bg,bv⟩:=info_parts Tryz.info4b
 go_upto_region 5 with(at_make;refine wpList_make_full _ rfl (.tmp 37) (.tmp 37) 124 rfl w2.heap.size 4 i0 (.bool false) 1 underlying124 ye bq bg .i64 .i64 _ _ R.length rfl rfl rfl rfl qan qm (Nat.le_refl _) ?_;intro w3 fj ol)
 clear x0 x1 x2 xf;rw[Tu]at fj;have ba:Bw w2 w3:=(Below.refl _ _).grown ol (Nat.le_refl _) qg;obtain⟨uv,euv⟩:=Aj (Value.slice (p_ w2.heap.size) R.length R.length);rw[euv]at fj ⊢;obtain⟨hb,ehb⟩:=Aj w3.heap.size;obtain⟨w4,e4⟩:=Aj (w3.alloc (O #[D (p_ g),nS,nS,uv,I 0,I 0,nS,nS,ze,ze,D N,.map N,nS] 168));have co:=aB e4;have HD4:=Ac (nW e4 ehb);rw[e4,ehb];have A2:=Ba ba co;have ke:w2.heap.size<=hb:=by rw[←ehb];exact ba.size
 clear e4 ehb euv ol;have HU4:=Ac (Ab fj co);have hs24:=A2.size;replace kt:=Ac (Ad A2 kt.o);replace jr:=Ac (Ad A2 jr.o);replace oc:=Ac (Ad A2 oc.o);replace B3:=Ac (Ad A2 B3.o);have wh:=Ac (bt ff.o A2);have HSO4:=Ac (HSO2.o.bl A2);have hB1s:=ff.o.size;clear ba co fj A2 HSO2 ff
 go_upto_region 6 with fail
 obtain⟨P,eP⟩:=Aj w4.heap.size;obtain⟨w5,e5⟩:=Aj (w4.alloc (O #[I 0,ze,nS] 120));have cj:Bw w4 w5:=qgl;have HL5:=Ac (nW e5 eP);rw[e5,eP];have hPw:w2.heap.size<=P:=by rw[←eP];exact hs24
 have hhP:hb<P:=by rw[←eP];exact Ag HD4.o
 replace kt:=Ac (Ad cj kt.o);replace jr:=Ac (Ad cj jr.o);replace oc:=Ac (Ad cj oc.o);replace B3:=Ac (Ad cj B3.o);have jm:=Ac (bt wh.o cj);have HSO5:=Ac (HSO4.o.bl cj);have HD5:=Ac (Ad cj HD4.o);have HU5:=Ac (Ab HU4.o cj);clear e5 eP cj HSO4 wh HD4 HU4
 have pe:Hd (RstO w.heap.size hb g n w5 ⟨T,R,[],[]⟩ ⟨J (p_ g1) T.length p1,sv,qv,nS,nS,uv,nS,0⟩ (D N) (.map N)):=by
  have hx:=HSO5.o;have hsx:=hx.sx.own;rw[List.length_map]at hsx;refine⟨⟨qb,qb⟩,⟨M5,hn8⟩,HD5.o,hx.blk,Ah hx.tx.own qb,Ah hsx qb,hx.qs.recO.base qb,World.ownsRow_nil _ _ _ _,World.ownsRow_nil _ _ _ _,⟨_,Ah HU5.o qb⟩,?_⟩;unfold Hp;refine List.Pairwise.cons (λu hu b e=>?_) (List.Pairwise.cons (λu hu b e=>?_) (List.Pairwise.cons (λu hu b e=>qbg) (List.Pairwise.cons (λu hu b e=>qbg) List.Pairwise.nil)))
  ·simp only[List.mem_cons,List.not_mem_nil,or_false]at hu
   rcases hu with rfl|rfl|rfl
   ·exact λe2=>hx.ne b e2 e
   ·simp[Value.ownBlock]
   ·simp[Value.ownBlock]
  ·simp only[List.mem_cons,List.not_mem_nil,or_false]at hu
   rcases hu with rfl|rfl<;>simp[Value.ownBlock]
 have ry:=Ac (buildB_any w hb g n sa ta c1 c2 ss ts nm _ _ _ _ w5 HEN.o.1 HEN.o.2.1 HEN.o.2.2 cm pe.o xm.o rfl rfl jm.o);clear HSO5 HD5 HU5;go_wp2
 go_loopw [42] (λi wr=>(i=I 0/\Hd (wr=w5))\/(i=I 1/\Hd (∃(h mb sb:X)(ms':Mm)(s':Sb)(d:Md)(av' kv':Z)(vs':By->Z)(r':Rv),Ar nm/\Bc ss ts n [] ⟨T,R,[],[]⟩ [] (.make nm) ms' s' (.ok d)/\Iw w.heap.size h mb ⟨hb,g,sb,n⟩ (J sa ss.length c1) (J ta ts.length c2) ss ts wr ms' [] av' kv' vs' s' r'/\wr.heap[P]?=M (O #[I d.c,S d.t,nS] 120 (0,0))/\wr.heap[w.heap.size+1+1]?=M (O z10 54 (0,0))/\Bw w wr))) (λi _=>1-(intOf i).toNat)
 case atStart=>exact Or.inl ⟨rfl,rfl⟩
 case round=>
  rcases hrel with⟨rfl,HE5⟩|⟨rfl,HD⟩
  ·have hE5:=HE5.o
   subst hE5;clear HE5;obtain⟨x0,x1⟩:=Fq jr.o;have n0:=Ie B3.o;go_wp2_with fail;clear x0 x1 n0 jr B3;refine ry.o.mono ?_;have Y0:=Ag HL5.o;have hQl:=Ag kt.o;have hZl:=Ag oc.o;have hhl:=Ag pe.o.bd;rintro e w6 (⟨gg,rfl,bz⟩|⟨zg,bz,ip,h,mb,sb,ms',s',an,bi,⟨⟨dc,dt,dls⟩,av',kv',vs',r',rfl,rfl,xz⟩|⟨b,c,t,ca,cn,cc,rfl,rfl,F6⟩⟩)
   ·have H7:=Ac (Ad bz HL5.o)
    have HQ6:=Ac (Ad bz kt.o);have HZ6:=Ac (Ad bz oc.o);have yz:=Ac (bt jm.o bz)
    have HC6:Hd (w6.cell? ⟨hb,8,N⟩=M ze/\w6.cell? ⟨hb,9,N⟩=M ze):=by
     have hd:=Ad bz pe.o.bd;exact⟨by rw[cH hd];rfl,by rw[cH hd];rfl⟩
    have xz:=bz.size;have HFI:=Ac (FinB.no (n:=n) (ss:=ss) (ts:=ts) (T:=T) (R:=R) (B:=w.heap.size) gg (show w.heap.size<=w6.heap.size from qb));clear bz pe ry HL5 kt oc jm;obtain⟨z0,z1,z2,zf⟩:=Dw H7.o
    go_upto_region 11 with fail
    clear z0 z1 z2 zf;obtain⟨w7,e7⟩:=Aj (((w6.setCell ⟨P,0,N⟩ (I 9)).setCell ⟨P,1,N⟩ ze).setCell ⟨P,2,N⟩ nS);(have L6:∀b,b≠P->w7.heap[b]?=w6.heap[b]?:=λb q=>by rw[←e7];exact Fg q _ _ _);(have HL7:Hd (w7.heap[P]?=M (O #[I 9,ze,nS] 120 (0,0))):=by show _=_;rw[←e7];exact Bn H7.o _ _ _);(have D0:Bw w w7:=by rw[←e7];exact Gl yz.o qb _ _ _);(have hs67:w7.heap.size=w6.heap.size:=by rw[←e7];simp);rw[e7];clear e7;obtain⟨U,eU⟩:=Aj w7.drew;have bm:Bw w7 U:=qbs;have HZU:Hd (U.heap[(w.heap.size+1+1)]?=M (O z10 54 (0,0))):=Ad bm ((L6 _ qb).trans HZ6.o);have gt:Hd (U.heap[P]?=M (O #[I 9,ze,nS] 120 (0,0))/\U.heap[w.heap.size]?=M (O #[I n,J (M ⟨tb,tf,N⟩) T.length tc,J qa R.length qc] 35 (0,0))/\U.cell? ⟨hb,8,N⟩=M ze/\U.cell? ⟨hb,9,N⟩=M ze):=⟨Ad bm HL7.o,Ad bm ((L6 _ qb).trans HQ6.o),Aa bm ((Dd (L6 hb qb)).trans HC6.o.1),Aa bm ((Dd (L6 hb qb)).trans HC6.o.2)⟩;have Id:=Ac (bt D0 bm);(have jo:Hd (∀(b:X)(cur:Array Z),w6.heap[b]?=M (O cur 9 (0,0))->U.heap[b]?=w6.heap[b]?):=λb cur q=>by rw[bm.block b (zo (Ag q)),L6 b (λq2=>by rw[q2,H7.o]at q;injection q with q;injection q with _ q;exact absurd q qd)]);have hU6:w6.heap.size<=U.heap.size:=zo bm.size;clear hs67 bm L6 HL7 D0 H7 HQ6 HZ6 HC6;refine Lt.begin 99 (λw'=>w'.heap[P]?=M (O #[I 9,ze,nS] 120 (0,0))/\w'.heap[w.heap.size]?=M (O #[I n,J (M ⟨tb,tf,N⟩) T.length tc,J qa R.length qc] 35 (0,0))/\w'.cell? ⟨hb,8,N⟩=M ze/\w'.cell? ⟨hb,9,N⟩=M ze) qi ?_;rw[eU];clear eU;change K 0 _
    iterate 7
     refine Lt.ti (v:=?_) gt.o ?_ ?_;rotate_left 1
     ·exact qbi
     simp only[gX]
    change K 8 _
    iterate 6
     refine Lt.ti (v:=?_) gt.o ?_ ?_;rotate_left 1
     ·exact qbi
     simp only[gX]
    refine Lt.sp (i:=7) (λK hK=>?_);go_simp;refine(K9.o U Id.o).mono ?_;rintro e w8 ⟨i6,g8,p8,v8,rfl,o1,o2⟩;obtain⟨a8,q8,rfl,_⟩:=o2.sl;have jd:Hd (w8.heap[P]?=M (O #[I 9,ze,nS] 120 (0,0))/\w8.heap[w.heap.size]?=M (O #[I n,J (M ⟨tb,tf,N⟩) T.length tc,J qa R.length qc] 35 (0,0))/\w8.cell? ⟨hb,8,N⟩=M ze/\w8.cell? ⟨hb,9,N⟩=M ze):=⟨Ad i6 gt.o.1,Ad i6 gt.o.2.1,Aa i6 gt.o.2.2.1,Aa i6 gt.o.2.2.2⟩;have G4:=Ac (Ad i6 HZU.o);have HB8:=Ac (bt Id.o i6);(have t8:Hd (∀(b:X)(cur:Array Z),w6.heap[b]?=M (O cur 9 (0,0))->w8.heap[b]?=w6.heap[b]?):=λb cur q=>by rw[i6.block b (zo (Ag q)),jo.o b cur q]);have gi:=Ac (show Gc w8 w6.heap.size (J (p_ g8) T.length p8) (J a8 R.length q8) T R from ⟨Ah o1.own hU6,⟨g8,p8,rfl⟩,o2.recO.base hU6⟩);have h8s:=i6.size;refine hK.out _ _ (λ_=>jd.o) (λ_=>?_);clear hK K i6 o1 o2 gt HZU Id jo
    try simp only[gX]
    refine Lt.ti (i:=14) (v:=?_) jd.o ?_ ?_;rotate_left 1
    ·exact qbi
    simp only[gX];obtain⟨zc0,zc1,zc2,zc3,zc4,zc5,zc6,zc7,zc8,zc9⟩:=Fz G4.o;have zcf:=fZ G4.o;obtain⟨l,el⟩:∃l:L (X×X×Z),l=[((w.heap.size+1+1),0,I 9),((w.heap.size+1+1),1,ze),((w.heap.size+1+1),2,nS),((w.heap.size+1+1),3,I n),((w.heap.size+1+1),4,J (p_ g8) T.length p8),((w.heap.size+1+1),5,J a8 R.length q8),((w.heap.size+1+1),6,nS),((w.heap.size+1+1),7,nS),((w.heap.size+1+1),8,ze),((w.heap.size+1+1),9,ze)]:=⟨_,rfl⟩;have fk:∀x∈l,x.1=(w.heap.size+1+1):=qah;have d6:=Ep l w8 _ fk G4.o;have hS:=gi.o.setU fk G4.o;have hN:=λ(b:X) (h:b≠(w.heap.size+1+1))=>Gz (b:=b) l w8 (λx hx q=>h (by rw[q,fk x hx]));have gu:Bw w (Cu w8 l):=Cm l w8 HB8.o (λx hx=>qam);obtain⟨V,eV⟩:=Aj (Cu w8 l);rw[eV]at d6 gu hS;simp only[eV]at hN;rw[el]at d6 eV;simp only[Cu,List.foldl]at eV;simp only[List.foldl,List.setIfInBounds_toArray,List.set_cons_zero,List.set_cons_succ]at d6;have HV:=Ac d6;have px:=Ac gu;have oo:=Ac hS;have gq:=Ac hN;clear d6 gu el fk hS hN;refine Lt.sp (i:=15) (λK hK=>?_);go_simp
    try rw[eV]
    refine hK.out _ _ (λ_=>⟨(gq.o P qb).trans jd.o.1,(gq.o w.heap.size qb).trans jd.o.2.1,(Dd (gq.o hb qb)).trans jd.o.2.2.1,(Dd (gq.o hb qb)).trans jd.o.2.2.2⟩) (λ_=>?_);clear hK K zc0 zc1 zc2 zc3 zc4 zc5 zc6 zc7 zc8 zc9 zcf eV
    try simp only[gX]
    refine Lt.sp (i:=16) (λK hK=>?_);go_simp;refine hK.out _ _ (λ_=>⟨(gq.o P qb).trans jd.o.1,(gq.o w.heap.size qb).trans jd.o.2.1,(Dd (gq.o hb qb)).trans jd.o.2.2.1,(Dd (gq.o hb qb)).trans jd.o.2.2.2⟩) (λ_=>?_);clear hK K
    try simp only[gX]
    refine Lt.done qi ?_ _;go_wp2_with fail;obtain⟨y0,y1,y2,y3,y4,y5,y6,y7,y8,y9⟩:=Fz HV.o;refine bR (v:=Y #[G #[I 9,ze,nS,I n,J (p_ g8) T.length p8,J a8 R.length q8,nS,nS,ze,ze],nS]) qdo rfl ⟨px.o,_,_,rfl,HFI.o V _ _ (λb cur q=>?_) oo.o⟩;exact qjj
   ·have H7:Hd (w6.heap[P]?=_):=ip _ _ _ qd HL5.o
    have HQ6:Hd (w6.heap[w.heap.size]?=_):=ip _ _ _ qd kt.o;have HZ6:Hd (w6.heap[w.heap.size+1+1]?=_):=ip _ _ _ qd oc.o;have yz:=Ac (jm.o.trans bz);have hs6w:=bz.size
    have J1:dc<=5:=by
     obtain⟨i1,i2,i3,i4⟩:=Bc.inv HEN.o.1.v bi (Fv.nil ss ts) xm.o zg (λb q=>qw);exact(i1.done nm _ i4).c5
    have HX:=Ac (show Ar nm/\Bc ss ts n [] ⟨T,R,[],[]⟩ [] (.make nm) ms' s' (.ok ⟨dc,dt,dls⟩) from ⟨zg,bi⟩);have jz:=Ac xz;have hdI:(dc > 5)=False:=qh;have hdJ:decide (5<dc)=false:=qh;obtain⟨z0,z1,z2,zf⟩:=Dw H7.o;clear bz ip bi zg xz pe ry HL5 kt oc jm;go_wp2_with fail;refine⟨Or.inr ⟨qj,h,mb,sb,ms',s',⟨dc,dt,dls⟩,av',kv',vs',r',HX.o.1,HX.o.2,jz.o.set3 H7.o qd _ _ _,Bn H7.o _ _ _,(Fg qb _ _ _).trans HZ6.o,Gl yz.o qb _ _ _⟩,by simp[intOf]⟩
   ·have H7:Hd (w6.heap[P]?=_):=ip _ _ _ qd HL5.o
    have HQ6:Hd (w6.heap[w.heap.size]?=_):=ip _ _ _ qd kt.o;have HZ6:Hd (w6.heap[w.heap.size+1+1]?=_):=ip _ _ _ qd oc.o;have yz:=Ac (jm.o.trans bz);have xz:=bz.size;obtain⟨At,eAt⟩:=Aj (clA b);obtain⟨Bt,eBt⟩:=Aj (clB b);(have HC6:Hd (w6.cell? ⟨hb,8,N⟩=M (S At)/\w6.cell? ⟨hb,9,N⟩=M (S Bt)):=by rw[←eAt,←eBt];exact⟨F6.1,F6.2.1⟩);obtain⟨hc5,M8⟩:=FinB.fall (n:=n) (ss:=ss) (ts:=ts) (T:=T) (R:=R) (B:=w.heap.size) zg (show w.heap.size<=w6.heap.size from qb) bi F6;rw[eAt,eBt]at M8;have HFI:=Ac M8;have hdI:(c > 5)=True:=qh;have hdJ:decide (5<c)=true:=qh;clear bz ip bi zg F6 M8 eAt eBt pe ry HL5 kt oc jm;obtain⟨z0,z1,z2,zf⟩:=Dw H7.o
    go_upto_region 11 with fail
    clear z0 z1 z2 zf;obtain⟨w7,e7⟩:=Aj (((w6.setCell ⟨P,0,N⟩ (I c)).setCell ⟨P,1,N⟩ (S t)).setCell ⟨P,2,N⟩ (J ca cn cc));(have L6:∀b,b≠P->w7.heap[b]?=w6.heap[b]?:=λb q=>by rw[←e7];exact Fg q _ _ _);(have HL7:Hd (w7.heap[P]?=M (O #[I c,S t,J ca cn cc] 120 (0,0))):=by show _=_;rw[←e7];exact Bn H7.o _ _ _);(have D0:Bw w w7:=by rw[←e7];exact Gl yz.o qb _ _ _);(have hs67:w7.heap.size=w6.heap.size:=by rw[←e7];simp);rw[e7];clear e7;obtain⟨U,eU⟩:=Aj w7.drew;have bm:Bw w7 U:=qbs;have HZU:Hd (U.heap[(w.heap.size+1+1)]?=M (O z10 54 (0,0))):=Ad bm ((L6 _ qb).trans HZ6.o);have gt:Hd (U.heap[P]?=M (O #[I (c),S t,J ca cn cc] 120 (0,0))/\U.heap[w.heap.size]?=M (O #[I n,J (M ⟨tb,tf,N⟩) T.length tc,J qa R.length qc] 35 (0,0))/\U.cell? ⟨hb,8,N⟩=M (S At)/\U.cell? ⟨hb,9,N⟩=M (S Bt)):=⟨Ad bm HL7.o,Ad bm ((L6 _ qb).trans HQ6.o),Aa bm ((Dd (L6 hb qb)).trans HC6.o.1),Aa bm ((Dd (L6 hb qb)).trans HC6.o.2)⟩;have Id:=Ac (bt D0 bm);(have jo:Hd (∀(b:X)(cur:Array Z),w6.heap[b]?=M (O cur 9 (0,0))->U.heap[b]?=w6.heap[b]?):=λb cur q=>by rw[bm.block b (zo (Ag q)),L6 b (λq2=>by rw[q2,H7.o]at q;injection q with q;injection q with _ q;exact absurd q qd)]);have hU6:w6.heap.size<=U.heap.size:=zo bm.size;clear hs67 bm L6 HL7 D0 H7 HQ6 HZ6 HC6;refine Lt.begin 99 (λw'=>w'.heap[P]?=M (O #[I (c),S t,J ca cn cc] 120 (0,0))/\w'.heap[w.heap.size]?=M (O #[I n,J (M ⟨tb,tf,N⟩) T.length tc,J qa R.length qc] 35 (0,0))/\w'.cell? ⟨hb,8,N⟩=M (S At)/\w'.cell? ⟨hb,9,N⟩=M (S Bt)) qi ?_;rw[eU];clear eU;change K 0 _
    iterate 7
     refine Lt.ti (v:=?_) gt.o ?_ ?_;rotate_left 1
     ·exact qbi
     simp only[gX]
    change K 8 _
    iterate 6
     refine Lt.ti (v:=?_) gt.o ?_ ?_;rotate_left 1
     ·exact qbi
     simp only[gX]
    refine Lt.sp (i:=7) (λK hK=>?_);go_simp;refine(K9.o U Id.o).mono ?_;rintro e w8 ⟨i6,g8,p8,v8,rfl,o1,o2⟩;obtain⟨a8,q8,rfl,_⟩:=o2.sl;have jd:Hd (w8.heap[P]?=M (O #[I (c),S t,J ca cn cc] 120 (0,0))/\w8.heap[w.heap.size]?=M (O #[I n,J (M ⟨tb,tf,N⟩) T.length tc,J qa R.length qc] 35 (0,0))/\w8.cell? ⟨hb,8,N⟩=M (S At)/\w8.cell? ⟨hb,9,N⟩=M (S Bt)):=⟨Ad i6 gt.o.1,Ad i6 gt.o.2.1,Aa i6 gt.o.2.2.1,Aa i6 gt.o.2.2.2⟩;have G4:=Ac (Ad i6 HZU.o);have HB8:=Ac (bt Id.o i6);(have t8:Hd (∀(b:X)(cur:Array Z),w6.heap[b]?=M (O cur 9 (0,0))->w8.heap[b]?=w6.heap[b]?):=λb cur q=>by rw[i6.block b (zo (Ag q)),jo.o b cur q]);have gi:=Ac (show Gc w8 w6.heap.size (J (p_ g8) T.length p8) (J a8 R.length q8) T R from ⟨Ah o1.own hU6,⟨g8,p8,rfl⟩,o2.recO.base hU6⟩);have h8s:=i6.size;refine hK.out _ _ (λ_=>jd.o) (λ_=>?_);clear hK K i6 o1 o2 gt HZU Id jo
    try simp only[gX]
    refine Lt.ti (i:=14) (v:=?_) jd.o ?_ ?_;rotate_left 1
    ·exact qbi
    simp only[gX];obtain⟨zc0,zc1,zc2,zc3,zc4,zc5,zc6,zc7,zc8,zc9⟩:=Fz G4.o;have zcf:=fZ G4.o;obtain⟨l,el⟩:∃l:L (X×X×Z),l=[((w.heap.size+1+1),0,I c),((w.heap.size+1+1),1,S t),((w.heap.size+1+1),2,J ca cn cc),((w.heap.size+1+1),3,I n),((w.heap.size+1+1),4,J (p_ g8) T.length p8),((w.heap.size+1+1),5,J a8 R.length q8),((w.heap.size+1+1),6,nS),((w.heap.size+1+1),7,nS),((w.heap.size+1+1),8,S At),((w.heap.size+1+1),9,S Bt)]:=⟨_,rfl⟩;have fk:∀x∈l,x.1=(w.heap.size+1+1):=qah;have d6:=Ep l w8 _ fk G4.o;have hS:=gi.o.setU fk G4.o;have hN:=λ(b:X) (h:b≠(w.heap.size+1+1))=>Gz (b:=b) l w8 (λx hx q=>h (by rw[q,fk x hx]));have gu:Bw w (Cu w8 l):=Cm l w8 HB8.o (λx hx=>qam);obtain⟨V,eV⟩:=Aj (Cu w8 l);rw[eV]at d6 gu hS;simp only[eV]at hN;rw[el]at d6 eV;simp only[Cu,List.foldl]at eV;simp only[List.foldl,List.setIfInBounds_toArray,List.set_cons_zero,List.set_cons_succ]at d6;have HV:=Ac d6;have px:=Ac gu;have oo:=Ac hS;have gq:=Ac hN;clear d6 gu el fk hS hN;refine Lt.sp (i:=15) (λK hK=>?_);go_simp
    try rw[eV]
    refine hK.out _ _ (λ_=>⟨(gq.o P qb).trans jd.o.1,(gq.o w.heap.size qb).trans jd.o.2.1,(Dd (gq.o hb qb)).trans jd.o.2.2.1,(Dd (gq.o hb qb)).trans jd.o.2.2.2⟩) (λ_=>?_);clear hK K zc0 zc1 zc2 zc3 zc4 zc5 zc6 zc7 zc8 zc9 zcf eV
    try simp only[gX]
    refine Lt.sp (i:=16) (λK hK=>?_);go_simp;refine hK.out _ _ (λ_=>⟨(gq.o P qb).trans jd.o.1,(gq.o w.heap.size qb).trans jd.o.2.1,(Dd (gq.o hb qb)).trans jd.o.2.2.1,(Dd (gq.o hb qb)).trans jd.o.2.2.2⟩) (λ_=>?_);clear hK K
    try simp only[gX]
    refine Lt.done qi ?_ _;go_wp2_with fail;obtain⟨y0,y1,y2,y3,y4,y5,y6,y7,y8,y9⟩:=Fz HV.o;refine bR (v:=Y #[G #[I c,S t,J ca cn cc,I n,J (p_ g8) T.length p8,J a8 R.length q8,nS,nS,S At,S Bt],nS]) qdo rfl ⟨px.o,_,_,rfl,HFI.o V _ _ (λb cur q=>?_) oo.o⟩;exact qjj
  ·obtain⟨h,mb,sb,ms',s',⟨dc,dt,dls⟩,av',kv',vs',r',zg,bi,kh,hp5,hz5,hbw5⟩:=HD.o
   clear HD pe ry HL5 kt jr oc B3 jm;obtain⟨mz,xx,et⟩:=Ay kh.rs.tx;(obtain⟨P4,P3,eq_⟩:∃a c,r'.qv=J a s'.R.length c:=by obtain⟨zs,cv,lv,qr⟩:=kh.rs.qs;exact Ay qr.row);obtain⟨na',S7,en⟩:=Ay kh.rs.ran;obtain⟨ea',ec',ee⟩:=Ay kh.rs.held;(obtain⟨ua',uc',eu⟩:∃a c,r'.uv=J a s'.R.length c:=by obtain⟨xs,uo⟩:=kh.rs.us;exact Ay uo);obtain⟨tn',etn⟩:=Aj s'.T.length;obtain⟨qn',eqn⟩:=Aj s'.R.length;obtain⟨nn',enn⟩:=Aj s'.ran.length;obtain⟨en',een⟩:=Aj s'.held.length;rw[etn]at et;rw[eqn]at eq_ eu;rw[enn]at en;rw[een]at ee;have R8:=Ac (show r'.tx=J mz tn' xx/\r'.qv=J P4 qn' P3/\r'.nv=J na' nn' S7/\r'.ev=J ea' en' ec'/\r'.uv=J ua' qn' uc' from ⟨et,eq_,en,ee,eu⟩);have HNU:=Ac (show Ar nm/\Bc ss ts n [] ⟨T,R,[],[]⟩ [] (.make nm) ms' s' (.ok ⟨dc,dt,dls⟩) from ⟨zg,bi⟩);have HBS:=Ac kh;have HL5:=Ac hp5;have HZ5:=Ac hz5;have jm:=Ac hbw5;have hZl:=Ag hz5;have Y0:=Ag hp5;clear zg bi kh hp5 hz5 hbw5 et eq_ en ee eu etn eqn enn een
   go_upto_region 13 with fail
   obtain⟨U,eU⟩:=Aj wr.drew;have bm:Bw wr U:=qbs;have If:=Ac (HBS.o.bl bm);have n9:=Ac (Ad bm HZ5.o);have fw:=Ac (bt jm.o bm);have cw:=If.o.rs.sh;rw[R8.o.1,R8.o.2.1]at cw;have gt:Hd (U.heap[P]?=M (O #[I dc,S dt,nS] 120 (0,0))/\U.heap[hb]?=M (O (Pv ⟨hb,g,sb,n⟩ h r') 168 (0,0))/\U.heap[g]?=M (O #[I n,J mz tn' xx,J P4 qn' P3,r'.su] 171 (0,0))):=⟨Ad bm HL5.o,If.o.rs.bd,cw⟩;have hUs:=bm.size;refine Lt.begin 99 (λw'=>w'.heap[P]?=M (O #[I dc,S dt,nS] 120 (0,0))/\w'.heap[hb]?=M (O (Pv ⟨hb,g,sb,n⟩ h r') 168 (0,0))/\w'.heap[g]?=M (O #[I n,J mz tn' xx,J P4 qn' P3,r'.su] 171 (0,0))) qi ?_;rw[eU];clear eU bm cw HBS HZ5 jm HL5;change K 0 _
   iterate 16
    refine Lt.ti (v:=?_) gt.o ?_ ?_;rotate_left 1
    ·rintro w ⟨s1,s2,s3⟩
     obtain⟨l0,l1,l2,-⟩:=Dw s1;have b0:=cK s2 0;(have b1:w.cell? ⟨hb,1,N⟩=M (J na' nn' S7):=by rw[cH s2,←R8.o.2.2.1];rfl);(have b2:w.cell? ⟨hb,2,N⟩=M (J ea' en' ec'):=by rw[cH s2,←R8.o.2.2.2.1];rfl);(have b3:w.cell? ⟨hb,3,N⟩=M (J ua' qn' uc'):=by rw[cH s2,←R8.o.2.2.2.2];rfl);obtain⟨g0,g1,g2,g3,-⟩:=Lu s3;exact qaw
    simp only[gX]
   obtain⟨zc0,zc1,zc2,zc3,zc4,zc5,zc6,zc7,zc8,zc9⟩:=Fz n9.o;have zcf:=fZ n9.o;obtain⟨l,el⟩:∃l:L (X×X×Z),l=[((w.heap.size+1+1),0,I dc),((w.heap.size+1+1),1,S dt),((w.heap.size+1+1),2,nS),((w.heap.size+1+1),3,I n),((w.heap.size+1+1),4,(J mz tn' xx)),((w.heap.size+1+1),5,(J P4 qn' P3)),((w.heap.size+1+1),6,(J na' nn' S7)),((w.heap.size+1+1),7,(J ea' en' ec')),((w.heap.size+1+1),8,ze),((w.heap.size+1+1),9,ze)]:=⟨_,rfl⟩;have fk:∀x∈l,x.1=(w.heap.size+1+1):=qah;have d6:=Ep l U _ fk n9.o;have hT:=Dy If.o.rs.tx fk n9.o qd;have hRc:=If.o.rs.qs.setU fk n9.o;have hA:=Dy If.o.rs.ran fk n9.o qd;have hE:=Dy If.o.rs.held fk n9.o qd;have hN:=λ(b:X) (h:b≠(w.heap.size+1+1))=>Gz (b:=b) l U (λx hx q=>h (by rw[q,fk x hx]));have gu:Bw w (Cu U l):=Cm l U fw.o (λx hx=>qam);obtain⟨V,eV⟩:=Aj (Cu U l);rw[eV]at d6 gu hT hRc hA hE;simp only[eV]at hN;rw[el]at d6 eV;simp only[Cu,List.foldl]at eV;simp only[List.foldl,List.setIfInBounds_toArray,List.set_cons_zero,List.set_cons_succ]at d6;have HV:=Ac d6;have px:=Ac gu;have H_hT:=Ac hT;have H_hRc:=Ac hRc;have H_hA:=Ac hA;have H_hE:=Ac hE;have gq:=Ac hN;clear d6 gu el fk hT hRc hA hE hN;refine Lt.sp (i:=16) (λK hK=>?_);go_simp
   try rw[eV]
   refine hK.out _ _ (λ_=>⟨(gq.o P qb).trans gt.o.1,(gq.o hb qb).trans gt.o.2.1,(gq.o g qb).trans gt.o.2.2⟩) (λ_=>?_);clear hK K zc0 zc1 zc2 zc3 zc4 zc5 zc6 zc7 zc8 zc9 zcf eV
   try simp only[gX]
   refine Lt.sp (i:=17) (λK hK=>?_);go_simp;refine hK.out _ _ (λ_=>⟨(gq.o P qb).trans gt.o.1,(gq.o hb qb).trans gt.o.2.1,(gq.o g qb).trans gt.o.2.2⟩) (λ_=>?_);clear hK K
   try simp only[gX]
   refine Lt.done qi ?_ _;go_wp2_with fail;obtain⟨y0,y1,y2,y3,y4,y5,y6,y7,y8,y9⟩:=Fz HV.o;refine bR (v:=Y #[G #[I dc,S dt,nS,I n,(J mz tn' xx),(J P4 qn' P3),(J na' nn' S7),(J ea' en' ec'),ze,ze],J ua' qn' uc']) qdo rfl ⟨px.o,_,_,rfl,Or.inr ⟨HNU.o.1,ms',s',_,HNU.o.2,Or.inl ⟨⟨dc,dt,dls⟩,_,_,_,_,rfl,rfl,by rw[←R8.o.1];exact H_hT.o,by rw[←R8.o.2.1];exact H_hRc.o,by rw[←R8.o.2.2.1];exact H_hA.o,by rw[←R8.o.2.2.2.1];exact H_hE.o,?_⟩⟩⟩;have J5:=If.o.rs.ap;rw[R8.o.1,R8.o.2.2.1,R8.o.2.2.2.1]at J5;exact List.Pairwise.sublist (List.Sublist.cons _ (List.Sublist.cons _ (List.Sublist.cons_cons _ (List.Sublist.cons _ (List.Sublist.cons_cons _ (List.Sublist.cons_cons _ List.Sublist.slnil)))))) J5
end Go.Proofs.YtbkkjodaaijimaaGreatDoor
