import Derived.Test.YtoakjccojifagaaGreatDoorBaA
import Derived.Test.YtoakjccojifagaaGreatDoorBuX
namespace Go.Proofs.YtoakjccojifagaaGreatDoor
open _root_.Go.Proofs.Tryz Go.RowKit Go.Deep
open Value renaming slice->J,string->S,agg->G,pointer->D,tuple->Y
open Option renaming some->M,none->N
open Obj renaming cells->O
open Go renaming Value->Z,World->E
open _root_ renaming List->L,Nat->X
set_option linter.unusedVariables false
set_option linter.unusedSimpArgs false
set_option maxHeartbeats 8000000
set_option maxRecDepth 100000
def PostL(B n:X)(ss:L S2)(ts:L T2)(T:L By)(R:L T3)(xs:L By)(v:Z)(w':E):Prop:=
 ∃d cv tx qv nv ev zs kv lv,Jn (n:Int) ss ts T R xs d∧BO w' B d v cv tx qv nv ev zs kv lv
def FinL(B n:X)(ss:L S2)(ts:L T2)(T:L By)(R:L T3)(xs:L By)(c:Int)(t:By)(cv:Z)(At Bt:By)(w6:E):Prop:=
 ∀(V:E)(tx qv:Z),(∀(b:X)(cur:Array Z),w6.heap[b]?=M (O cur 9 (0,0))->V.heap[b]?=w6.heap[b]?)->Ev V w6.heap.size tx qv T R->PostL B n ss ts T R xs (G #[I c,S t,cv,I n,tx,qv,nS,nS,S At,S Bt]) V
section
variable {B n:X} {ss:L S2} {ts:L T2} {T:L By} {R:L T3} {xs:L By} {w6:E}
theorem FinL.no(h0:Il n T R∧Gu ss ts=0∧xs.length≤200)(hA:Jg ss ts n ⟨T,R,[],[]⟩ 0 ⟨#[]⟩ xs .no)(hB:B<=w6.heap.size):FinL B n ss ts T R xs 9 ⟨#[]⟩ nS ⟨#[]⟩ ⟨#[]⟩ w6:=λV tx qv _ hs=>by
 have hs:=hs.base hB;obtain⟨zs,kv,lv,r⟩:=hs.rcs;exact⟨⟨9,⟨#[]⟩,[],n,T,R,[],[],⟨#[]⟩,⟨#[]⟩⟩,nS,tx,qv,nS,nS,zs,kv,lv,Or.inr ⟨h0,_,hA,Or.inr (Or.inr ⟨rfl,rfl⟩)⟩,rfl,Fq _ _,hs.txt,r,Fq _ _,Fq _ _,apt4 noB noB noB noC noC noC⟩
theorem FinL.fall{C:Ga}{b:Gl}{c:Int}{t:By}{ca:Option Addr}{cn cc:X}(h0:Il n T R∧Gu ss ts=0∧xs.length≤200)(hA:Jg ss ts n ⟨T,R,[],[]⟩ 0 ⟨#[]⟩ xs (.bad b))(hB:B<=w6.heap.size)(hf:Df B C w6 b (G #[I c,S t,J ca cn cc])):5<c/\FinL B n ss ts T R xs c t (J ca cn cc) (clA b) (clB b) w6:=by
 have key:∀(cv:Z)(V:E)(tx qv:Z),V.ownsRow B 9 1 cv (chF b).length (Av (chF b))→(∀x,cv.ownBlock=M x→tx.ownBlock≠M x)→Ev V w6.heap.size tx qv T R→PostL B n ss ts T R xs (G #[I (Ja b),S (txF b),cv,I n,tx,qv,nS,nS,S (clA b),S (clB b)]) V:=λcv V tx qv ho iw hs=>by
  have hs:=hs.base hB;obtain⟨zs,kv,lv,r⟩:=hs.rcs;exact⟨⟨Ja b,txF b,chF b,n,T,R,[],[],clA b,clB b⟩,cv,tx,qv,nS,nS,zs,kv,lv,Or.inr ⟨h0,_,hA,Or.inr (Or.inl ⟨b,rfl,rfl⟩)⟩,rfl,ho,hs.txt,r,Fq _ _,Fq _ _,apt4 iw noC noC noC noC noC⟩
 obtain⟨_,_,h3⟩:=hf
 cases b with
 | circle ch=>
   obtain⟨ca',cn',cc',e,ho⟩:=h3;simp only[Value.agg.injEq,Array.mk.injEq,List.cons.injEq,Value.int.injEq,Value.string.injEq,Value.slice.injEq,true_and,and_true]at e;obtain⟨rfl,rfl,rfl,rfl,rfl⟩:=e;refine⟨qd,λV tx qv hk hs=>key _ V tx qv (Al ho (λb' q=>by obtain⟨_,cur,hh⟩:=Dv ho q;exact hk b' cur hh)) (λb' e1 e2=>?_) hs⟩;have h1:=(ho.lt b' e1).2;have h2:=(hs.txt.lt b' e2).1;omega
 | deep nm'=>
   exact qfe
 | clash A B'=>
   exact qfe
 | full=>
   exact qfe
end
theorem BS.rstO{B h mb sb hb hs n:X}{sv tv:Z}{ss:L S2}{ts:L T2}{w:E}{ms:Mm}{st:L By}{av kv:Z}{vs:By->Z}{s:Sb}{r:Rv}(q:Je B h mb ⟨hb,hs,sb,n⟩ sv tv ss ts w ms st av kv vs s r):Ww B hb hs n w s r (D (p_ h)) (.map (M sb)):=
 ⟨⟨q.rs.lb.1,q.rs.lb.2.1⟩,q.rs.wd,q.rs.bd,q.rs.sh,q.rs.tx,q.rs.su,q.rs.qs,q.rs.ran,q.rs.held,q.rs.us,List.Pairwise.sublist (List.Sublist.cons _ (List.Sublist.cons _ (List.Sublist.refl _))) q.rs.ap⟩
theorem Ww.bl{B hb hs n:X}{w w':E}{s:Sb}{r:Rv}{pm vm:Z}(k:Ww B hb hs n w s r pm vm)(hk:Bw w w'):Ww B hb hs n w' s r pm vm:=by
 obtain⟨xs,u⟩:=k.us;exact⟨k.lb,k.wd,Ab hk k.bd,Ab hk k.sh,Ac k.tx hk,Ac k.su hk,k.qs.bl hk,Ac k.ran hk,Ac k.held hk,⟨xs,Ac u hk⟩,k.ap⟩
theorem Ny{xs:L By}{k:X}(h:k<xs.length):xs.drop k=nx xs k::xs.drop (k+1):=by
 rw[List.drop_eq_getElem_cons h];simp[nx,gG,h]
theorem allA_yes(n:X)(tb tf tc nc:X)(na:Option Addr)(xs:L By)(qa sa ta:Option Addr)(qc c1 c2:X)(T:L By)(R:L T3)(ss:L S2)(ts:L T2)(w:E)(hT:Kk w)(hP10:Lq w)(cw:Mc w (M ⟨tb,tf,N⟩) T qa R)(hrz:Rk w qa R)(hr:R.length≤1048576)(km:∀i,i<R.length→(qx R i).code.length≤1048576∧(qx R i).looks.length≤1048576)(wb:Lm w sa ss ta ts)(ly:Ew ss ts)(hw:Il n T R)(H0:Gu ss ts=0)(oq:xs.length≤200)(D6:Ca w na xs)(hxn:∀i,(nx xs i).size≤9223372036854775807):Calls prog 31 #[G #[I n,J (M ⟨tb,tf,N⟩) T.length tc,J qa R.length qc],G #[J sa ss.length c1,J ta ts.length c2],J na xs.length nc] w λe w'=>Bw w w'/\∃v u,e=.returned (Y #[v,u])/\PostL w.heap.size n ss ts T R xs v w':=by
 obtain⟨W,eW⟩:=Aj (((w.alloc (O #[I n,J (M ⟨tb,tf,N⟩) T.length tc,J qa R.length qc] 35)).alloc (O #[J sa ss.length c1,J ta ts.length c2] 43)).alloc (O Qo 37));have bq:Bw w W:=qcn;have HQ:Hd (W.heap[w.heap.size]?=M (O #[I n,J (M ⟨tb,tf,N⟩) T.length tc,J qa R.length qc] 35 (0,0))):=qcr
 have HP:Hd (W.heap[w.heap.size+1]?=M (O #[J sa ss.length c1,J ta ts.length c2] 43 (0,0))):=by
  exact qdh
 have HZ:Hd (W.heap[w.heap.size+1+1]?=M (O Qo 37 (0,0))):=by
  exact qdg
 have B6:w.heap.size+1+1<W.heap.size:=Ag HZ.o;have oo:=Ad bq;have M1:=Ad (Pu n tb tf tc qa qc T R W (hT.bl bq) (cw.bl bq) (hrz.bl bq) hr km);have xq:=Ad (λ(V:E) (hV:Bw w V)=>Kf n tb tf tc qa qc T R V (cw.st.bl hV) (hrz.bl hV) cw.lt hr km);have I5:=Ad (λ(V:E) (hV:Bw w V)=>Ov sa ta c1 c2 ss ts V (hT.bl hV) (wb.bl hV) ly);obtain⟨q0,q1,q2,qf⟩:=Dx HQ.o;have HCH:=Ad H0;have Z9:=Ad (show He w sa ta ss ts/\Kk w/\Lq w from ⟨Rf wb H0,hT,hP10⟩);have HNB:Hd (Ca w na xs):=D6;have Z2:=Ad (show Il n T R∧Gu ss ts=0∧xs.length≤200 from ⟨hw,H0,oq⟩);have uf:R.length<=2000:=hw.2.2.2.1;have oh:Hd (Gi n ⟨T,R,[],[]⟩):=by have:=hw.2.2;show Hx n T R;simpa using this
 have J9:1<=n:=zo hw.1;have hn8:n<=8:=zo hw.2.1;clear hT cw hrz hr km wb ly bq hP10 H0 D6;go_enter func31,ntmps31;go_wp2_with fail;clear eW;refine M1.o.mono ?_;rintro e w1 ⟨af,⟨im,_⟩|⟨_,g,g1,p1,sv,qv,rfl,hg,di⟩⟩
 ·exact absurd hw im
 have ki:=Ad (Ab af HQ.o);have jp:=Ad (Ab af HP.o);have o8:=Ad (Ab af HZ.o);have d7:=Ad (bt oo.o af);have yu:=Ad (show ShO w1 g W.heap.size w1.heap.size n sv (J (p_ g1) T.length p1) qv T R from by simpa using di);obtain⟨x0,x1⟩:=Ft jp.o;have fm:=af.size;have HC:=Ad (I5.o w1 d7.o);rw[HCH.o]at HC;clear af hw q0 q1 q2 qf HQ HP HZ M1 I5 di oo;go_wp2_with fail;clear x0 x1;refine HC.o.mono ?_;rintro e w2 ⟨ag,rfl⟩;replace ki:=Ad (Ab ag ki.o);replace jp:=Ad (Ab ag jp.o);replace o8:=Ad (Ab ag o8.o);replace d7:=Ad (bt d7.o ag);have HSO2:=Ad (yu.o.bl ag);have ik:=ag.size;clear ag HC yu;obtain⟨x0,x1,x2,xf⟩:=Dx ki.o;obtain⟨i0,E5,bo,bm,cm⟩:=info_parts Tryz.info4b
 go_upto_region 5 with(at_make;refine wpList_make_full _ rfl (.tmp 37) (.tmp 37) 64 rfl w2.heap.size 4 i0 (.bool false) 1 underlying64 E5 bo bm .i64 .i64 _ _ R.length rfl rfl rfl rfl qao qm (Nat.le_refl _) ?_;intro w3 fu rd)
 clear x0 x1 x2 xf;rw[Ur]at fu;have au:Bw w2 w3:=(Below.refl _ _).grown rd (Nat.le_refl _) qg;obtain⟨uv,euv⟩:=Aj (Value.slice (p_ w2.heap.size) R.length R.length);rw[euv]at fu ⊢;obtain⟨hb,ehb⟩:=Aj w3.heap.size;obtain⟨w4,e4⟩:=Aj (w3.alloc (O #[D (p_ g),nS,nS,uv,I 0,I 0,nS,nS,ze,ze,D N,.map N,nS] 119));have ce:Bw w3 w4:=qhd;have HD4:=Ad (nW e4 ehb);rw[e4,ehb];have L9:=Ay au ce;have lz:w2.heap.size<=hb:=by rw[←ehb];exact au.size
 clear e4 ehb euv rd;have HU4:=Ad (Ac fu ce);have hs24:=L9.size;replace ki:=Ad (Ab L9 ki.o);replace jp:=Ad (Ab L9 jp.o);replace o8:=Ad (Ab L9 o8.o);have vx:=Ad (bt d7.o L9);have HSO4:=Ad (HSO2.o.bl L9);have hB1s:=d7.o.size;clear au ce fu L9 HSO2 d7
 go_upto_region 6 with fail
 obtain⟨P,eP⟩:=Aj w4.heap.size;obtain⟨w5,e5⟩:=Aj (w4.alloc (O #[I 0,ze,nS] 121));have dh:Bw w4 w5:=qhe;have Z4:=Ad (nW e5 eP);rw[e5,eP];have hPw:w2.heap.size<=P:=by rw[←eP];exact hs24
 have hhP:hb<P:=by rw[←eP];exact Ag HD4.o
 replace ki:=Ad (Ab dh ki.o);replace jp:=Ad (Ab dh jp.o);replace o8:=Ad (Ab dh o8.o);have lq:=Ad (bt vx.o dh);have HSO5:=Ad (HSO4.o.bl dh);have HD5:=Ad (Ab dh HD4.o);have HU5:=Ad (Ac HU4.o dh);clear e5 eP dh HSO4 vx HD4 HU4
 have yv:Hd (Ww w.heap.size hb g n w5 ⟨T,R,[],[]⟩ ⟨J (p_ g1) T.length p1,sv,qv,nS,nS,uv,nS,0⟩ (D N) (.map N)):=by
  have hx:=HSO5.o;have hsx:=hx.sx.own;rw[List.length_map]at hsx;refine⟨⟨qb,qb⟩,⟨J9,hn8⟩,HD5.o,hx.blk,Ah hx.tx.own qb,Ah hsx qb,hx.qs.recO.base qb,World.ownsRow_nil _ _ _ _,World.ownsRow_nil _ _ _ _,⟨_,Ah HU5.o qb⟩,?_⟩;unfold Jf;refine List.Pairwise.cons (λu hu b e=>?_) (List.Pairwise.cons (λu hu b e=>?_) (List.Pairwise.cons (λu hu b e=>qby) (List.Pairwise.cons (λu hu b e=>qby) List.Pairwise.nil)))
  ·simp only[List.mem_cons,List.not_mem_nil,or_false]at hu
   rcases hu with rfl|rfl|rfl
   ·exact λe2=>hx.ne b e2 e
   ·simp[Value.ownBlock]
   ·simp[Value.ownBlock]
  ·simp only[List.mem_cons,List.not_mem_nil,or_false]at hu
   rcases hu with rfl|rfl<;>simp[Value.ownBlock]
 clear HSO5 HD5 HU5;obtain⟨m,em⟩:=Aj xs.length;have EM:=Ad em;rw[em];clear em;go_wp2
 go_loopw [42] (λi wr=>∃(k:X)(s:Sb)(c:Int)(t:By)(r:Rv)(pm vm:Z),k≤m/\i=I k/\Hd (∀rr,Jg ss ts n s c t (xs.drop k) rr→Jg ss ts n ⟨T,R,[],[]⟩ 0 ⟨#[]⟩ xs rr)/\Hd (Ww w.heap.size hb g n wr s r pm vm)/\Hd (Gi n s)/\Hd (s.ran.length+s.held.length≤200*k)/\Hd (wr.heap[P]?=M (O #[I c,S t,nS] 121 (0,0)))/\Hd (wr.heap[w.heap.size]?=M (O #[I n,J (M ⟨tb,tf,N⟩) T.length tc,J qa R.length qc] 35 (0,0)))/\Hd (wr.heap[w.heap.size+1]?=M (O #[J sa ss.length c1,J ta ts.length c2] 43 (0,0)))/\Hd (wr.heap[w.heap.size+1+1]?=M (O Qo 37 (0,0)))/\Hd (Bw w wr)) (λi _=>m-(intOf i).toNat)
 case atStart=>exact⟨0,_,_,_,_,_,_,Nat.zero_le _,rfl,λrr h=>h,yv.o,oh.o,Nat.zero_le _,Z4.o,ki.o,jp.o,o8.o,lq.o⟩
 case round=>
  clear yv Z4 ki jp o8 lq oh;obtain⟨k,s0,c0,t0,r0,pm,vm,hk,rfl,ig,yv,oh,om,Z4,ki,jp,o8,lq⟩:=hrel
  by_cases aj:k<m
  ·have Y2:k<xs.length:=qbb
   obtain⟨nb,nf,ena,nc0⟩:=(HNB.o.bl lq.o) k Y2;subst ena;obtain⟨nm,enm⟩:=Aj (nx xs k);have ENM:=Ad enm;(have de:nm.size≤9223372036854775807:=by rw[←enm];exact hxn k);replace nc0:wr.cell? ⟨nb,nf+k,N⟩=M (S (nx xs k)):=nc0;rw[enm]at nc0;clear enm;have vu:=Ad (buildB_any w hb g n sa ta c1 c2 ss ts nm _ _ _ _ wr Z9.o.1 Z9.o.2.1 Z9.o.2.2 de yv.o oh.o (zo om.o) lq.o);obtain⟨x0,x1⟩:=Ft jp.o;have iy:(k:Int)<(m:Int):=qb;go_wp2_with fail;clear x0 x1 nc0;refine vu.o.mono ?_;have po:=Ag Z4.o;rintro e w6 (⟨im,rfl,bz⟩|⟨zc,bz,jd,h,mb,sb,ms',s',an,bu,⟨⟨dc,dt,dls⟩,av',kv',vs',r',rfl,rfl,zk⟩|⟨b,c,t,ca,cn,cc,rfl,rfl,Le⟩⟩)
   ·have jk:=Ad (ig.o .no (by rw[Ny Y2,ENM.o];exact .no im))
    have M9:=Ad (Ab bz Z4.o);have Q9:=Ad (Ab bz ki.o);have Q6:=Ad (Ab bz o8.o);have uk:=Ad (bt lq.o bz)
    have HC6:Hd (w6.cell? ⟨hb,8,N⟩=M ze/\w6.cell? ⟨hb,9,N⟩=M ze):=by
     have hd:=Ab bz yv.o.bd;exact⟨by rw[cH hd];rfl,by rw[cH hd];rfl⟩
    have zk:=bz.size;have HFI:=Ad (FinL.no (B:=w.heap.size) Z2.o jk.o (show w.heap.size<=w6.heap.size from qb));clear bz yv vu Z4 ki o8 lq ig jp jk oh om;obtain⟨z0,z1,z2,zf⟩:=Dx M9.o
    go_upto_region 11 with fail
    clear z0 z1 z2 zf;obtain⟨w7,e7⟩:=Aj (((w6.setCell ⟨P,0,N⟩ (I 9)).setCell ⟨P,1,N⟩ ze).setCell ⟨P,2,N⟩ nS);(have S7:∀b,b≠P->w7.heap[b]?=w6.heap[b]?:=λb q=>by rw[←e7];exact Em q _ _ _);(have HL7:Hd (w7.heap[P]?=M (O #[I 9,ze,nS] 121 (0,0))):=by show _=_;rw[←e7];exact Bp M9.o _ _ _);(have If:Bw w w7:=by rw[←e7];exact Gv uk.o qb _ _ _);(have hs67:w7.heap.size=w6.heap.size:=by rw[←e7];simp);rw[e7];clear e7;obtain⟨U,eU⟩:=Aj w7.drew;have bn:Bw w7 U:=qbu;have HZU:Hd (U.heap[(w.heap.size+1+1)]?=M (O Qo 37 (0,0))):=Ab bn ((S7 _ qb).trans Q6.o);have ft:Hd (U.heap[P]?=M (O #[I 9,ze,nS] 121 (0,0))/\U.heap[w.heap.size]?=M (O #[I n,J (M ⟨tb,tf,N⟩) T.length tc,J qa R.length qc] 35 (0,0))/\U.cell? ⟨hb,8,N⟩=M ze/\U.cell? ⟨hb,9,N⟩=M ze):=⟨Ab bn HL7.o,Ab bn ((S7 _ qb).trans Q9.o),Aa bn ((Di (S7 hb qb)).trans HC6.o.1),Aa bn ((Di (S7 hb qb)).trans HC6.o.2)⟩;have N0:=Ad (bt If bn);(have ks:Hd (∀(b:X)(cur:Array Z),w6.heap[b]?=M (O cur 9 (0,0))->U.heap[b]?=w6.heap[b]?):=λb cur q=>by rw[bn.block b (zo (Ag q)),S7 b (λq2=>by rw[q2,M9.o]at q;injection q with q;injection q with _ q;exact absurd q qd)]);have hU6:w6.heap.size<=U.heap.size:=zo bn.size;clear hs67 bn S7 HL7 If M9 Q9 Q6 HC6;refine Lt.begin 99 (λw'=>w'.heap[P]?=M (O #[I 9,ze,nS] 121 (0,0))/\w'.heap[w.heap.size]?=M (O #[I n,J (M ⟨tb,tf,N⟩) T.length tc,J qa R.length qc] 35 (0,0))/\w'.cell? ⟨hb,8,N⟩=M ze/\w'.cell? ⟨hb,9,N⟩=M ze) qi ?_;rw[eU];clear eU;change K 0 _
    iterate 7
     refine Lt.ti (v:=?_) ft.o ?_ ?_;rotate_left 1
     ·exact qbk
     simp only[gX]
    change K 8 _
    iterate 6
     refine Lt.ti (v:=?_) ft.o ?_ ?_;rotate_left 1
     ·exact qbk
     simp only[gX]
    refine Lt.sp (i:=7) (λK hK=>?_);go_simp;refine(xq.o U N0.o).mono ?_;rintro e w8 ⟨n9,g8,p8,v8,rfl,o1,o2⟩;obtain⟨a8,q8,rfl,_⟩:=o2.sl;have ju:Hd (w8.heap[P]?=M (O #[I 9,ze,nS] 121 (0,0))/\w8.heap[w.heap.size]?=M (O #[I n,J (M ⟨tb,tf,N⟩) T.length tc,J qa R.length qc] 35 (0,0))/\w8.cell? ⟨hb,8,N⟩=M ze/\w8.cell? ⟨hb,9,N⟩=M ze):=⟨Ab n9 ft.o.1,Ab n9 ft.o.2.1,Aa n9 ft.o.2.2.1,Aa n9 ft.o.2.2.2⟩;have ui:=Ad (Ab n9 HZU.o);have HB8:=Ad (bt N0.o n9);(have vp:Hd (∀(b:X)(cur:Array Z),w6.heap[b]?=M (O cur 9 (0,0))->w8.heap[b]?=w6.heap[b]?):=λb cur q=>by rw[n9.block b (zo (Ag q)),ks.o b cur q]);have gw:=Ad (show Ev w8 w6.heap.size (J (p_ g8) T.length p8) (J a8 R.length q8) T R from ⟨Ah o1.own hU6,⟨g8,p8,rfl⟩,o2.recO.base hU6⟩);refine hK.out _ _ (λ_=>ju.o) (λ_=>?_);clear hK K n9 o1 o2 ft HZU N0 ks
    try simp only[gX]
    refine Lt.ti (i:=14) (v:=?_) ju.o ?_ ?_;rotate_left 1
    ·exact qbk
    simp only[gX];obtain⟨ye,yd,yb,xz,xy,xx,xw,xv,xu,xr⟩:=Dz ui.o;have zcf:=fZ ui.o;obtain⟨l,el⟩:∃l:L (X×X×Z),l=[((w.heap.size+1+1),0,I 9),((w.heap.size+1+1),1,ze),((w.heap.size+1+1),2,nS),((w.heap.size+1+1),3,I n),((w.heap.size+1+1),4,J (p_ g8) T.length p8),((w.heap.size+1+1),5,J a8 R.length q8),((w.heap.size+1+1),6,nS),((w.heap.size+1+1),7,nS),((w.heap.size+1+1),8,ze),((w.heap.size+1+1),9,ze)]:=⟨_,rfl⟩;have bi:∀x∈l,x.1=(w.heap.size+1+1):=qy;have be:=Cl l w8 _ bi ui.o;have hS:=gw.o.setU bi ui.o;have hN:=λ(b:X) (h:b≠(w.heap.size+1+1))=>Es (b:=b) l w8 (λx hx q=>h qbz);have cr:Bw w (Be w8 l):=Az l w8 HB8.o (λx hx=>qz);obtain⟨V,eV⟩:=Aj (Be w8 l);rw[eV]at be cr hS;simp only[eV]at hN;rw[el]at be eV;simp only[Be,List.foldl]at eV;simp only[List.foldl,List.setIfInBounds_toArray,List.set_cons_zero,List.set_cons_succ]at be;have HV:=Ad be;have jz:=Ad cr;have ew:=Ad hS;have ij:=Ad hN;clear be cr el bi hS hN;refine Lt.sp (i:=15) (λK hK=>?_);go_simp
    try rw[eV]
    refine hK.out _ _ (λ_=>⟨(ij.o P qb).trans ju.o.1,(ij.o w.heap.size qb).trans ju.o.2.1,(Di (ij.o hb qb)).trans ju.o.2.2.1,(Di (ij.o hb qb)).trans ju.o.2.2.2⟩) (λ_=>?_);clear hK K ye yd yb xz xy xx xw xv xu xr zcf eV
    try simp only[gX]
    refine Lt.sp (i:=16) (λK hK=>?_);go_simp;refine hK.out _ _ (λ_=>⟨(ij.o P qb).trans ju.o.1,(ij.o w.heap.size qb).trans ju.o.2.1,(Di (ij.o hb qb)).trans ju.o.2.2.1,(Di (ij.o hb qb)).trans ju.o.2.2.2⟩) (λ_=>?_);clear hK K
    try simp only[gX]
    refine Lt.done qi ?_ _;go_wp2_with fail;obtain⟨y0,y1,y2,y3,y4,y5,y6,y7,y8,y9⟩:=Dz HV.o;refine bR (v:=Y #[G #[I 9,ze,nS,I n,J (p_ g8) T.length p8,J a8 R.length q8,nS,nS,ze,ze],nS]) qco rfl ⟨jz.o,_,_,rfl,HFI.o V _ _ (λb cur q=>?_) ew.o⟩;exact qjy
   ·have M9:Hd (w6.heap[P]?=_):=jd _ _ _ qd Z4.o
    have Q9:Hd (w6.heap[w.heap.size]?=_):=jd _ _ _ qd ki.o;have Q6:Hd (w6.heap[w.heap.size+1+1]?=_):=jd _ _ _ qd o8.o;have uk:=Ad (lq.o.trans bz);obtain⟨hok6,hct6,P2⟩:=bu.one Z9.o.1.v Z9.o.1.l2 oh.o zc;have HCO6:Hd (∀rr,Jg ss ts n s' dc dt (xs.drop (k+1)) rr→Jg ss ts n ⟨T,R,[],[]⟩ 0 ⟨#[]⟩ xs rr):=λrr h=>ig.o rr (by rw[Ny Y2,ENM.o];exact .go zc bu h);have HOK6:=Ad hok6;(have HCT6:Hd (s'.ran.length+s'.held.length≤200*(k+1)):=by have:=om.o;show _≤_;omega);have HP6:Hd (w6.heap[w.heap.size+1]?=_):=jd _ _ _ qd jp.o;have lp:=Ad zk;have hdI:(dc > 5)=False:=qh;obtain⟨z0,z1,z2,zf⟩:=Dx M9.o;clear bz jd bu zc zk yv vu Z4 ki o8 lq ig jp oh om hok6 hct6;go_wp2_with fail;refine⟨⟨k+1,s',dc,dt,r',_,_,qb,qj,HCO6.o,(lp.o.set3 M9.o qd _ _ _).rstO,HOK6.o,HCT6.o,Bp M9.o _ _ _,(Em qb _ _ _).trans Q9.o,(Em qb _ _ _).trans HP6.o,(Em qb _ _ _).trans Q6.o,Gv uk.o qb _ _ _⟩,qak⟩
   ·have M9:Hd (w6.heap[P]?=_):=jd _ _ _ qd Z4.o
    have Q9:Hd (w6.heap[w.heap.size]?=_):=jd _ _ _ qd ki.o;have Q6:Hd (w6.heap[w.heap.size+1+1]?=_):=jd _ _ _ qd o8.o;have uk:=Ad (lq.o.trans bz);have zk:=bz.size;obtain⟨At,eAt⟩:=Aj (clA b);obtain⟨Bt,eBt⟩:=Aj (clB b);(have HC6:Hd (w6.cell? ⟨hb,8,N⟩=M (S At)/\w6.cell? ⟨hb,9,N⟩=M (S Bt)):=by rw[←eAt,←eBt];exact⟨Le.1,Le.2.1⟩);obtain⟨hc5,T7⟩:=FinL.fall (B:=w.heap.size) Z2.o (ig.o (.bad b) (by rw[Ny Y2,ENM.o];exact .bad zc bu)) (show w.heap.size<=w6.heap.size from qb) Le;rw[eAt,eBt]at T7;have HFI:=Ad T7;clear bz jd bu zc Le T7 eAt eBt yv vu Z4 ki o8 lq ig jp oh om;obtain⟨z0,z1,z2,zf⟩:=Dx M9.o
    go_upto_region 11 with fail
    clear z0 z1 z2 zf;obtain⟨w7,e7⟩:=Aj (((w6.setCell ⟨P,0,N⟩ (I c)).setCell ⟨P,1,N⟩ (S t)).setCell ⟨P,2,N⟩ (J ca cn cc));(have S7:∀b,b≠P->w7.heap[b]?=w6.heap[b]?:=λb q=>by rw[←e7];exact Em q _ _ _);(have HL7:Hd (w7.heap[P]?=M (O #[I c,S t,J ca cn cc] 121 (0,0))):=by show _=_;rw[←e7];exact Bp M9.o _ _ _);(have If:Bw w w7:=by rw[←e7];exact Gv uk.o qb _ _ _);(have hs67:w7.heap.size=w6.heap.size:=by rw[←e7];simp);rw[e7];clear e7;obtain⟨U,eU⟩:=Aj w7.drew;have bn:Bw w7 U:=qbu;have HZU:Hd (U.heap[(w.heap.size+1+1)]?=M (O Qo 37 (0,0))):=Ab bn ((S7 _ qb).trans Q6.o);have ft:Hd (U.heap[P]?=M (O #[I (c),S t,J ca cn cc] 121 (0,0))/\U.heap[w.heap.size]?=M (O #[I n,J (M ⟨tb,tf,N⟩) T.length tc,J qa R.length qc] 35 (0,0))/\U.cell? ⟨hb,8,N⟩=M (S At)/\U.cell? ⟨hb,9,N⟩=M (S Bt)):=⟨Ab bn HL7.o,Ab bn ((S7 _ qb).trans Q9.o),Aa bn ((Di (S7 hb qb)).trans HC6.o.1),Aa bn ((Di (S7 hb qb)).trans HC6.o.2)⟩;have N0:=Ad (bt If bn);(have ks:Hd (∀(b:X)(cur:Array Z),w6.heap[b]?=M (O cur 9 (0,0))->U.heap[b]?=w6.heap[b]?):=λb cur q=>by rw[bn.block b (zo (Ag q)),S7 b (λq2=>by rw[q2,M9.o]at q;injection q with q;injection q with _ q;exact absurd q qd)]);have hU6:w6.heap.size<=U.heap.size:=zo bn.size;clear hs67 bn S7 HL7 If M9 Q9 Q6 HC6;refine Lt.begin 99 (λw'=>w'.heap[P]?=M (O #[I (c),S t,J ca cn cc] 121 (0,0))/\w'.heap[w.heap.size]?=M (O #[I n,J (M ⟨tb,tf,N⟩) T.length tc,J qa R.length qc] 35 (0,0))/\w'.cell? ⟨hb,8,N⟩=M (S At)/\w'.cell? ⟨hb,9,N⟩=M (S Bt)) qi ?_;rw[eU];clear eU;change K 0 _
    iterate 7
     refine Lt.ti (v:=?_) ft.o ?_ ?_;rotate_left 1
     ·exact qbk
     simp only[gX]
    change K 8 _
    iterate 6
     refine Lt.ti (v:=?_) ft.o ?_ ?_;rotate_left 1
     ·exact qbk
     simp only[gX]
    refine Lt.sp (i:=7) (λK hK=>?_);go_simp;refine(xq.o U N0.o).mono ?_;rintro e w8 ⟨n9,g8,p8,v8,rfl,o1,o2⟩;obtain⟨a8,q8,rfl,_⟩:=o2.sl;have ju:Hd (w8.heap[P]?=M (O #[I (c),S t,J ca cn cc] 121 (0,0))/\w8.heap[w.heap.size]?=M (O #[I n,J (M ⟨tb,tf,N⟩) T.length tc,J qa R.length qc] 35 (0,0))/\w8.cell? ⟨hb,8,N⟩=M (S At)/\w8.cell? ⟨hb,9,N⟩=M (S Bt)):=⟨Ab n9 ft.o.1,Ab n9 ft.o.2.1,Aa n9 ft.o.2.2.1,Aa n9 ft.o.2.2.2⟩;have ui:=Ad (Ab n9 HZU.o);have HB8:=Ad (bt N0.o n9);(have vp:Hd (∀(b:X)(cur:Array Z),w6.heap[b]?=M (O cur 9 (0,0))->w8.heap[b]?=w6.heap[b]?):=λb cur q=>by rw[n9.block b (zo (Ag q)),ks.o b cur q]);have gw:=Ad (show Ev w8 w6.heap.size (J (p_ g8) T.length p8) (J a8 R.length q8) T R from ⟨Ah o1.own hU6,⟨g8,p8,rfl⟩,o2.recO.base hU6⟩);refine hK.out _ _ (λ_=>ju.o) (λ_=>?_);clear hK K n9 o1 o2 ft HZU N0 ks
    try simp only[gX]
    refine Lt.ti (i:=14) (v:=?_) ju.o ?_ ?_;rotate_left 1
    ·exact qbk
    simp only[gX];obtain⟨ye,yd,yb,xz,xy,xx,xw,xv,xu,xr⟩:=Dz ui.o;have zcf:=fZ ui.o;obtain⟨l,el⟩:∃l:L (X×X×Z),l=[((w.heap.size+1+1),0,I c),((w.heap.size+1+1),1,S t),((w.heap.size+1+1),2,J ca cn cc),((w.heap.size+1+1),3,I n),((w.heap.size+1+1),4,J (p_ g8) T.length p8),((w.heap.size+1+1),5,J a8 R.length q8),((w.heap.size+1+1),6,nS),((w.heap.size+1+1),7,nS),((w.heap.size+1+1),8,S At),((w.heap.size+1+1),9,S Bt)]:=⟨_,rfl⟩;have bi:∀x∈l,x.1=(w.heap.size+1+1):=qy;have be:=Cl l w8 _ bi ui.o;have hS:=gw.o.setU bi ui.o;have hN:=λ(b:X) (h:b≠(w.heap.size+1+1))=>Es (b:=b) l w8 (λx hx q=>h qbz);have cr:Bw w (Be w8 l):=Az l w8 HB8.o (λx hx=>qz);obtain⟨V,eV⟩:=Aj (Be w8 l);rw[eV]at be cr hS;simp only[eV]at hN;rw[el]at be eV;simp only[Be,List.foldl]at eV;simp only[List.foldl,List.setIfInBounds_toArray,List.set_cons_zero,List.set_cons_succ]at be;have HV:=Ad be;have jz:=Ad cr;have ew:=Ad hS;have ij:=Ad hN;clear be cr el bi hS hN;refine Lt.sp (i:=15) (λK hK=>?_);go_simp
    try rw[eV]
    refine hK.out _ _ (λ_=>⟨(ij.o P qb).trans ju.o.1,(ij.o w.heap.size qb).trans ju.o.2.1,(Di (ij.o hb qb)).trans ju.o.2.2.1,(Di (ij.o hb qb)).trans ju.o.2.2.2⟩) (λ_=>?_);clear hK K ye yd yb xz xy xx xw xv xu xr zcf eV
    try simp only[gX]
    refine Lt.sp (i:=16) (λK hK=>?_);go_simp;refine hK.out _ _ (λ_=>⟨(ij.o P qb).trans ju.o.1,(ij.o w.heap.size qb).trans ju.o.2.1,(Di (ij.o hb qb)).trans ju.o.2.2.1,(Di (ij.o hb qb)).trans ju.o.2.2.2⟩) (λ_=>?_);clear hK K
    try simp only[gX]
    refine Lt.done qi ?_ _;go_wp2_with fail;obtain⟨y0,y1,y2,y3,y4,y5,y6,y7,y8,y9⟩:=Dz HV.o;refine bR (v:=Y #[G #[I c,S t,J ca cn cc,I n,J (p_ g8) T.length p8,J a8 R.length q8,nS,nS,S At,S Bt],nS]) qco rfl ⟨jz.o,_,_,rfl,HFI.o V _ _ (λb cur q=>?_) ew.o⟩;exact qjy
  ·have hkm:k=m:=qb
   obtain⟨s',es⟩:=Aj s0;obtain⟨r',er⟩:=Aj r0;obtain⟨dc,edc⟩:=Aj c0;obtain⟨dt,edt⟩:=Aj t0;subst es er edc edt;have HNU:=Ad (ig.o _ (by rw[List.drop_of_length_le qas];exact .nil));have mo:=yv.o;obtain⟨nk,wu,et⟩:=Ax mo.tx;(obtain⟨J0,I9,eq_⟩:∃a c,r0.qv=J a s0.R.length c:=by obtain⟨zs,cv,lv,qr⟩:=mo.qs;exact Ax qr.row);obtain⟨na',N9,en⟩:=Ax mo.ran;obtain⟨ea',ec',ee⟩:=Ax mo.held;(obtain⟨ua',uc',eu⟩:∃a c,r0.uv=J a s0.R.length c:=by obtain⟨xs,uo⟩:=mo.us;exact Ax uo);obtain⟨tn',etn⟩:=Aj s0.T.length;obtain⟨qn',eqn⟩:=Aj s0.R.length;obtain⟨nn',enn⟩:=Aj s0.ran.length;obtain⟨en',een⟩:=Aj s0.held.length;rw[etn]at et;rw[eqn]at eq_ eu;rw[enn]at en;rw[een]at ee;have R9:=Ad (show r0.tx=J nk tn' wu/\r0.qv=J J0 qn' I9/\r0.nv=J na' nn' N9/\r0.ev=J ea' en' ec'/\r0.uv=J ua' qn' uc' from ⟨et,eq_,en,ee,eu⟩);have HBS:=Ad mo;have iy:¬ (k:Int)<(m:Int):=qb;have HZ5:=o8;clear o8 yv ig ki jp oh om mo et eq_ en ee eu etn eqn enn een
   go_upto_region 13 with fail
   obtain⟨U,eU⟩:=Aj wr.drew;have bn:Bw wr U:=qbu;have N3:=Ad (HBS.o.bl bn);have mu:=Ad (Ab bn HZ5.o);have fj:=Ad (bt lq.o bn);have di:=N3.o.sh;rw[R9.o.1,R9.o.2.1]at di;have ft:Hd (U.heap[P]?=M (O #[I c0,S t0,nS] 121 (0,0))/\U.heap[hb]?=M (O (bdO g r0 pm vm) 119 (0,0))/\U.heap[g]?=M (O #[I n,J nk tn' wu,J J0 qn' I9,r0.su] 124 (0,0))):=⟨Ab bn Z4.o,N3.o.bd,di⟩;refine Lt.begin 99 (λw'=>w'.heap[P]?=M (O #[I c0,S t0,nS] 121 (0,0))/\w'.heap[hb]?=M (O (bdO g r0 pm vm) 119 (0,0))/\w'.heap[g]?=M (O #[I n,J nk tn' wu,J J0 qn' I9,r0.su] 124 (0,0))) qi ?_;rw[eU];clear eU bn di HBS HZ5 lq Z4;change K 0 _
   iterate 16
    refine Lt.ti (v:=?_) ft.o ?_ ?_;rotate_left 1
    ·rintro w ⟨s1,s2,s3⟩
     obtain⟨l0,l1,l2,-⟩:=Dx s1;have b0:=cK s2 0;(have b1:w.cell? ⟨hb,1,N⟩=M (J na' nn' N9):=by rw[cH s2,←R9.o.2.2.1];rfl);(have b2:w.cell? ⟨hb,2,N⟩=M (J ea' en' ec'):=by rw[cH s2,←R9.o.2.2.2.1];rfl);(have b3:w.cell? ⟨hb,3,N⟩=M (J ua' qn' uc'):=by rw[cH s2,←R9.o.2.2.2.2];rfl);obtain⟨g0,g1,g2,g3,-⟩:=Kh s3;exact qam
    simp only[gX]
   obtain⟨ye,yd,yb,xz,xy,xx,xw,xv,xu,xr⟩:=Dz mu.o;have zcf:=fZ mu.o;obtain⟨l,el⟩:∃l:L (X×X×Z),l=[((w.heap.size+1+1),0,I c0),((w.heap.size+1+1),1,S t0),((w.heap.size+1+1),2,nS),((w.heap.size+1+1),3,I n),((w.heap.size+1+1),4,(J nk tn' wu)),((w.heap.size+1+1),5,(J J0 qn' I9)),((w.heap.size+1+1),6,(J na' nn' N9)),((w.heap.size+1+1),7,(J ea' en' ec')),((w.heap.size+1+1),8,ze),((w.heap.size+1+1),9,ze)]:=⟨_,rfl⟩;have bi:∀x∈l,x.1=(w.heap.size+1+1):=qy;have be:=Cl l U _ bi mu.o;have hT:=Cf N3.o.tx bi mu.o qd;have hRc:=N3.o.qs.setU bi mu.o;have hA:=Cf N3.o.ran bi mu.o qd;have hE:=Cf N3.o.held bi mu.o qd;have hN:=λ(b:X) (h:b≠(w.heap.size+1+1))=>Es (b:=b) l U (λx hx q=>h qbz);have cr:Bw w (Be U l):=Az l U fj.o (λx hx=>qz);obtain⟨V,eV⟩:=Aj (Be U l);rw[eV]at be cr hT hRc hA hE;simp only[eV]at hN;rw[el]at be eV;simp only[Be,List.foldl]at eV;simp only[List.foldl,List.setIfInBounds_toArray,List.set_cons_zero,List.set_cons_succ]at be;have HV:=Ad be;have jz:=Ad cr;have H_hT:=Ad hT;have H_hRc:=Ad hRc;have H_hA:=Ad hA;have H_hE:=Ad hE;have ij:=Ad hN;clear be cr el bi hT hRc hA hE hN;refine Lt.sp (i:=16) (λK hK=>?_);go_simp
   try rw[eV]
   refine hK.out _ _ (λ_=>⟨(ij.o P qb).trans ft.o.1,(ij.o hb qb).trans ft.o.2.1,(ij.o g qb).trans ft.o.2.2⟩) (λ_=>?_);clear hK K ye yd yb xz xy xx xw xv xu xr zcf eV
   try simp only[gX]
   refine Lt.sp (i:=17) (λK hK=>?_);go_simp;refine hK.out _ _ (λ_=>⟨(ij.o P qb).trans ft.o.1,(ij.o hb qb).trans ft.o.2.1,(ij.o g qb).trans ft.o.2.2⟩) (λ_=>?_);clear hK K
   try simp only[gX]
   refine Lt.done qi ?_ _;go_wp2_with fail;obtain⟨y0,y1,y2,y3,y4,y5,y6,y7,y8,y9⟩:=Dz HV.o;refine bR (v:=Y #[G #[I c0,S t0,nS,I n,(J nk tn' wu),(J J0 qn' I9),(J na' nn' N9),(J ea' en' ec'),ze,ze],J ua' qn' uc']) qco rfl ⟨jz.o,_,⟨_,rfl⟩,?_⟩;have iw:=N3.o.ap;have hrc:=H_hRc.o;have J4:=H_hT.o;have hra:=H_hA.o;have hhe:=H_hE.o;rw[R9.o.1]at iw J4;rw[R9.o.2.1]at hrc;rw[R9.o.2.2.1]at iw hra;rw[R9.o.2.2.2.1]at iw hhe;obtain⟨zs,kv,lv,qr⟩:=hrc;exact⟨⟨c0,t0,[],n,s0.T,s0.R,s0.ran,s0.held,⟨#[]⟩,⟨#[]⟩⟩,nS,_,_,_,_,zs,kv,lv,Or.inr ⟨Z2.o,_,HNU.o,Or.inl ⟨s0,c0,t0,rfl,rfl⟩⟩,rfl,Fq _ _,J4,qr,hra,hhe,List.Pairwise.cons (λu _=>noB) (List.Pairwise.sublist (List.Sublist.cons_cons _ (List.Sublist.cons _ (List.Sublist.refl _))) iw)⟩
end Go.Proofs.YtoakjccojifagaaGreatDoor
