import Derived.Test.YtnflkpmmfpfhlaaGreatDoorBaA
namespace Go.Proofs.YtnflkpmmfpfhlaaGreatDoor
open _root_.Go.Proofs.Tryz Go.RowKit Go.Deep
open Value renaming slice->J,string->S,agg->G,pointer->D,tuple->Y
open Option renaming some->M,none->N
open Obj renaming cells->O
open Go renaming Value->Z,World->E
open _root_ renaming List->L,Nat->X
set_option linter.unusedVariables false
set_option linter.unusedSimpArgs false
set_option maxHeartbeats 8000000
set_option maxRecDepth 100000
def UsR(B n:X)(ss:L S2)(ts:L T2)(T:L By)(R:L T3)(xs:L By)(d:BD)(u:Z)(w':E):Prop:=
 ∃s c t ys,Ew ss ts n ⟨T,R,[],[],[]⟩ 0 ⟨#[]⟩ xs (.ok s c t)∧s.R.length=d.R.length∧w'.ownsRow B 4 1 u d.R.length ((ys:L Bool).map .bool)∧∀j:X,ys[j]?=M true <-> j∈s.us
def PostL(B n:X)(ss:L S2)(ts:L T2)(T:L By)(R:L T3)(xs:L By)(v u:Z)(w':E):Prop:=
 ∃d cv tx qv nv ev zs kv lv,Jn (n:Int) ss ts T R xs d∧BO w' B d v cv tx qv nv ev zs kv lv∧(d.c≤5→UsR B n ss ts T R xs d u w')
def FinL(B n:X)(ss:L S2)(ts:L T2)(T:L By)(R:L T3)(xs:L By)(c:Int)(t:By)(cv:Z)(At Bt:By)(w6:E):Prop:=
 ∀(V:E)(tx qv u:Z),(∀(b:X)(cur:Array Z),w6.heap[b]?=M (O cur 9 (0,0))->V.heap[b]?=w6.heap[b]?)->Dz V w6.heap.size tx qv T R->PostL B n ss ts T R xs (G #[I c,S t,cv,I n,tx,qv,nS,nS,S At,S Bt]) u V
section
variable {B n:X} {ss:L S2} {ts:L T2} {T:L By} {R:L T3} {xs:L By} {w6:E}
theorem FinL.no(h0:Jc n T R∧Fx ss ts=0∧xs.length≤200)(hA:Ew ss ts n ⟨T,R,[],[],[]⟩ 0 ⟨#[]⟩ xs .no)(hB:B<=w6.heap.size):FinL B n ss ts T R xs 9 ⟨#[]⟩ nS ⟨#[]⟩ ⟨#[]⟩ w6:=λV tx qv u _ hs=>by
 have hs:=hs.base hB;obtain⟨zs,kv,lv,r⟩:=hs.rcs;exact⟨⟨9,⟨#[]⟩,[],n,T,R,[],[],⟨#[]⟩,⟨#[]⟩⟩,nS,tx,qv,nS,nS,zs,kv,lv,Or.inr ⟨h0,_,hA,Or.inr (Or.inr ⟨rfl,rfl⟩)⟩,⟨rfl,Ff _ _,hs.txt,r,Ff _ _,Ff _ _,apt4 noB noB noB noC noC noC⟩,λh=>absurd h (show ¬ (9:Int)≤5 from qh)⟩
theorem FinL.fall{C:Fr}{b:Gi}{c:Int}{t:By}{ca:Option Addr}{cn cc:X}(h0:Jc n T R∧Fx ss ts=0∧xs.length≤200)(hA:Ew ss ts n ⟨T,R,[],[],[]⟩ 0 ⟨#[]⟩ xs (.bad b))(hB:B<=w6.heap.size)(hf:Dj B C w6 b (G #[I c,S t,J ca cn cc])):5<c/\FinL B n ss ts T R xs c t (J ca cn cc) (clA b) (clB b) w6:=by
 have key:∀(cv:Z)(V:E)(tx qv u:Z),V.ownsRow B 9 1 cv (chF b).length (Ar (chF b))→(∀x,cv.ownBlock=M x→tx.ownBlock≠M x)→Dz V w6.heap.size tx qv T R→PostL B n ss ts T R xs (G #[I (Hx b),S (txF b),cv,I n,tx,qv,nS,nS,S (clA b),S (clB b)]) u V:=λcv V tx qv u ho Is hs=>by
  have hs:=hs.base hB;obtain⟨zs,kv,lv,r⟩:=hs.rcs;exact⟨⟨Hx b,txF b,chF b,n,T,R,[],[],clA b,clB b⟩,cv,tx,qv,nS,nS,zs,kv,lv,Or.inr ⟨h0,_,hA,Or.inr (Or.inl ⟨b,rfl,rfl⟩)⟩,⟨rfl,ho,hs.txt,r,Ff _ _,Ff _ _,apt4 Is noC noC noC noC noC⟩,λh=>absurd (Qy b) (by have h:Hx b≤5:=h;omega)⟩
 obtain⟨_,_,h3⟩:=hf
 cases b with
 | circle ch=>
   obtain⟨ca',cn',cc',e,ho⟩:=h3;simp only[Value.agg.injEq,Array.mk.injEq,List.cons.injEq,Value.int.injEq,Value.string.injEq,Value.slice.injEq,true_and,and_true]at e;obtain⟨rfl,rfl,rfl,rfl,rfl⟩:=e;refine⟨qh,λV tx qv u hk hs=>key _ V tx qv u (An ho (λb' q=>by obtain⟨_,cur,hh⟩:=Dh ho q;exact hk b' cur hh)) (λb' e1 e2=>?_) hs⟩;have h1:=(ho.lt b' e1).2;have h2:=(hs.txt.lt b' e2).1;omega
 | deep nm'=>
   exact qfh
 | clash A B'=>
   exact qfh
 | full=>
   exact qfh
end
theorem BS.rstO{B h mb sb hb hs n:X}{sv tv:Z}{ss:L S2}{ts:L T2}{w:E}{ms:Mm}{st:L By}{av kv:Z}{vs:By->Z}{s:Sb}{r:Rv}(q:Lu B h mb ⟨hb,hs,sb,n⟩ sv tv ss ts w ms st av kv vs s r):Xw B hb hs n w s r (D (p_ h)) (.map (M sb)):=
 ⟨⟨q.rs.lb.1,q.rs.lb.2.1⟩,q.rs.wd,q.rs.bd,q.rs.sh,q.rs.tx,q.rs.su,q.rs.qs,q.rs.ran,q.rs.held,q.rs.us,List.Pairwise.sublist (List.Sublist.cons _ (List.Sublist.cons _ (List.Sublist.refl _))) q.rs.ap⟩
theorem Xw.bl{B hb hs n:X}{w w':E}{s:Sb}{r:Rv}{pm vm:Z}(k:Xw B hb hs n w s r pm vm)(hk:Bw w w'):Xw B hb hs n w' s r pm vm:=by
 obtain⟨xs,u,u9⟩:=k.us;exact⟨k.lb,k.wd,Ac hk k.bd,Ac hk k.sh,Ad k.tx hk,Ad k.su hk,k.qs.bl hk,Ad k.ran hk,Ad k.held hk,⟨xs,Ad u hk,u9⟩,k.ap⟩
theorem Mh{xs:L By}{k:X}(h:k<xs.length):xs.drop k=nx xs k::xs.drop (k+1):=by
 rw[List.drop_eq_getElem_cons h];simp[nx,gG,h]
theorem allA_yes(n:X)(tb tf tc nc:X)(na:Option Addr)(xs:L By)(qa sa ta:Option Addr)(qc c1 c2:X)(T:L By)(R:L T3)(ss:L S2)(ts:L T2)(w:E)(hT:Mv w)(hP10:Pg w)(cr:Nv w (M ⟨tb,tf,N⟩) T qa R)(hrz:Wi w qa R)(hr:R.length≤1048576)(jg:∀i,i<R.length→(qx R i).code.length≤1048576∧(qx R i).looks.length≤1048576)(sw:Li w sa ss ta ts)(ku:Ep ss ts)(hw:Jc n T R)(V1:Fx ss ts=0)(lq:xs.length≤200)(ue:Cu w na xs)(P7:∀i,(nx xs i).size≤9223372036854775807):Calls prog 31 #[G #[I n,J (M ⟨tb,tf,N⟩) T.length tc,J qa R.length qc],G #[J sa ss.length c1,J ta ts.length c2],J na xs.length nc] w λe w'=>Bw w w'/\∃v u,e=.returned (Y #[v,u])/\PostL w.heap.size n ss ts T R xs v u w':=by
 obtain⟨W,eW⟩:=Aj (((w.alloc (O #[I n,J (M ⟨tb,tf,N⟩) T.length tc,J qa R.length qc] 35)).alloc (O #[J sa ss.length c1,J ta ts.length c2] 42)).alloc (O z10 55));have cj:Bw w W:=qbv;have HQ:Hd (W.heap[w.heap.size]?=M (O #[I n,J (M ⟨tb,tf,N⟩) T.length tc,J qa R.length qc] 35 (0,0))):=qca
 have HP:Hd (W.heap[w.heap.size+1]?=M (O #[J sa ss.length c1,J ta ts.length c2] 42 (0,0))):=by
  exact qdg
 have HZ:Hd (W.heap[w.heap.size+1+1]?=M (O z10 55 (0,0))):=by
  exact qfc
 have I0:=Ag HZ.o;have rh:=Ab cj;have N5:=Ab (Qf n tb tf tc qa qc T R W (hT.bl cj) (cr.bl cj) (hrz.bl cj) hr jg);have vh:=Ab (λ(V:E) (hV:Bw w V)=>Ki n tb tf tc qa qc T R V (cr.st.bl hV) (hrz.bl hV) cr.lt hr jg);have J2:=Ab (λ(V:E) (hV:Bw w V)=>Pd sa ta c1 c2 ss ts V (hT.bl hV) (sw.bl hV) ku);obtain⟨q0,q1,q2,qf⟩:=Ci HQ.o;have HCH:=Ab V1;have HEN:=Ab (show Jf w sa ta ss ts/\Mv w/\Pg w from ⟨Mf sw V1,hT,hP10⟩);have HNB:=Ab ue;have HWD:=Ab (show Jc n T R∧Fx ss ts=0∧xs.length≤200 from ⟨hw,V1,lq⟩);have ve:=hw.2.2.2.1;have ke:Hd (Fy n ⟨T,R,[],[],[]⟩):=by have:=hw.2.2;show Jd n T R;simpa using this
 have L7:1<=n:=zo hw.1;have hn8:n<=8:=zo hw.2.1;clear hT cr hrz hr jg sw ku cj hP10 V1 ue;go_enter func31,ntmps31;go_wp2_with fail;clear eW;refine N5.o.mono ?_;rintro e w1 ⟨ag,⟨ip,_⟩|⟨_,g,g1,p1,sv,qv,rfl,hg,dp⟩⟩
 ·exact absurd hw ip
 have j9:=Ab (Ac ag HQ.o);have jk:=Ab (Ac ag HP.o);have sq:=Ab (Ac ag HZ.o);have d6:=Ab (bt rh.o ag);have R9:=Ab (show ShO w1 g W.heap.size w1.heap.size n sv (J (p_ g1) T.length p1) qv T R from by simpa using dp);obtain⟨x0,x1⟩:=En jk.o;have fg:=ag.size;have HC:=Ab (J2.o w1 d6.o);rw[HCH.o]at HC;clear ag hw q0 q1 q2 qf HQ HP HZ N5 J2 dp rh;go_wp2_with fail;clear x0 x1;refine HC.o.mono ?_;rintro e w2 ⟨af,rfl⟩;replace j9:=Ab (Ac af j9.o);replace jk:=Ab (Ac af jk.o);replace sq:=Ab (Ac af sq.o);replace d6:=Ab (bt d6.o af);have HSO2:=Ab (R9.o.bl af);have ir:=af.size;clear af HC R9;obtain⟨x0,x1,x2,xf⟩:=Ci j9.o;obtain⟨i0,zr,bq,bi,ci⟩:=info_parts Tryz.info4b
 go_upto_region 5 with(at_make;refine wpList_make_full _ rfl (.tmp 37) (.tmp 37) 58 rfl w2.heap.size 4 i0 (.bool false) 1 underlying58 zr bq bi .i64 .i64 _ _ R.length rfl rfl rfl rfl qaq qq (Nat.le_refl _) ?_;intro w3 fq sf)
 clear x0 x1 x2 xf;rw[Pn]at fq;have au:Bw w2 w3:=(Below.refl _ _).grown sf (Nat.le_refl _) qi;obtain⟨uv,euv⟩:=Aj (Value.slice (p_ w2.heap.size) R.length R.length);rw[euv]at fq ⊢;obtain⟨hb,ehb⟩:=Aj w3.heap.size;obtain⟨w4,e4⟩:=Aj (w3.alloc (O #[D (p_ g),nS,nS,uv,I 0,I 0,nS,nS,ze,ze,D N,.map N,nS] 133));have bp:Bw w3 w4:=qep;have HD4:=Ab (nW e4 ehb);rw[e4,ehb];have N3:=Ay au bp;have lh:w2.heap.size<=hb:=by rw[←ehb];exact au.size
 clear e4 ehb euv sf;have HU4:=Ab (Ad fq bp);have hs24:=N3.size;replace j9:=Ab (Ac N3 j9.o);replace jk:=Ab (Ac N3 jk.o);replace sq:=Ab (Ac N3 sq.o);have ox:=Ab (bt d6.o N3);have HSO4:=Ab (HSO2.o.bl N3);have hB1s:=d6.o.size;clear au bp fq N3 HSO2 d6
 go_upto_region 6 with fail
 obtain⟨P,eP⟩:=Aj w4.heap.size;obtain⟨w5,e5⟩:=Aj (w4.alloc (O #[I 0,ze,nS] 65));have co:Bw w4 w5:=qeq;have HL5:=Ab (nW e5 eP);rw[e5,eP];have hPw:w2.heap.size<=P:=by rw[←eP];exact hs24
 have hhP:hb<P:=by rw[←eP];exact Ag HD4.o
 replace j9:=Ab (Ac co j9.o);replace jk:=Ab (Ac co jk.o);replace sq:=Ab (Ac co sq.o);have ko:=Ab (bt ox.o co);have HSO5:=Ab (HSO4.o.bl co);have HD5:=Ab (Ac co HD4.o);have HU5:=Ab (Ad HU4.o co);clear e5 eP co HSO4 ox HD4 HU4
 have yz:Hd (Xw w.heap.size hb g n w5 ⟨T,R,[],[],[]⟩ ⟨J (p_ g1) T.length p1,sv,qv,nS,nS,uv,nS,0⟩ (D N) (.map N)):=by
  have hx:=HSO5.o;have hsx:=hx.sx.own;rw[List.length_map]at hsx;refine⟨⟨qg,qg⟩,⟨L7,hn8⟩,HD5.o,hx.blk,Ah hx.tx.own qg,Ah hsx qg,hx.qs.recO.base qg,World.ownsRow_nil _ _ _ _,World.ownsRow_nil _ _ _ _,⟨_,Ah HU5.o qg,λj=>by simp[List.getElem?_replicate]⟩,?_⟩;unfold Ju;refine List.Pairwise.cons (λu hu b e=>?_) (List.Pairwise.cons (λu hu b e=>?_) (List.Pairwise.cons (λu hu b e=>qbl) (List.Pairwise.cons (λu hu b e=>qbl) List.Pairwise.nil)))
  ·simp only[List.mem_cons,List.not_mem_nil,or_false]at hu
   rcases hu with rfl|rfl|rfl
   ·exact λe2=>hx.ne b e2 e
   ·simp[Value.ownBlock]
   ·simp[Value.ownBlock]
  ·simp only[List.mem_cons,List.not_mem_nil,or_false]at hu
   rcases hu with rfl|rfl<;>simp[Value.ownBlock]
 clear HSO5 HD5 HU5;obtain⟨m,em⟩:=Aj xs.length;have EM:=Ab em;rw[em];clear em;go_wp2
 go_loopw [42] (λi wr=>∃(k:X)(s:Sb)(c:Int)(t:By)(r:Rv)(pm vm:Z),k≤m/\i=I k/\Hd (∀rr,Ew ss ts n s c t (xs.drop k) rr→Ew ss ts n ⟨T,R,[],[],[]⟩ 0 ⟨#[]⟩ xs rr)/\Hd (Xw w.heap.size hb g n wr s r pm vm)/\Hd (Fy n s)/\Hd (s.ran.length+s.held.length≤200*k)/\Hd (wr.heap[P]?=M (O #[I c,S t,nS] 65 (0,0)))/\Hd (wr.heap[w.heap.size]?=M (O #[I n,J (M ⟨tb,tf,N⟩) T.length tc,J qa R.length qc] 35 (0,0)))/\Hd (wr.heap[w.heap.size+1]?=M (O #[J sa ss.length c1,J ta ts.length c2] 42 (0,0)))/\Hd (wr.heap[w.heap.size+1+1]?=M (O z10 55 (0,0)))/\Hd (Bw w wr)) (λi _=>m-(intOf i).toNat)
 case atStart=>exact⟨0,_,_,_,_,_,_,Nat.zero_le _,rfl,λrr h=>h,yz.o,ke.o,Nat.zero_le _,HL5.o,j9.o,jk.o,sq.o,ko.o⟩
 case round=>
  clear yz HL5 j9 jk sq ko ke;obtain⟨k,s0,c0,t0,r0,pm,vm,hk,rfl,gt,yz,ke,ou,HL5,j9,jk,sq,ko⟩:=hrel
  by_cases ai:k<m
  ·have M4:k<xs.length:=qah
   obtain⟨nb,nf,ena,G9⟩:=(HNB.o.bl ko.o) k M4;subst ena;obtain⟨nm,enm⟩:=Aj (nx xs k);have ENM:=Ab enm;(have cz:nm.size≤9223372036854775807:=by rw[←enm];exact P7 k);replace G9:wr.cell? ⟨nb,nf+k,N⟩=M (S (nx xs k)):=G9;rw[enm]at G9;clear enm;have kh:=Ab (buildB_any w hb g n sa ta c1 c2 ss ts nm _ _ _ _ wr HEN.o.1 HEN.o.2.1 HEN.o.2.2 cz yz.o ke.o (zo ou.o) ko.o);obtain⟨x0,x1⟩:=En jk.o;have fs:(k:Int)<(m:Int):=qg;go_wp2_with fail;clear x0 x1 G9;refine kh.o.mono ?_;have pe:=Ag HL5.o;rintro e w6 (⟨ip,rfl,bj⟩|⟨zj,bj,it,h,mb,sb,ms',s',an,bv,⟨⟨dc,dt,dls⟩,av',kv',vs',r',rfl,rfl,xu⟩|⟨b,c,t,ca,cn,cc,rfl,rfl,M5⟩⟩)
   ·have je:=Ab (gt.o .no (by rw[Mh M4,ENM.o];exact .no ip))
    have O1:=Ab (Ac bj HL5.o);have S1:=Ab (Ac bj j9.o);have R6:=Ab (Ac bj sq.o);have ni:=Ab (bt ko.o bj)
    have HC6:Hd (w6.cell? ⟨hb,8,N⟩=M ze/\w6.cell? ⟨hb,9,N⟩=M ze):=by
     have hd:=Ac bj yz.o.bd;exact⟨by rw[cH hd];rfl,by rw[cH hd];rfl⟩
    have xu:=bj.size;have HFI:=Ab (FinL.no (B:=w.heap.size) HWD.o je.o (show w.heap.size<=w6.heap.size from qg));clear bj yz kh HL5 j9 sq ko gt jk je ke ou;obtain⟨z0,z1,z2,zf⟩:=Ci O1.o
    go_upto_region 11 with fail
    clear z0 z1 z2 zf;obtain⟨w7,e7⟩:=Aj (((w6.setCell ⟨P,0,N⟩ (I 9)).setCell ⟨P,1,N⟩ ze).setCell ⟨P,2,N⟩ nS);(have T7:∀b,b≠P->w7.heap[b]?=w6.heap[b]?:=λb q=>by rw[←e7];exact Ea q _ _ _);(have O0:Hd (w7.heap[P]?=M (O #[I 9,ze,nS] 65 (0,0))):=by show _=_;rw[←e7];exact Ba O1.o _ _ _);(have xj:Bw w w7:=by rw[←e7];exact Co ni.o qg _ _ _);(have hs67:w7.heap.size=w6.heap.size:=by rw[←e7];simp);rw[e7];clear e7;obtain⟨U,eU⟩:=Aj w7.drew;have be:Bw w7 U:=qan;have HZU:Hd (U.heap[(w.heap.size+1+1)]?=M (O z10 55 (0,0))):=Ac be ((T7 _ qg).trans R6.o);have fm:Hd (U.heap[P]?=M (O #[I 9,ze,nS] 65 (0,0))/\U.heap[w.heap.size]?=M (O #[I n,J (M ⟨tb,tf,N⟩) T.length tc,J qa R.length qc] 35 (0,0))/\U.cell? ⟨hb,8,N⟩=M ze/\U.cell? ⟨hb,9,N⟩=M ze):=⟨Ac be O0.o,Ac be ((T7 _ qg).trans S1.o),Aa be ((Ce (T7 hb qg)).trans HC6.o.1),Aa be ((Ce (T7 hb qg)).trans HC6.o.2)⟩;have O5:=Ab (bt xj be);(have kl:Hd (∀(b:X)(cur:Array Z),w6.heap[b]?=M (O cur 9 (0,0))->U.heap[b]?=w6.heap[b]?):=λb cur q=>by rw[be.block b (zo (Ag q)),T7 b (λq2=>by rw[q2,O1.o]at q;injection q with q;injection q with _ q;exact absurd q qh)]);have hU6:w6.heap.size<=U.heap.size:=zo be.size;clear hs67 be T7 O0 xj O1 S1 R6 HC6;refine Lt.begin 99 (λw'=>w'.heap[P]?=M (O #[I 9,ze,nS] 65 (0,0))/\w'.heap[w.heap.size]?=M (O #[I n,J (M ⟨tb,tf,N⟩) T.length tc,J qa R.length qc] 35 (0,0))/\w'.cell? ⟨hb,8,N⟩=M ze/\w'.cell? ⟨hb,9,N⟩=M ze) qk ?_;rw[eU];clear eU;change K 0 _
    iterate 7
     refine Lt.ti (v:=?_) fm.o ?_ ?_;rotate_left 1
     ·exact qbq
     simp only[gX]
    change K 8 _
    iterate 6
     refine Lt.ti (v:=?_) fm.o ?_ ?_;rotate_left 1
     ·exact qbq
     simp only[gX]
    refine Lt.sp (i:=7) (λK hK=>?_);go_simp;refine(vh.o U O5.o).mono ?_;rintro e w8 ⟨mn,g8,p8,v8,rfl,o1,o2⟩;obtain⟨a8,q8,rfl,_⟩:=o2.sl;have jq:Hd (w8.heap[P]?=M (O #[I 9,ze,nS] 65 (0,0))/\w8.heap[w.heap.size]?=M (O #[I n,J (M ⟨tb,tf,N⟩) T.length tc,J qa R.length qc] 35 (0,0))/\w8.cell? ⟨hb,8,N⟩=M ze/\w8.cell? ⟨hb,9,N⟩=M ze):=⟨Ac mn fm.o.1,Ac mn fm.o.2.1,Aa mn fm.o.2.2.1,Aa mn fm.o.2.2.2⟩;have oa:=Ab (Ac mn HZU.o);have B6:=Ab (bt O5.o mn);(have wn:Hd (∀(b:X)(cur:Array Z),w6.heap[b]?=M (O cur 9 (0,0))->w8.heap[b]?=w6.heap[b]?):=λb cur q=>by rw[mn.block b (zo (Ag q)),kl.o b cur q]);have gk:=Ab (show Dz w8 w6.heap.size (J (p_ g8) T.length p8) (J a8 R.length q8) T R from ⟨Ah o1.own hU6,⟨g8,p8,rfl⟩,o2.recO.base hU6⟩);refine hK.out _ _ (λ_=>jq.o) (λ_=>?_);clear hK K mn o1 o2 fm HZU O5 kl
    try simp only[gX]
    refine Lt.ti (i:=14) (v:=?_) jq.o ?_ ?_;rotate_left 1
    ·exact qbq
    simp only[gX];obtain⟨K7,K6,K5,K4,J9,J8,J7,J6,J5,J4⟩:=Et oa.o;have zcf:=fZ oa.o;obtain⟨l,el⟩:∃l:L (X×X×Z),l=[((w.heap.size+1+1),0,I 9),((w.heap.size+1+1),1,ze),((w.heap.size+1+1),2,nS),((w.heap.size+1+1),3,I n),((w.heap.size+1+1),4,J (p_ g8) T.length p8),((w.heap.size+1+1),5,J a8 R.length q8),((w.heap.size+1+1),6,nS),((w.heap.size+1+1),7,nS),((w.heap.size+1+1),8,ze),((w.heap.size+1+1),9,ze)]:=⟨_,rfl⟩;have bu:∀x∈l,x.1=(w.heap.size+1+1):=Xg;have bn:=De l w8 _ bu oa.o;have hS:=gk.o.setU bu oa.o;have hN:=λ(b:X) (h:b≠(w.heap.size+1+1))=>Fb (b:=b) l w8 (λx hx q=>h qce);have fa:Bw w (Bo w8 l):=Bg l w8 B6.o (λx hx=>qac);obtain⟨V,eV⟩:=Aj (Bo w8 l);rw[eV]at bn fa hS;simp only[eV]at hN;rw[el]at bn eV;simp only[Bo,List.foldl]at eV;simp only[List.foldl,List.setIfInBounds_toArray,List.set_cons_zero,List.set_cons_succ]at bn;have HV:=Ab bn;have gj:=Ab fa;have im:=Ab hS;have io:=Ab hN;clear bn fa el bu hS hN;refine Lt.sp (i:=15) (λK hK=>?_);go_simp
    try rw[eV]
    refine hK.out _ _ (λ_=>⟨(io.o P qg).trans jq.o.1,(io.o w.heap.size qg).trans jq.o.2.1,(Ce (io.o hb qg)).trans jq.o.2.2.1,(Ce (io.o hb qg)).trans jq.o.2.2.2⟩) (λ_=>?_);clear hK K K7 K6 K5 K4 J9 J8 J7 J6 J5 J4 zcf eV
    try simp only[gX]
    refine Lt.sp (i:=16) (λK hK=>?_);go_simp;refine hK.out _ _ (λ_=>⟨(io.o P qg).trans jq.o.1,(io.o w.heap.size qg).trans jq.o.2.1,(Ce (io.o hb qg)).trans jq.o.2.2.1,(Ce (io.o hb qg)).trans jq.o.2.2.2⟩) (λ_=>?_);clear hK K
    try simp only[gX]
    refine Lt.done qk ?_ _;go_wp2_with fail;obtain⟨y0,y1,y2,y3,y4,y5,y6,y7,y8,y9⟩:=Et HV.o;refine bR (v:=Y #[G #[I 9,ze,nS,I n,J (p_ g8) T.length p8,J a8 R.length q8,nS,nS,ze,ze],nS]) qcr rfl ⟨gj.o,_,_,rfl,HFI.o V _ _ _ (λb cur q=>?_) im.o⟩;exact qkl
   ·have O1:Hd (w6.heap[P]?=_):=it _ _ _ qh HL5.o
    have S1:Hd (w6.heap[w.heap.size]?=_):=it _ _ _ qh j9.o;have R6:Hd (w6.heap[w.heap.size+1+1]?=_):=it _ _ _ qh sq.o;have ni:=Ab (ko.o.trans bj);obtain⟨hok6,hct6,Q6⟩:=bv.one HEN.o.1.v HEN.o.1.l2 ke.o zj;have HCO6:Hd (∀rr,Ew ss ts n s' dc dt (xs.drop (k+1)) rr→Ew ss ts n ⟨T,R,[],[],[]⟩ 0 ⟨#[]⟩ xs rr):=λrr h=>gt.o rr (by rw[Mh M4,ENM.o];exact .go zj bv h);have HOK6:=Ab hok6;(have HCT6:Hd (s'.ran.length+s'.held.length≤200*(k+1)):=by have:=ou.o;show _≤_;omega);have HP6:Hd (w6.heap[w.heap.size+1]?=_):=it _ _ _ qh jk.o;have fl:=Ab xu;have hdI:(dc > 5)=False:=qj;obtain⟨z0,z1,z2,zf⟩:=Ci O1.o;clear bj it bv zj xu yz kh HL5 j9 sq ko gt jk ke ou hok6 hct6;go_wp2_with fail;refine⟨⟨k+1,s',dc,dt,r',_,_,qg,qm,HCO6.o,(fl.o.set3 O1.o qh _ _ _).rstO,HOK6.o,HCT6.o,Ba O1.o _ _ _,(Ea qg _ _ _).trans S1.o,(Ea qg _ _ _).trans HP6.o,(Ea qg _ _ _).trans R6.o,Co ni.o qg _ _ _⟩,qap⟩
   ·have O1:Hd (w6.heap[P]?=_):=it _ _ _ qh HL5.o
    have S1:Hd (w6.heap[w.heap.size]?=_):=it _ _ _ qh j9.o;have R6:Hd (w6.heap[w.heap.size+1+1]?=_):=it _ _ _ qh sq.o;have ni:=Ab (ko.o.trans bj);have xu:=bj.size;obtain⟨At,eAt⟩:=Aj (clA b);obtain⟨Bt,eBt⟩:=Aj (clB b);(have HC6:Hd (w6.cell? ⟨hb,8,N⟩=M (S At)/\w6.cell? ⟨hb,9,N⟩=M (S Bt)):=by rw[←eAt,←eBt];exact⟨M5.1,M5.2.1⟩);obtain⟨hc5,V0⟩:=FinL.fall (B:=w.heap.size) HWD.o (gt.o (.bad b) (by rw[Mh M4,ENM.o];exact .bad zj bv)) (show w.heap.size<=w6.heap.size from qg) M5;rw[eAt,eBt]at V0;have HFI:=Ab V0;clear bj it bv zj M5 V0 eAt eBt yz kh HL5 j9 sq ko gt jk ke ou;obtain⟨z0,z1,z2,zf⟩:=Ci O1.o
    go_upto_region 11 with fail
    clear z0 z1 z2 zf;obtain⟨w7,e7⟩:=Aj (((w6.setCell ⟨P,0,N⟩ (I c)).setCell ⟨P,1,N⟩ (S t)).setCell ⟨P,2,N⟩ (J ca cn cc));(have T7:∀b,b≠P->w7.heap[b]?=w6.heap[b]?:=λb q=>by rw[←e7];exact Ea q _ _ _);(have O0:Hd (w7.heap[P]?=M (O #[I c,S t,J ca cn cc] 65 (0,0))):=by show _=_;rw[←e7];exact Ba O1.o _ _ _);(have xj:Bw w w7:=by rw[←e7];exact Co ni.o qg _ _ _);(have hs67:w7.heap.size=w6.heap.size:=by rw[←e7];simp);rw[e7];clear e7;obtain⟨U,eU⟩:=Aj w7.drew;have be:Bw w7 U:=qan;have HZU:Hd (U.heap[(w.heap.size+1+1)]?=M (O z10 55 (0,0))):=Ac be ((T7 _ qg).trans R6.o);have fm:Hd (U.heap[P]?=M (O #[I (c),S t,J ca cn cc] 65 (0,0))/\U.heap[w.heap.size]?=M (O #[I n,J (M ⟨tb,tf,N⟩) T.length tc,J qa R.length qc] 35 (0,0))/\U.cell? ⟨hb,8,N⟩=M (S At)/\U.cell? ⟨hb,9,N⟩=M (S Bt)):=⟨Ac be O0.o,Ac be ((T7 _ qg).trans S1.o),Aa be ((Ce (T7 hb qg)).trans HC6.o.1),Aa be ((Ce (T7 hb qg)).trans HC6.o.2)⟩;have O5:=Ab (bt xj be);(have kl:Hd (∀(b:X)(cur:Array Z),w6.heap[b]?=M (O cur 9 (0,0))->U.heap[b]?=w6.heap[b]?):=λb cur q=>by rw[be.block b (zo (Ag q)),T7 b (λq2=>by rw[q2,O1.o]at q;injection q with q;injection q with _ q;exact absurd q qh)]);have hU6:w6.heap.size<=U.heap.size:=zo be.size;clear hs67 be T7 O0 xj O1 S1 R6 HC6;refine Lt.begin 99 (λw'=>w'.heap[P]?=M (O #[I (c),S t,J ca cn cc] 65 (0,0))/\w'.heap[w.heap.size]?=M (O #[I n,J (M ⟨tb,tf,N⟩) T.length tc,J qa R.length qc] 35 (0,0))/\w'.cell? ⟨hb,8,N⟩=M (S At)/\w'.cell? ⟨hb,9,N⟩=M (S Bt)) qk ?_;rw[eU];clear eU;change K 0 _
    iterate 7
     refine Lt.ti (v:=?_) fm.o ?_ ?_;rotate_left 1
     ·exact qbq
     simp only[gX]
    change K 8 _
    iterate 6
     refine Lt.ti (v:=?_) fm.o ?_ ?_;rotate_left 1
     ·exact qbq
     simp only[gX]
    refine Lt.sp (i:=7) (λK hK=>?_);go_simp;refine(vh.o U O5.o).mono ?_;rintro e w8 ⟨mn,g8,p8,v8,rfl,o1,o2⟩;obtain⟨a8,q8,rfl,_⟩:=o2.sl;have jq:Hd (w8.heap[P]?=M (O #[I (c),S t,J ca cn cc] 65 (0,0))/\w8.heap[w.heap.size]?=M (O #[I n,J (M ⟨tb,tf,N⟩) T.length tc,J qa R.length qc] 35 (0,0))/\w8.cell? ⟨hb,8,N⟩=M (S At)/\w8.cell? ⟨hb,9,N⟩=M (S Bt)):=⟨Ac mn fm.o.1,Ac mn fm.o.2.1,Aa mn fm.o.2.2.1,Aa mn fm.o.2.2.2⟩;have oa:=Ab (Ac mn HZU.o);have B6:=Ab (bt O5.o mn);(have wn:Hd (∀(b:X)(cur:Array Z),w6.heap[b]?=M (O cur 9 (0,0))->w8.heap[b]?=w6.heap[b]?):=λb cur q=>by rw[mn.block b (zo (Ag q)),kl.o b cur q]);have gk:=Ab (show Dz w8 w6.heap.size (J (p_ g8) T.length p8) (J a8 R.length q8) T R from ⟨Ah o1.own hU6,⟨g8,p8,rfl⟩,o2.recO.base hU6⟩);refine hK.out _ _ (λ_=>jq.o) (λ_=>?_);clear hK K mn o1 o2 fm HZU O5 kl
    try simp only[gX]
    refine Lt.ti (i:=14) (v:=?_) jq.o ?_ ?_;rotate_left 1
    ·exact qbq
    simp only[gX];obtain⟨K7,K6,K5,K4,J9,J8,J7,J6,J5,J4⟩:=Et oa.o;have zcf:=fZ oa.o;obtain⟨l,el⟩:∃l:L (X×X×Z),l=[((w.heap.size+1+1),0,I c),((w.heap.size+1+1),1,S t),((w.heap.size+1+1),2,J ca cn cc),((w.heap.size+1+1),3,I n),((w.heap.size+1+1),4,J (p_ g8) T.length p8),((w.heap.size+1+1),5,J a8 R.length q8),((w.heap.size+1+1),6,nS),((w.heap.size+1+1),7,nS),((w.heap.size+1+1),8,S At),((w.heap.size+1+1),9,S Bt)]:=⟨_,rfl⟩;have bu:∀x∈l,x.1=(w.heap.size+1+1):=Xg;have bn:=De l w8 _ bu oa.o;have hS:=gk.o.setU bu oa.o;have hN:=λ(b:X) (h:b≠(w.heap.size+1+1))=>Fb (b:=b) l w8 (λx hx q=>h qce);have fa:Bw w (Bo w8 l):=Bg l w8 B6.o (λx hx=>qac);obtain⟨V,eV⟩:=Aj (Bo w8 l);rw[eV]at bn fa hS;simp only[eV]at hN;rw[el]at bn eV;simp only[Bo,List.foldl]at eV;simp only[List.foldl,List.setIfInBounds_toArray,List.set_cons_zero,List.set_cons_succ]at bn;have HV:=Ab bn;have gj:=Ab fa;have im:=Ab hS;have io:=Ab hN;clear bn fa el bu hS hN;refine Lt.sp (i:=15) (λK hK=>?_);go_simp
    try rw[eV]
    refine hK.out _ _ (λ_=>⟨(io.o P qg).trans jq.o.1,(io.o w.heap.size qg).trans jq.o.2.1,(Ce (io.o hb qg)).trans jq.o.2.2.1,(Ce (io.o hb qg)).trans jq.o.2.2.2⟩) (λ_=>?_);clear hK K K7 K6 K5 K4 J9 J8 J7 J6 J5 J4 zcf eV
    try simp only[gX]
    refine Lt.sp (i:=16) (λK hK=>?_);go_simp;refine hK.out _ _ (λ_=>⟨(io.o P qg).trans jq.o.1,(io.o w.heap.size qg).trans jq.o.2.1,(Ce (io.o hb qg)).trans jq.o.2.2.1,(Ce (io.o hb qg)).trans jq.o.2.2.2⟩) (λ_=>?_);clear hK K
    try simp only[gX]
    refine Lt.done qk ?_ _;go_wp2_with fail;obtain⟨y0,y1,y2,y3,y4,y5,y6,y7,y8,y9⟩:=Et HV.o;refine bR (v:=Y #[G #[I c,S t,J ca cn cc,I n,J (p_ g8) T.length p8,J a8 R.length q8,nS,nS,S At,S Bt],nS]) qcr rfl ⟨gj.o,_,_,rfl,HFI.o V _ _ _ (λb cur q=>?_) im.o⟩;exact qkl
  ·have hkm:k=m:=qg
   obtain⟨s',es⟩:=Aj s0;obtain⟨r',er⟩:=Aj r0;obtain⟨dc,edc⟩:=Aj c0;obtain⟨dt,edt⟩:=Aj t0;subst es er edc edt;have HNU:=Ab (gt.o _ (by rw[List.drop_of_length_le qaw];exact .nil));have mr:=yz.o;obtain⟨ur,P1,et⟩:=Al mr.tx;(obtain⟨vi,rj,eq_⟩:∃a c,r0.qv=J a s0.R.length c:=by obtain⟨zs,cv,lv,qr⟩:=mr.qs;exact Al qr.row);obtain⟨na',nc',en⟩:=Al mr.ran;obtain⟨ea',ec',ee⟩:=Al mr.held;(obtain⟨ua',uc',eu⟩:∃a c,r0.uv=J a s0.R.length c:=by obtain⟨xs,uo,u9⟩:=mr.us;exact Al uo);obtain⟨tn',etn⟩:=Aj s0.T.length;obtain⟨qn',eqn⟩:=Aj s0.R.length;obtain⟨nn',enn⟩:=Aj s0.ran.length;obtain⟨en',een⟩:=Aj s0.held.length;rw[etn]at et;rw[eqn]at eq_ eu;rw[enn]at en;rw[een]at ee;have O3:=Ab (show r0.tx=J ur tn' P1/\r0.qv=J vi qn' rj/\r0.nv=J na' nn' nc'/\r0.ev=J ea' en' ec'/\r0.uv=J ua' qn' uc' from ⟨et,eq_,en,ee,eu⟩);have HBS:=Ab mr;have fs:¬ (k:Int)<(m:Int):=qg;have HZ5:=sq;clear sq yz gt j9 jk ke ou mr et eq_ en ee eu etn eqn enn een
   go_upto_region 13 with fail
   obtain⟨U,eU⟩:=Aj wr.drew;have be:Bw wr U:=qan;have G8:=Ab (HBS.o.bl be);have pg:=Ab (Ac be HZ5.o);have dy:=Ab (bt ko.o be);have dp:=G8.o.sh;rw[O3.o.1,O3.o.2.1]at dp;have fm:Hd (U.heap[P]?=M (O #[I c0,S t0,nS] 65 (0,0))/\U.heap[hb]?=M (O (bdO g r0 pm vm) 133 (0,0))/\U.heap[g]?=M (O #[I n,J ur tn' P1,J vi qn' rj,r0.su] 136 (0,0))):=⟨Ac be HL5.o,G8.o.bd,dp⟩;refine Lt.begin 99 (λw'=>w'.heap[P]?=M (O #[I c0,S t0,nS] 65 (0,0))/\w'.heap[hb]?=M (O (bdO g r0 pm vm) 133 (0,0))/\w'.heap[g]?=M (O #[I n,J ur tn' P1,J vi qn' rj,r0.su] 136 (0,0))) qk ?_;rw[eU];clear eU be dp HBS HZ5 ko HL5;change K 0 _
   iterate 16
    refine Lt.ti (v:=?_) fm.o ?_ ?_;rotate_left 1
    ·rintro w ⟨s1,s2,s3⟩
     obtain⟨l0,l1,l2,-⟩:=Ci s1;have b0:=cK s2 0;(have b1:w.cell? ⟨hb,1,N⟩=M (J na' nn' nc'):=by rw[cH s2,←O3.o.2.2.1];rfl);(have b2:w.cell? ⟨hb,2,N⟩=M (J ea' en' ec'):=by rw[cH s2,←O3.o.2.2.2.1];rfl);(have b3:w.cell? ⟨hb,3,N⟩=M (J ua' qn' uc'):=by rw[cH s2,←O3.o.2.2.2.2];rfl);obtain⟨g0,g1,g2,g3,-⟩:=Kk s3;exact qae
    simp only[gX]
   obtain⟨K7,K6,K5,K4,J9,J8,J7,J6,J5,J4⟩:=Et pg.o;have zcf:=fZ pg.o;obtain⟨l,el⟩:∃l:L (X×X×Z),l=[((w.heap.size+1+1),0,I c0),((w.heap.size+1+1),1,S t0),((w.heap.size+1+1),2,nS),((w.heap.size+1+1),3,I n),((w.heap.size+1+1),4,(J ur tn' P1)),((w.heap.size+1+1),5,(J vi qn' rj)),((w.heap.size+1+1),6,(J na' nn' nc')),((w.heap.size+1+1),7,(J ea' en' ec')),((w.heap.size+1+1),8,ze),((w.heap.size+1+1),9,ze)]:=⟨_,rfl⟩;have bu:∀x∈l,x.1=(w.heap.size+1+1):=Xg;have bn:=De l U _ bu pg.o;have hT:=Cg G8.o.tx bu pg.o qh;have hRc:=G8.o.qs.setU bu pg.o;have hA:=Cg G8.o.ran bu pg.o qh;have hE:=Cg G8.o.held bu pg.o qh;obtain⟨uxs,ux1,ux2⟩:=G8.o.us;have hU:=Cg ux1 bu pg.o qh;have hN:=λ(b:X) (h:b≠(w.heap.size+1+1))=>Fb (b:=b) l U (λx hx q=>h qce);have fa:Bw w (Bo U l):=Bg l U dy.o (λx hx=>qac);obtain⟨V,eV⟩:=Aj (Bo U l);rw[eV]at bn fa hT hRc hA hE hU;simp only[eV]at hN;rw[el]at bn eV;simp only[Bo,List.foldl]at eV;simp only[List.foldl,List.setIfInBounds_toArray,List.set_cons_zero,List.set_cons_succ]at bn;have HV:=Ab bn;have gj:=Ab fa;have H_hT:=Ab hT;have H_hRc:=Ab hRc;have H_hA:=Ab hA;have H_hE:=Ab hE;have H_hU:=Ab hU;have H_U2:=Ab ux2;have io:=Ab hN;clear bn fa el bu hT hRc hA hE hN hU ux1 ux2;refine Lt.sp (i:=16) (λK hK=>?_);go_simp
   try rw[eV]
   refine hK.out _ _ (λ_=>⟨(io.o P qg).trans fm.o.1,(io.o hb qg).trans fm.o.2.1,(io.o g qg).trans fm.o.2.2⟩) (λ_=>?_);clear hK K K7 K6 K5 K4 J9 J8 J7 J6 J5 J4 zcf eV
   try simp only[gX]
   refine Lt.sp (i:=17) (λK hK=>?_);go_simp;refine hK.out _ _ (λ_=>⟨(io.o P qg).trans fm.o.1,(io.o hb qg).trans fm.o.2.1,(io.o g qg).trans fm.o.2.2⟩) (λ_=>?_);clear hK K
   try simp only[gX]
   refine Lt.done qk ?_ _;go_wp2_with fail;obtain⟨y0,y1,y2,y3,y4,y5,y6,y7,y8,y9⟩:=Et HV.o;refine bR (v:=Y #[G #[I c0,S t0,nS,I n,(J ur tn' P1),(J vi qn' rj),(J na' nn' nc'),(J ea' en' ec'),ze,ze],J ua' qn' uc']) qcr rfl ⟨gj.o,_,_,rfl,?_⟩;have Is:=G8.o.ap;have hrc:=H_hRc.o;have Z8:=H_hT.o;have hra:=H_hA.o;have hhe:=H_hE.o;have huu:=H_hU.o;rw[O3.o.2.2.2.2]at huu;rw[O3.o.1]at Is Z8;rw[O3.o.2.1]at hrc;rw[O3.o.2.2.1]at Is hra;rw[O3.o.2.2.2.1]at Is hhe;obtain⟨zs,kv,lv,qr⟩:=hrc;exact⟨⟨c0,t0,[],n,s0.T,s0.R,s0.ran,s0.held,⟨#[]⟩,⟨#[]⟩⟩,nS,_,_,_,_,zs,kv,lv,Or.inr ⟨HWD.o,_,HNU.o,Or.inl ⟨s0,c0,t0,rfl,rfl⟩⟩,⟨rfl,Ff _ _,Z8,qr,hra,hhe,List.Pairwise.cons (λu _=>noB) (List.Pairwise.sublist (List.Sublist.cons_cons _ (List.Sublist.cons _ (List.Sublist.refl _))) Is)⟩,λ_=>⟨s0,c0,t0,uxs,HNU.o,rfl,huu,H_U2.o⟩⟩
end Go.Proofs.YtnflkpmmfpfhlaaGreatDoor
