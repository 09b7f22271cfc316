import Derived.Test.YtbkkjodaaijimaaGreatDoorBtC
import Derived.Test.YtbkkjodaaijimaaGreatDoorBuY
namespace Go.Proofs.YtbkkjodaaijimaaGreatDoor
open Value renaming slice->J,string->S,bool->F,agg->G
open Option renaming some->M
open Obj renaming cells->O
open Go renaming Value->Z,World->E
open _root_ renaming List->L,Nat->X
set_option maxHeartbeats 8000000
set_option maxRecDepth 100000
open _root_.Go.Proofs.Tryz Go.RowKit Go.Deep
set_option linter.unusedVariables false
set_option linter.unusedSimpArgs false
variable {w w':E} {B B' h n:X} {R:L T3} {qv sv tv:Z} {T:L By} {b:Hm} {cs:Array Z} {e:L Z} {l:L (X×X×Z)}
structure Gc (w:E) (B:X) (tx qv:Z) (T:L By) (R:L T3):Prop where
 txt:w.ownsRow B 9 1 tx T.length (Aq T)
 txa:∃g p,tx=J (p_ g) T.length p
 rcs:Ex w B qv R
theorem Ez.recO{lo hi:X}{v:Z}{rs:L T3}(h:Ez w lo hi v rs):Ex w lo v rs:=by
 obtain⟨xs,cv,lv,q⟩:=h;exact⟨xs,cv,lv,q.row.own,q.fil,λi hi=>by obtain⟨ys,a,b⟩:=q.code i hi;exact⟨ys,a.own,b⟩,λi hi=>by obtain⟨ys,a,b⟩:=q.look i hi;exact⟨ys,a.own,b⟩,q.apc,q.apl⟩
theorem Ex.bl{v:Z}(h:Ex w B v R)(hb:Bw w w'):Ex w' B v R:=by
 obtain⟨xs,cv,lv,q⟩:=h;exact⟨xs,cv,lv,q.bl hb⟩
theorem Ex.base{v:Z}(h:Ex w B v R)(hB:B'<=B):Ex w B' v R:=by
 obtain⟨xs,cv,lv,r⟩:=h;exact⟨xs,cv,lv,Ah r.row hB,r.fil,λi hi=>by obtain⟨ys,a,b⟩:=r.code i hi;exact⟨ys,Ah a hB,b⟩,λi hi=>by obtain⟨ys,a,b⟩:=r.look i hi;exact⟨ys,Ah a hB,b⟩,r.apc,r.apl⟩
theorem Gc.bl{tx:Z}(h:Gc w B tx qv T R)(hb:Bw w w'):Gc w' B tx qv T R:=⟨Ab h.txt hb,h.txa,h.rcs.bl hb⟩
theorem Gc.base{tx:Z}(h:Gc w B tx qv T R)(hB:B'<=B):Gc w B' tx qv T R:=⟨Ah h.txt hB,h.txa,h.rcs.base hB⟩
theorem Fy.start{tx:Z}(hB:B<=h)(hk:w.heap[h]?=M (O #[sv,tv,I n,tx,qv,nS,nS,nS,nS,F false,I 0,ze,nS,I 0,nS,nS,nS,nS,ze,ze] 86 (0,0)))(hs:Gc w B tx qv T R):Fy B h sv tv n w [] ⟨T,R,[],[]⟩ [] ⟨tx,qv,nS,nS,nS,nS⟩:=
 ⟨hB,hk,hs.txt,hs.rcs,⟨[],World.ownsRow_nil _ _ _ _,λi hi=>qaa⟩,World.ownsRow_nil _ _ _ _,World.ownsRow_nil _ _ _ _,World.ownsRow_nil _ _ _ _,hs.txa,λb q=>⟨(λq=>qw),(λq=>qw),(λq=>qw)⟩,(λb q=>qw),(λb q=>qw)⟩
theorem Uo.bl{a:Option Addr}{is:L T3}(h:Uo w a is)(hb:Bw w w'):Uo w' a is:=λi hi=>by
 obtain⟨b,off,e,ca,cc,la,lc,B2,us,c1,c2,c3,r1,r0,r2,r3⟩:=h i hi;exact⟨b,off,e,ca,cc,la,lc,B2,us,Aa hb c1,Aa hb c2,Aa hb c3,r1.bl hb,r0,Ab r2 hb,r3⟩
theorem Fy.notB{ms:Mm}{s:Sb}{st:L By}{v:Hv}(k:Fy B h sv tv n w ms s st v){b T:X}(hb:w.heap[b]?=M (O cs T (0,0)))(h1:T≠86)(h2:T≠94)(h3:T≠153)(h4:T≠9):¬ Bz h v b:=by
 obtain⟨xs,m1,m2⟩:=k.made;obtain⟨ys,cv,lv,r⟩:=k.rcs;rintro(q|q|q|q|q|q)
 ·subst q
  have hk:=k.blk;rw[hb]at hk;injection hk with hk;injection hk with _ h5;exact h1 h5
 ·exact Ae r.row h2 hb q
 ·exact Ae m1 h3 hb q
 ·exact Ae k.stk h4 hb q
 ·exact Ae k.ran h4 hb q
 ·exact Ae k.held h4 hb q
theorem Jp{e sz:X}{u:Z}{xs:L Z}(ho:w.ownsRow B e sz u n xs)(hh:∀x∈l,x.1=h)(hk:w.heap[h]?=M (O cs 86 (0,0)))(he:86≠e):(Cu w l).ownsRow B e sz u n xs:=Al ho λb q=>Gz l w λx hx r=>Ae ho he hk (by rw[←hh x hx,←r];exact q)
theorem Gc.setL{tx:Z}(k:Gc w B tx qv T R)(hh:∀x∈l,x.1=h)(hk:w.heap[h]?=M (O cs 86 (0,0))):Gc (Cu w l) B tx qv T R:=by
 obtain⟨xs,cv,lv,r⟩:=k.rcs;exact⟨Jp k.txt hh hk qd,k.txa,xs,cv,lv,Jp r.row hh hk qd,r.fil,λi hi=>by obtain⟨ys,a,b⟩:=r.code i hi;exact⟨ys,Jp a hh hk qd,b⟩,λi hi=>by obtain⟨ys,a,b⟩:=r.look i hi;exact⟨ys,Jp a hh hk qd,b⟩,r.apc,r.apl⟩
theorem len9{pre:L Z}(h:pre.length=9):∃a0 a1 a2 a3 a4 a5 a6 a7 a8,pre=[a0,a1,a2,a3,a4,a5,a6,a7,a8]:=by
 match pre,h with
 | [a0,a1,a2,a3,a4,a5,a6,a7,a8],_=>exact⟨a0,a1,a2,a3,a4,a5,a6,a7,a8,rfl⟩
theorem Jh.shape(h:Jh B w b e):∃x y cv A B',e=[x,y,cv,I 0,nS,nS,nS,nS,A,B']/\∀c,cv.ownBlock=M c->c<w.heap.size:=by
 cases b with
 | circle ch=>obtain⟨cv,k,rfl⟩:=h;exact⟨_,_,_,_,_,rfl,λc q=>(k.lt c q).2⟩
 | deep nm=>cases h;exact⟨_,_,_,_,_,rfl,λc q=>qw⟩
 | clash A B=>cases h;exact⟨_,_,_,_,_,rfl,λc q=>qw⟩
 | full=>cases h;exact⟨_,_,_,_,_,rfl,λc q=>qw⟩
theorem Jh.setL(k:Jh B w b e)(hh:∀x∈l,x.1=h)(hk:w.heap[h]?=M (O cs 86 (0,0))):Jh B (Cu w l) b e:=by
 cases b with
 | circle ch=>obtain⟨cv,a,b⟩:=k;exact⟨cv,Jp a hh hk qd,b⟩
 | deep nm=>exact k
 | clash A B=>exact k
 | full=>exact k
def WorkE(B h n:X)(ss:L S2)(ts:L T2)(T:L By)(R:L T3)(nm:By)(w':E):Prop:=
 ∃ms' s' a,Bc ss ts n [] ⟨T,R,[],[]⟩ [] (.make nm) ms' s' a/\∃pre e,pre.length=10/\w'.heap[h]?=M (O ((pre++e).toArray) 86 (0,0))/\
  ((∃d tx qv nv ev,a=.ok d/\e=[I d.c,S d.t,nS,I n,tx,qv,nv,ev,ze,ze]/\Gc w' B tx qv s'.T s'.R/\w'.ownsRow B 9 1 nv s'.ran.length (Aq s'.ran)/\w'.ownsRow B 9 1 ev s'.held.length (Aq s'.held)/\(∀b,tx.ownBlock=M b->nv.ownBlock≠M b/\ev.ownBlock≠M b)/\(∀b,nv.ownBlock=M b->ev.ownBlock≠M b))\/
   (∃b x y cv tx qv A B',a=.bad b/\Jh B w' b [x,y,cv,I 0,nS,nS,nS,nS,A,B']/\e=[x,y,cv,I n,tx,qv,nS,nS,A,B']/\Gc w' B tx qv T R/\(∀b,cv.ownBlock=M b->tx.ownBlock≠M b)))
theorem l5Work_any(sa ta qa:Option Addr)(c1 c2 n tb tc qc:X)(ss:L S2)(ts:L T2)(T:L By)(R:L T3)(nm:By)(w:E)(hE:Hn w sa ta ss ts)(h1:1<=n)(h8:n<=8)(de:Cc w (p_ tb) T)(hrp:Uo w qa R)(ft:Jy n T R)(cm:Ar nm)(W9:T.length<=1048576/\R.length<=2000/\∀i,i<R.length→1≤(qx R i).code.length∧(qx R i).code.length≤1048576∧(qx R i).looks.length≤1048576):Calls prog 43 #[G #[I n,J (p_ tb) T.length tc,J qa R.length qc],G #[J sa ss.length c1,J ta ts.length c2],S nm] w λe w'=>Bw w w'/\∃h,w.heap.size<=h/\e=.returned (.pointer (p_ h))/\WorkE w.heap.size h n ss ts T R nm w':=by
 obtain⟨W,eW⟩:=Aj ((w.alloc (O #[I n,J (p_ tb) T.length tc,J qa R.length qc] 35)).alloc (O #[J sa ss.length c1,J ta ts.length c2] 40));have HW:Hd (Bw w W):=by show Below _ _ _;rw[←eW];exact(aN _ _).alloc qg _
 obtain⟨Q,eQ⟩:=Aj w.heap.size;have HQ:Hd (W.heap[Q]?=M (O #[I n,J (p_ tb) T.length tc,J qa R.length qc] 35 (0,0))):=qfx
 have HP:Hd (W.heap[Q+1]?=M (O #[J sa ss.length c1,J ta ts.length c2] 40 (0,0))):=by
  show _=_;rw[←eW,←eQ];have:=Hc (w.alloc (O #[I n,J (p_ tb) T.length tc,J qa R.length qc] 35)) (O #[J sa ss.length c1,J ta ts.length c2] 40)
  rwa [show(w.alloc (O #[I n,J (p_ tb) T.length tc,J qa R.length qc] 35)).heap.size=w.heap.size+1 from qg]at this
 have HCPY:Hd (∀V:E,Bw w V->Calls prog 42 #[G #[I n,J (p_ tb) T.length tc,J qa R.length qc]] V λe w'=>Bw V w'/\∃tx qv,e=.returned (G #[I n,tx,qv])/\Gc w' V.heap.size tx qv T R):=λV hV=>by
  refine(Om n tb 0 tc qa qc T R V (de.bl hV) (hrp.bl hV) W9.1 (zo W9.2.1) (λi hi=>(W9.2.2 i hi).2)).mono ?_;rintro e w' ⟨a1,g1,p1,v2,rfl,a2,a3⟩;exact⟨a1,_,_,rfl,a2.own,⟨g1,p1,rfl⟩,a3.recO⟩
 have HE:=Ac hE;have xm:=Ac ft;have ox:=Ac cm;clear hE ft cm de hrp W9;obtain⟨q0,q1,q2⟩:=Bd HQ.o;obtain⟨p0,p1⟩:=Fq HP.o;go_enter func43,ntmps43;go_wp2_with fail
 try rw[eQ]
 clear eW q0 q1 q2 p0 p1;refine Lt.begin 5 (λw'=>w'.heap[Q]?=M (O #[I n,J (p_ tb) T.length tc,J qa R.length qc] 35 (0,0))/\w'.heap[Q+1]?=M (O #[J sa ss.length c1,J ta ts.length c2] 40 (0,0))) qi ?_;obtain⟨wD,eD⟩:=Aj W.drew;rw[eD];have ct:Bw W wD:=qy;clear eD;replace HQ:=Ac (Af HQ.o ct);replace HP:=Ac (Af HP.o ct);replace HW:=Ac (bt HW.o ct);have gp:(λw'=>w'.heap[Q]?=M (O #[I n,J (p_ tb) T.length tc,J qa R.length qc] 35 (0,0))/\w'.heap[Q+1]?=M (O #[J sa ss.length c1,J ta ts.length c2] 40 (0,0))) wD:=⟨HQ.o,HP.o⟩;change K 0 _
 iterate 2
  refine Lt.ti (v:=?_) gp ?_ ?_;rotate_left 1
  ·exact qkh
  simp only[gX]
 refine Lt.sp (i:=2) (λK hK=>?_);go_simp;refine(HCPY.o _ HW.o).mono ?_;rintro e wC ⟨pu,tx,qv,rfl,lx⟩;have hDs:w.heap.size<=wD.heap.size:=HW.o.size;have A8:=Ac (lx.base hDs);replace HQ:=Ac (Af HQ.o pu);replace HP:=Ac (Af HP.o pu);replace HW:=Ac (bt HW.o pu);have uq:(λw'=>w'.heap[Q]?=M (O #[I n,J (p_ tb) T.length tc,J qa R.length qc] 35 (0,0))/\w'.heap[Q+1]?=M (O #[J sa ss.length c1,J ta ts.length c2] 40 (0,0))) wC:=⟨HQ.o,HP.o⟩;refine hK.out _ _ (λ_=>uq) (λ_=>?_);clear hK K pu lx
 try simp only[gX]
 refine Lt.ti (i:=3) (v:=?_) uq ?_ ?_;rotate_left 1
 ·exact qkh
 simp only[gX];refine Lt.sp (i:=4) (λK hK=>?_);go_simp;refine Dn (Q:=λx=>K _ x) ?_;intro wH hbH HH
 try dsimp only
 obtain⟨h,eh⟩:=Aj wC.heap.size;rw[eh]at HH ⊢;replace A8:=Ac (A8.o.bl hbH);have M6:w.heap.size<=h:=by rw[←eh];exact HW.o.size
 replace HQ:=Ac (Af HQ.o hbH);replace HP:=Ac (Af HP.o hbH);replace HW:=Ac (bt HW.o hbH);have hS2:(λw'=>w'.heap[Q]?=M (O #[I n,J (p_ tb) T.length tc,J qa R.length qc] 35 (0,0))/\w'.heap[Q+1]?=M (O #[J sa ss.length c1,J ta ts.length c2] 40 (0,0))) wH:=⟨HQ.o,HP.o⟩;refine hK.out _ _ (λ_=>hS2) (λ_=>?_);clear hK K hbH
 try simp only[gX]
 refine Lt.sp (i:=5) (λK hK=>?_);go_simp;refine hK.out _ _ (λh=>absurd rfl h) (λ_=>?_);clear hK K;refine Lt.done qi ?_ _;have HS:=Ac (Fy.start M6 HH.o A8.o);go_wp2_with fail;refine(make5_all w h sa ta c1 c2 n ss ts HE.o h1 h8 60 [] rfl qg [] ⟨T,R,[],[]⟩ _ nm wH HW.o HS.o (Fv.nil ss ts) xm.o ox.o qg (by unfold Ku;simp)).mono ?_;rintro e w5 ⟨ms',s',a,bi,⟨d,v',rfl,rfl,bx,cw⟩|⟨b,nb,rfl,rfl,bx,pa⟩⟩
 ·have HBLD:=Ac bi
  have HF:=Ac bx;have ie:=Ac cw;clear bi bx cw;have yn:=Ac (HW.o.trans HF.o.bel);obtain⟨dc,dt,dl⟩:=d;dsimp only
  go_upto_region 3 with fail
  obtain⟨RR,eRR⟩:=Aj w5.heap.size;obtain⟨w6,e6⟩:=Aj (w5.alloc (O #[I dc,S dt,nS] 120));have bz:Bw w5 w6:=qax;have iu:Hd (w6.heap[RR]?=M (O #[I dc,S dt,nS] 120 (0,0))):=qbq;rw[e6]
  try rw[eRR]
  clear e6;have jz:=Ac (ie.o.bl bz);have N8:=Ac (yn.o.trans (bz.mono (yn.o.size)));have jz:=Ac (ie.o.bl bz);clear bz ie yn;have k9:=cK jz.o.blk 9
  go_upto_region 6 with fail
  clear k9;obtain⟨vtx,vqv,vmv,vkv,vnv,vev⟩:=v';obtain⟨xg,xp,e1⟩:∃g p,vtx=J (p_ g) s'.T.length p:=jz.o.txa;subst e1;(obtain⟨S4,S3,e2⟩:∃a cap,vqv=J a s'.R.length cap:=by obtain⟨ys,cv,lv,r⟩:=jz.o.rcs;exact Ay r.row);subst e2;obtain⟨na,nc,e3⟩:∃a cap,vnv=J a s'.ran.length cap:=Ay jz.o.ran;subst e3;obtain⟨ea,ec,e4⟩:∃a cap,vev=J a s'.held.length cap:=Ay jz.o.held;subst e4;refine Lt.begin 20 (λw'=>w'.heap[h]?=M (O #[J sa ss.length c1,J ta ts.length c2,I n,J (p_ xg) s'.T.length xp,J S4 s'.R.length S3,vmv,vkv,J na s'.ran.length nc,J ea s'.held.length ec,F false,I 0,ze,nS,I 0,nS,nS,nS,nS,ze,ze] 86 (0,0))/\w'.heap[RR]?=M (O #[I dc,S dt,nS] 120 (0,0))) qi ?_;obtain⟨wE,eD⟩:=Aj w6.drew;rw[eD];have ct:Bw w6 wE:=qy;clear eD;replace jz:=Ac (jz.o.bl ct);replace iu:=Ac (Af iu.o ct);replace N8:=Ac (N8.o.trans (Below.mono ct N8.o.size));have gp:(λw'=>w'.heap[h]?=M (O #[J sa ss.length c1,J ta ts.length c2,I n,J (p_ xg) s'.T.length xp,J S4 s'.R.length S3,vmv,vkv,J na s'.ran.length nc,J ea s'.held.length ec,F false,I 0,ze,nS,I 0,nS,nS,nS,nS,ze,ze] 86 (0,0))/\w'.heap[RR]?=M (O #[I dc,S dt,nS] 120 (0,0))) wE:=⟨jz.o.blk,iu.o⟩;change K 0 _
  iterate 18
   refine Lt.ti (v:=?_) gp ?_ ?_;rotate_left 1
   ·exact qjs
   simp only[gX]
  refine Lt.sp (i:=18) (λK hK=>?_);go_simp;refine hK.out _ _ (λ_=>gp) (λ_=>?_);clear hK K 
  try simp only[gX]
  refine Lt.ti (i:=19) (v:=?_) gp ?_ ?_;rotate_left 1
  ·exact qjs
  simp only[gX];(have kc:∀j,10<=j->j<20->∃x,wE.cell? ⟨h,j,none⟩=M x:=λj h1 h2=>by rw[cH jz.o.blk];exact⟨_,Array.getElem?_eq_getElem qh⟩);have kf:=fZ jz.o.blk;obtain⟨x10,f10⟩:=kc 10 qb qb;obtain⟨x11,f11⟩:=kc 11 qb qb;obtain⟨x12,f12⟩:=kc 12 qb qb;obtain⟨x13,f13⟩:=kc 13 qb qb;obtain⟨x14,f14⟩:=kc 14 qb qb;obtain⟨x15,f15⟩:=kc 15 qb qb;obtain⟨x16,f16⟩:=kc 16 qb qb;obtain⟨x17,f17⟩:=kc 17 qb qb;obtain⟨x18,f18⟩:=kc 18 qb qb;obtain⟨x19,f19⟩:=kc 19 qb qb;refine Lt.sp (i:=20) (λK hK=>?_);go_simp;refine hK.out _ _ (λh=>absurd rfl h) (λ_=>?_);clear hK K;refine Lt.done qi ?_ _;obtain⟨l,el⟩:∃l:L (X×X×Z),l=[(h,10,I dc),(h,11,S dt),(h,12,nS),(h,13,I n),(h,14,J (p_ xg) s'.T.length xp),(h,15,J S4 s'.R.length S3),(h,16,J na s'.ran.length nc),(h,17,J ea s'.held.length ec),(h,18,ze),(h,19,ze)]:=⟨_,rfl⟩;have fk:∀x∈l,x.1=h:=qah;have d6:=Ep l wE _ fk jz.o.blk;have gu:Bw w (Cu wE l):=Cm l wE N8.o (λx hx=>by rw[fk x hx];exact M6);have HVS:Hd (Gc (Cu wE l) w.heap.size (J (p_ xg) s'.T.length xp) (J S4 s'.R.length S3) s'.T s'.R):=Gc.setL ⟨jz.o.txt,jz.o.txa,jz.o.rcs⟩ fk jz.o.blk;have HVN:=Ac (Jp jz.o.ran fk jz.o.blk qd);have HVE:=Ac (Jp jz.o.held fk jz.o.blk qd);obtain⟨V,eV⟩:=Aj (Cu wE l);rw[eV]at d6 gu HVS HVN HVE;rw[el]at d6 eV;simp only[Cu,List.foldl]at eV;rw[eV];simp only[List.foldl,List.setIfInBounds_toArray,List.set_cons_zero,List.set_cons_succ]at d6;have px:=Ac d6;have ui:=Ac gu;clear d6 gu eV el fk kf kc f10 f11 f12 f13 f14 f15 f16 f17 f18 f19;go_wp2_with fail;go_ret;rw[←eQ];exact⟨ui.o,h,M6,rfl,_,_,_,HBLD.o,[J sa ss.length c1,J ta ts.length c2,I n,J (p_ xg) s'.T.length xp,J S4 s'.R.length S3,vmv,vkv,J na s'.ran.length nc,J ea s'.held.length ec,F false],_,rfl,px.o,Or.inl ⟨⟨dc,dt,dl⟩,_,_,_,_,rfl,rfl,HVS.o,HVN.o,HVE.o,λb q=>⟨(jz.o.tk b q).2.1,(jz.o.tk b q).2.2⟩,jz.o.ne⟩⟩
 have HBLD:=Ac bi;have fu:=Ac bx;have HD:=Ac pa;clear bi bx pa;have HQ5:=Ac (fu.o.blk HQ.o (HS.o.notB HQ.o qd qd qd qd));have yn:=Ac (HW.o.trans fu.o.bel)
 go_upto_region 3 with fail
 obtain⟨RR,eRR⟩:=Aj w5.heap.size;obtain⟨w6,e6⟩:=Aj (w5.alloc (O #[I (Jw b),ze,nS] 120));have bz:Bw w5 w6:=qax;rw[e6]
 try rw[eRR]
 clear e6;have HD6:=Ac (HD.o.frx bz);have HQ6:=Ac (Af HQ5.o bz);have N8:=Ac (yn.o.trans (bz.mono (yn.o.size)));clear bz HQ5 yn HD;obtain⟨k9,S8,hhl⟩:=HD6.o.cells;obtain⟨q0,q1,q2⟩:=Bd HQ6.o;go_wp2_with fail;clear k9 S8 q0 q1 q2;refine(HCPY.o w6 N8.o).mono ?_;rintro e w7 ⟨ce,tx2,qv2,rfl,lx⟩;obtain⟨g2,p2,e1⟩:=lx.txa;subst e1;obtain⟨S4,S3,e2⟩:∃a cap,qv2=J a R.length cap:=by obtain⟨ys,cv,lv,r⟩:=lx.rcs;exact Ay r.row
 subst e2;obtain⟨pre,ee,dr,hpk,hpe,_⟩:=HD6.o;obtain⟨a0,a1,a2,a3,a4,a5,a6,a7,a8,ep⟩:=len9 dr;obtain⟨x,y,cv,A,B',ee2,vu⟩:=hpe.shape;subst ep;subst ee2;have hk7:=Af hpk ce;simp only[List.cons_append,List.nil_append]at hk7 hpk
 have HPE:Hd (Jh w.heap.size w7 b [x,y,cv,I 0,nS,nS,nS,nS,A,B']):=by
  have:=HD6.o.frx ce;clear this
  cases b with
  | circle ch=>obtain⟨cv,a,b⟩:=hpe;exact⟨cv,Ab a ce,b⟩
  | deep nm=>exact hpe
  | clash A B=>exact hpe
  | full=>exact hpe
 have HW7:=Ac (N8.o.trans (ce.mono N8.o.size));have HCL:=Ac vu;have HSM2:=Ac lx;have HK7:=Ac hk7;have hw6:w.heap.size<=w6.heap.size:=N8.o.size;clear hpe hpk dr lx ce vu hk7;obtain⟨l,el⟩:∃l:L (X×X×Z),l=[(h,13,I n),(h,14,J (p_ g2) T.length p2),(h,15,J S4 R.length S3)]:=⟨_,rfl⟩;have fk:∀x∈l,x.1=h:=qah;have d6:=Ep l w7 _ fk HK7.o;have gu:Bw w (Cu w7 l):=Cm l w7 HW7.o (λx hx=>by rw[fk x hx];exact M6);have HVS:=Ac (HSM2.o.setL fk HK7.o);have HVE:=Ac (HPE.o.setL fk HK7.o);obtain⟨V,eV⟩:=Aj (Cu w7 l);rw[eV]at d6 gu HVS HVE;rw[el]at d6 eV;simp only[Cu,List.foldl]at eV;simp only[List.foldl,List.setIfInBounds_toArray,List.set_cons_zero,List.set_cons_succ]at d6;have px:=Ac d6;have ui:=Ac gu;clear d6 gu el fk;have k13:=cK HK7.o 13;have k14:=cK HK7.o 14;have k15:=cK HK7.o 15;have kf:=fZ HK7.o;go_wp2_with fail
 try rw[eV]
 go_ret;rw[←eQ];exact⟨ui.o,h,M6,rfl,_,_,_,HBLD.o,[a0,a1,a2,a3,a4,a5,a6,a7,a8,F true],_,rfl,px.o,Or.inr ⟨b,x,y,cv,_,_,A,B',rfl,HVE.o,rfl,HVS.o.base hw6,λc q1 q2=>by have:=HCL.o c q1;have:=(HSM2.o.txt.lt c q2).1;omega⟩⟩
end Go.Proofs.YtbkkjodaaijimaaGreatDoor
