import Derived.Test.YtoakjccojifagaaGreatDoorBuW
namespace Go.Proofs.YtoakjccojifagaaGreatDoor
open _root_.Go.Proofs.Tryz Go.RowKit Go.Deep
open Value renaming slice->J,string->S,agg->G,pointer->D
open Option renaming some->M,none->N
open Obj renaming cells->O
open Go renaming Value->Z,World->E
open Ending renaming returned->H
set_option linter.unusedVariables false
set_option linter.unusedSimpArgs false
set_option maxHeartbeats 8000000
set_option maxRecDepth 100000
def BuildB(B hb hs n:Nat)(sv tv:Z)(ss:List S2)(ts:List T2)(s:Sb)(nm:By)(w:E)(e:Ending)(w':E):Prop:=
 (¬ Ar nm/\e=H (G #[I 9,ze,nS])/\Bw w w')\/
 (Ar nm/\Below B w w'/\(∀(b:Nat)(cs:Array Z)(T:TypeId),TyO T->w.heap[b]?=M (O cs T (0,0))->w'.heap[b]?=M (O cs T (0,0)))/\∃h mb sb ms' s' a,Ba ss ts n [] s [] (.make nm) ms' s' a/\
   ((∃d av' kv' vs' r',a=.ok d/\e=H (G #[I d.c,S d.t,nS])/\Je B h mb ⟨hb,hs,sb,n⟩ sv tv ss ts w' ms' [] av' kv' vs' s' r')\/
    (∃b c t ca cn cc,a=.bad b/\e=H (G #[I c,S t,J ca cn cc])/\Df B ⟨hb,hs,sb,n⟩ w' b (G #[I c,S t,J ca cn cc]))))
theorem buildB_any(W0:E)(hb hs n:Nat)(sa ta:Option Addr)(c1 c2:Nat)(ss:List S2)(ts:List T2)(nm:By)(s:Sb)(r:Rv)(pm vm:Z)(w:E)(hE:He W0 sa ta ss ts)(hT:Kk W0)(hP:Lq W0)(de:nm.size<=9223372036854775807)(k:Ww W0.heap.size hb hs n w s r pm vm)(fw:Gi n s)(hct:s.ran.length+s.held.length≤40000)(hW:Bw W0 w):Calls prog 58 #[D (p_ hb),G #[J sa ss.length c1,J ta ts.length c2],S nm] w λe w'=>BuildB W0.heap.size hb hs n (J sa ss.length c1) (J ta ts.length c2) ss ts s nm w e w':=by
 have gi:=hW.size;have hmm:∀w:E,(Instr.makeMap 117 N).run prog w=.ok (.map (M w.heap.size)) (w.alloc (.map #[] 0)):=λw=>qi;have hfd:∀(v0 v1 v2 v3 v4 v5:Z)(w:E),(Instr.field 156 (G #[v0,v1,v2,v3,v4,v5]) 1).run prog w=.ok (G #[v1,v2,v3]) w:=λ_ _ _ _ _ _ _=>qi;have cw:∀(a:Addr)(fn:Fn)(x y:Array Z)(m:Mode)(w:E),(store a (.func fn x y) m).run prog w=stored prog w a (.func fn x y) m:=λa fn x y m w=>run_store prog w a _ m rfl;obtain⟨W,eW⟩:=Aj ((w.alloc (O #[J sa ss.length c1,J ta ts.length c2] 43)).alloc (O #[I 0,ze,nS] 121));have bq:Bw w W:=qbs
 have HSP:Hd (W.heap[w.heap.size]?=M (O #[J sa ss.length c1,J ta ts.length c2] 43 (0,0))):=by
  exact qea
 have lj:Hd (W.heap[w.heap.size+1]?=M (O #[I 0,ze,nS] 121 (0,0))):=by
  show _=_;rw[<- eW];have:=Hj (w.alloc (O #[J sa ss.length c1,J ta ts.length c2] 43)) (O #[I 0,ze,nS] 121)
  rwa [show(w.alloc (O #[J sa ss.length c1,J ta ts.length c2] 43)).heap.size=w.heap.size+1 from qg]at this
 have HVN:=Ad (λV=>Dm nm V de);have HK:=Ad k;have HW:=Ad hW;have oo:=Ad bq;have Z9:=Ad (show He W0 sa ta ss ts/\Kk W0/\Lq W0 from ⟨hE,hT,hP⟩);have oh:=Ad fw;have HEM:=Ad hct;have cz:=Ag lj.o;obtain⟨z0,z1,z2,zf⟩:=Dx lj.o;clear k hE hT hP fw hct hW bq
 by_cases im:Ar nm
 rotate_left 1
 ·have HNB:=Ad (Cs im)
  go_enter func58,ntmps58;go_wp2_with fail;refine(HVN.o W).mono ?_;rintro e w1 ⟨rfl,rfl⟩;rw[HNB.o];clear eW;go_wp2_with fail;have z8:=Bp lj.o (I 9) ze nS;obtain⟨z0,z1,z2,zf⟩:=Dx z8;refine bR (v:=G #[I 9,ze,nS]) qgt rfl (Or.inl ⟨im,rfl,Gv oo.o qb _ _ _⟩)
 have HNB:=Ad (Db im);have jk:=Ad im
 have hsl:∃qa qc,r.qv=J qa s.R.length qc:=by
  obtain⟨zs,cv,lv,qr⟩:=HK.o.qs;exact Ax qr.row
 obtain⟨qa,qc,eqv⟩:=hsl;have EQV:=Ad eqv;obtain⟨mR,emR⟩:=Aj s.R.length;have hmR:mR<=2000:=by rw[←emR];exact oh.o.2.1
 have EMR:=Ad emR;have hhb:=Ag HK.o.bd;have hhs:=Ag HK.o.sh;obtain⟨x0,x1⟩:=Ft HSP.o;clear im eqv emR z0 z1 z2 zf;go_enter func58,ntmps58;go_wp2_with fail;refine(HVN.o W).mono ?_;rintro e w1 ⟨rfl,rfl⟩;rw[HNB.o];clear eW HVN HNB;go_wp2_with fail;refine(Zl sa ta ss.length ts.length c1 c2 W).mono ?_;rintro e w2 ⟨rfl,e2⟩;have ag:Bw W w2:=by rw[e2];exact mkW_below _ _ W
 have mi:Hd (w2.heap[W.heap.size+1+1]?=M (O #[J sa ss.length c1,J ta ts.length c2,.map (M (W.heap.size+1)),nS,nS,.nilFunc] 153 (0,0))):=by show _=_;rw[e2];exact mkW_blk _ _ W
 have tr:Hd (Jl w2 (W.heap.size+1) 0 (λ_=>N)):=by show Jl _ _ _ _;rw[e2];exact mkW_map _ _ W
 have fj:=Ad (Ay oo.o ag);have pd:Hd (w2.heap[w.heap.size+1]?=_):=Ab ag lj.o;have vt:Hd (w2.heap[hb]?=M (O (bdO hs r pm vm) 119 (0,0))):=Ab fj.o HK.o.bd;obtain⟨h,eh⟩:=Aj (W.heap.size+1+1);obtain⟨mb,emb⟩:=Aj (W.heap.size+1);have hhw:w.heap.size+1<h:=qb;have G8:w.heap.size+1<mb:=qb;have hne:mb≠h:=qb;rw[eh,emb]at mi;rw[emb]at tr;rw[eh];clear e2 eh emb ag x0 x1 HSP lj oo;have y10:=cK vt.o 10;have yf:=λj=>fH vt.o j
 go_upto_region 4 with fail
 obtain⟨w3,e3⟩:=Aj (w2.setCell ⟨hb,10,N⟩ (D (p_ h)));have hx3:∀b,b≠hb->w3.heap[b]?=w2.heap[b]?:=λb e=>by rw[←e3];exact Dj w2 ⟨hb,10,N⟩ _ b e
 have HD3:Hd (w3.heap[hb]?=M (O (bdO hs r (D (p_ h)) vm) 119 (0,0))):=by show _=_;rw[←e3,jB vt.o];rfl
 have HZ3:Hd (w3.heap.size=w2.heap.size):=by show _=_;rw[←e3];simp
 have Gt:Hd (w3.heap[h]?=_):=(hx3 h qb).trans mi.o;have HP3:=Ad (tr.o.same (hx3 mb qb));have d6:Hd (Below W0.heap.size w w3):=by show Below _ _ _;rw[←e3];exact(fj.o.mono gi).setCell (p:=⟨hb,10,N⟩) HK.o.lb.1 _
 rw[e3];clear e3 y10 yf;have y10:=cK HD3.o 10;obtain⟨⟨m0,m1,m2,m3,m4,m5⟩,mf⟩:=Sf Gt.o
 go_upto_region 5 with fail
 obtain⟨w4,e4⟩:=Aj (w3.setCell ⟨h,5,N⟩ (.func (.func 85) #[D (p_ hb)] #[]));have hx4:∀b,b≠h->w4.heap[b]?=w3.heap[b]?:=λb e=>by rw[←e4];exact Dj w3 ⟨h,5,N⟩ _ b e
 have HM4:Hd (w4.heap[h]?=M (O #[J sa ss.length c1,J ta ts.length c2,.map (M mb),nS,nS,.func (.func 85) #[D (p_ hb)] #[]] 153 (0,0))):=by show _=_;rw[←e4,jB Gt.o];rfl
 have HZ4:Hd (w4.heap.size=w3.heap.size):=by show _=_;rw[←e4];simp
 have HD4:Hd (w4.heap[hb]?=_):=(hx4 hb qb).trans HD3.o;have HP4:=Ad (HP3.o.same (hx4 mb qb));have vx:Hd (Below W0.heap.size w w4):=by show Below _ _ _;rw[←e4];exact d6.o.setCell (p:=⟨h,5,N⟩) (show W0.heap.size<=h from qb) _
 have hm4:=HP4.o.lt;rw[e4];clear e4 y10 m0 m1 m2 m3 m4 m5 mf;obtain⟨w5,e5⟩:=Aj (w4.alloc (.map #[] 0));have dh:Bw w4 w5:=qhe;obtain⟨sb,esb⟩:=Aj w4.heap.size;have HSN5:Hd (Kj w5 sb 0 (λ_ _=>N)):=by show Kj _ _ _ _;rw[←e5,←esb];exact Kj.made w4
 have HD5:Hd (w5.heap[hb]?=_):=Ab dh HD4.o;have HM5:Hd (w5.heap[h]?=_):=Ab dh HM4.o;have HP5:=Ad (HP4.o.same (dh.block _ HP4.o.lt));have HZ5:Hd (w5.heap.size=w4.heap.size+1):=by show _=_;rw[←e5];simp
 have y11:=cK HD5.o 11;have yf:=λj=>fH HD5.o j;have hhl:=Ag HM5.o;have hmm4:(Instr.makeMap 117 N).run prog w4=.ok (.map (M sb)) w5:=by rw[hmm,e5,esb]
 clear hmm
 go_upto_region 6 with fail
 obtain⟨w6,e6⟩:=Aj (w5.setCell ⟨hb,11,N⟩ (.map (M sb)));have hx6:∀b,b≠hb->w6.heap[b]?=w5.heap[b]?:=λb e=>by rw[←e6];exact Dj w5 ⟨hb,11,N⟩ _ b e
 have HD6:Hd (w6.heap[hb]?=M (O (bdO hs r (D (p_ h)) (.map (M sb))) 119 (0,0))):=by show _=_;rw[←e6,jB HD5.o];rfl
 have Q6:Hd (w6.heap.size=w5.heap.size):=by show _=_;rw[←e6];simp
 have HM6:Hd (w6.heap[h]?=_):=(hx6 h qb).trans HM5.o;have HP6:=Ad (HP5.o.same (hx6 mb qb));have HSN6:=Ad (HSN5.o.same (hx6 sb qb));have uk:Hd (Below W0.heap.size w w6):=by show Below _ _ _;rw[←e6];exact(vx.o.trans (dh.mono (zo vx.o.size))).setCell (p:=⟨hb,11,N⟩) HK.o.lb.1 _
 rw[e6];clear e6 y11 yf hmm4 e5
 have jd:∀b,b<w.heap.size->b≠hb->w6.heap[b]?=w.heap[b]?:=λb h1 h2=>by
  rw[hx6 b h2,dh.block b qb,hx4 b qb,hx3 b h2,fj.o.block b h1]
 have hhsb:hs≠hb:=λe=>by have q:=HK.o.sh;rw[e,HK.o.bd]at q;injection q with q;injection q with _ q;exact absurd q qd
 have HSH6:Hd (w6.heap[hs]?=M (O #[I n,r.tx,r.qv,r.su] 124 (0,0))):=(jd hs hhs hhsb).trans HK.o.sh;have y0:=cK HD6.o 0;have v2:w6.cell? ⟨hs,2,N⟩=M (J qa mR qc):=by rw[cH HSH6.o,←EMR.o,←EQV.o];rfl
 obtain⟨i0,E5,bo,bm,cm⟩:=info_parts Tryz.info4b
 go_upto_region 7 with(at_make;refine wpList_make_full _ rfl (.tmp 37) (.tmp 37) 64 rfl w6.heap.size 4 i0 (.bool false) 1 underlying64 E5 bo bm .i64 .i64 _ _ mR rfl rfl rfl rfl qao qm (Nat.le_refl _) ?_;intro w7 d9 hgrow7;have cj:Bw w6 w7:=((Below.refl _ _).grown hgrow7 (Nat.le_refl _) qg);have HD7:Hd (w7.heap[hb]?=M (O (bdO hs r (D (p_ h)) (.map (M sb))) 119 (0,0))):=(Ab cj HD6.o);have y12:w7.cell? ⟨hb,12,N⟩=M r.dv:=(by rw[cH HD7.o];rfl);have y12f:∀j,w7.frozen? ⟨hb,j,N⟩=false:=(λj=>fH HD7.o j))
 rw[Ur]at d9;obtain⟨w8,e8⟩:=Aj (w7.setCell ⟨hb,12,N⟩ (J (p_ w6.heap.size) mR mR));obtain⟨nd,end_⟩:=Aj (Value.slice (p_ w6.heap.size) mR mR);have hx8:∀b,b≠hb->w8.heap[b]?=w7.heap[b]?:=λb e=>by rw[←e8];exact Dj w7 ⟨hb,12,N⟩ _ b e
 have hD8:w8.heap[hb]?=M (O (Tw ⟨hb,hs,sb,n⟩ h ⟨r.tx,r.su,r.qv,r.nv,r.ev,r.uv,nd,0⟩) 119 (0,0)):=by rw[←e8,jB HD7.o,←end_];rfl
 have hz3:=HZ3.o;have hz4:=HZ4.o;have hz5:=HZ5.o;have hz6:=Q6.o;have hw6:w.heap.size<=w6.heap.size:=zo fj.o.size;have mg:∀b,b<w.heap.size->b≠hb->w8.heap[b]?=w.heap[b]?:=λb h1 h2=>by rw[hx8 b h2,cj.block b qb,jd b h1 h2]
 have hM8:=(hx8 h qb).trans ((cj.block h (Ag HM6.o)).trans HM6.o);have hP8:=(HP6.o.same (cj.block mb HP6.o.lt)).same (hx8 mb qb);have lm:=(HSN6.o.same (cj.block sb HSN6.o.lt)).same (hx8 sb qb)
 have hN8:w8.ownsRow w.heap.size 4 1 nd s.R.length ((List.replicate s.R.length false).map .bool):=by
  rw[EMR.o,←end_];have:=Ah d9 hw6;exact Al this λb q=>hx8 b (λe=>by obtain⟨cs,c1⟩:=Bd this b q;have o:=HD7.o;rw[←e,c1]at o;injection o with o;injection o with _ o;exact absurd o qd)
 have hR8:w8.heap[w.heap.size+1]?=M (O #[I 0,ze,nS] 121 (0,0)):=by
  rw[hx8 _ qb,cj.block _ qb,hx6 _ qb,dh.block _ qb,hx4 _ qb,hx3 _ qb];exact pd.o
 have mo:Je W0.heap.size h mb ⟨hb,hs,sb,n⟩ (J sa ss.length c1) (J ta ts.length c2) ss ts w8 [] [] nS nS (λ_=>nS) s ⟨r.tx,r.su,r.qv,r.nv,r.ev,r.uv,nd,0⟩:=Ww.fresh HK.o mg gi hD8 qb qb qb qb hM8 hP8 lm hN8;have hpre:Ff ss ts n [] s [] 0 0:=⟨Fy.nil ss ts,oh.o,Nat.zero_le _,by unfold cntO;have:=HEM.o;simp only[List.length_nil];omega,Nat.zero_le _⟩
 have hb08:Below W0.heap.size w w8:=by
  rw[←e8];exact(uk.o.trans (cj.mono qb)).setCell (p:=⟨hb,12,N⟩) HK.o.lb.1 _
 rw[e8];clear e8 hx8 hx6 hx4 hx3 dh jd HD7 HD6 HM6 HP6 HSN6 HD5 HM5 HP5 HSN5 HD4 HM4 HP4 HD3 Gt HP3 vt mi tr HSH6 d9 hgrow7 y12 y12f y0 v2 cj hN8 hM8 hP8 lm pd fj;have gw:=Ad mo;have HR8:=Ad hR8;have vp:=Ad mg;have HB8:=Ad hb08;have HF:=Ad (firstB_any W0 h mb ⟨hb,hs,sb,n⟩ sa ta c1 c2 ss ts nm _ _ _ s _ w8 Z9.o.1 Z9.o.2.1 Z9.o.2.2 jk.o mo hpre (HW.o.trans hb08));have y10:=cK hD8 10;clear mo hpre hR8 mg hb08 hD8;go_wp2_with fail;refine HF.o.mono ?_;have HKEEP:Hd (∀(V:E)(r':Rv),KQ W0.heap.size h mb ⟨hb,hs,sb,n⟩ nS nS ⟨r.tx,r.su,r.qv,r.nv,r.ev,r.uv,nd,0⟩ r' w8 V->∀(b:Nat)(cs:Array Z)(T:TypeId),TyO T->w.heap[b]?=M (O cs T (0,0))->V.heap[b]?=M (O cs T (0,0))):=λV r' K b cs T hT q=>K.blk gw.o ((vp.o b (Ag q) (λe=>by have o:=HK.o.bd;rw[←e,q]at o;injection o with o;injection o with _ o;exact hT.2.1 o)).trans q) hT;rintro e w9 ⟨ms',s',an,bu,⟨⟨dc,dt,dls⟩,lv,av',kv',vs',r',rfl,rfl,⟨la,ln,lc,rfl⟩,hs9,P4⟩|⟨b,c,t,ca,cn,cc,r',rfl,rfl,Le,P4⟩⟩
 ·have M3:Hd (w9.heap[w.heap.size+1]?=_):=P4.blk gw.o HR8.o qd
  have HX:=Ad (show Ba ss ts n [] s [] (.make nm) ms' s' (.ok ⟨dc,dt,dls⟩)/\Below W0.heap.size w w9 from ⟨bu,HB8.o.trans P4.bel⟩);have HKE:=Ad (HKEEP.o _ _ P4);have xj:=Ad hs9;obtain⟨z0,z1,z2,zf⟩:=Dx M3.o;unfold Fj;dsimp only;clear P4 bu hs9 y10;go_wp2_with fail;have z8:=Bp M3.o (I dc) (S dt) nS;clear z0 z1 z2 zf;obtain⟨z0,z1,z2,zf⟩:=Dx z8;refine bR (v:=G #[I dc,S dt,nS]) qgt rfl (Or.inr ⟨jk.o,Gv HX.o.2 qb _ _ _,λb cs T hT q=>by rw[Em (zo (Ag q))];exact HKE.o b cs T hT q,h,mb,sb,ms',s',_,HX.o.1,Or.inl ⟨⟨dc,dt,dls⟩,av',kv',vs',r',rfl,rfl,xj.o.set3 M3.o qd _ _ _⟩⟩)
 ·have M3:Hd (w9.heap[w.heap.size+1]?=_):=P4.blk gw.o HR8.o qd
  have HX:=Ad (show Ba ss ts n [] s [] (.make nm) ms' s' (.bad b)/\Below W0.heap.size w w9/\Df W0.heap.size ⟨hb,hs,sb,n⟩ w9 b (G #[I c,S t,J ca cn cc]) from ⟨bu,HB8.o.trans P4.bel,Le⟩);have HKE:=Ad (HKEEP.o _ _ P4);obtain⟨z0,z1,z2,zf⟩:=Dx M3.o;clear P4 bu Le y10;go_wp2_with fail;have z8:=Bp M3.o (I c) (S t) (J ca cn cc);clear z0 z1 z2 zf;obtain⟨z0,z1,z2,zf⟩:=Dx z8;refine bR (v:=G #[I c,S t,J ca cn cc]) qgt rfl (Or.inr ⟨jk.o,Gv HX.o.2.1 qb _ _ _,λb cs T hT q=>by rw[Em (zo (Ag q))];exact HKE.o b cs T hT q,h,mb,sb,ms',s',_,HX.o.1,Or.inr ⟨b,c,t,ca,cn,cc,rfl,rfl,HX.o.2.2.kept (Em (show hb≠w.heap.size+1 from qb) _ _ _) (λb' cur q=>Em (λe=>by subst e;have q2:=M3.o;rw[q]at q2;injection q2 with q2;injection q2 with _ q2;exact absurd q2 qd) _ _ _)⟩⟩)
end Go.Proofs.YtoakjccojifagaaGreatDoor
