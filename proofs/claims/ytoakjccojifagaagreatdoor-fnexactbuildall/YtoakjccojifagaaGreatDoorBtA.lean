import Derived.Test.YtoakjccojifagaaGreatDoorBsY
namespace Go.Proofs.YtoakjccojifagaaGreatDoor
open Value renaming slice->J,string->S,bool->F,agg->G,pointer->D,tuple->Y
open Option renaming some->M,none->N
open Obj renaming cells->O
open Go renaming Value->Z,World->E
open Ending renaming returned->H
open _root_ renaming List->L,Nat->X
set_option maxHeartbeats 8000000
set_option maxRecDepth 100000
open _root_.Go.Proofs.Tryz Go.RowKit Go.Deep
set_option linter.unusedVariables false
set_option linter.unusedSimpArgs false
variable {B n e sz AK:X} {w w':E} {u:Z} {xs:L Z}
def RunP5(B h:X)(sv tv:Z)(n:X)(ss:L S2)(ts:L T2)(ms:Mm)(s:Sb)(st:L By)(v:Hv)(is:L I3)(w:E)(e:Ending)(w':E):Prop:=
 ∃ms' s' a,Ba ss ts n ms s st (.run is [] []) ms' s' a/\((∃d v' r,a=.ok d/\e=H (Y #[G #[I d.c,S d.t,nS],I r])/\0<=r/\Dc B (Cj h v) (Cj h v') w w'/\Gb B h sv tv n w' ms' s' st v')\/(∃b nv,a=.bad b/\e=H (Y #[G #[I 0,ze,nS],I (-1)])/\Dc B (Cj h v) (Zh h nv) w w'/\Fz B h st.length nv w' b))
theorem Gb.gr{h:X}{sv tv:Z}{ms:Mm}{s:Sb}{st:L By}{v:Hv}(k:Gb B h sv tv n w ms s st v){B' l:X}(ho:w.ownsRow B' e sz u l xs)(hg:w.grownBy w' u.ownBlock)(he:e≠105/\e≠9/\e≠166/\e≠95/\e≠139/\e≠136):Gb B h sv tv n w' ms s st v:=by
 obtain⟨a1,a2,a3,a4,a5,a6⟩:=he;obtain⟨xs,m1,m2⟩:=k.made;obtain⟨ys,cv,lv,r⟩:=k.rcs;have g:∀ {e' sz' l':X} {u':Z} {zs:L Z},w.ownsRow B e' sz' u' l' zs->e'≠e->w'.ownsRow B e' sz' u' l' zs:=λq hne=>Oz q hg (apart q ho hne);refine⟨k.hB,Bx k.blk hg (Ae ho (Ne.symm a1) k.blk),g k.txt (Ne.symm a2),⟨ys,cv,lv,g r.row (Ne.symm a4),r.fil,λi hi=>?_,λi hi=>?_,r.apc,r.apl⟩,⟨xs,g m1 (Ne.symm a3),m2⟩,g k.stk (Ne.symm a2),g k.ran (Ne.symm a2),g k.held (Ne.symm a2),k.txa,k.tk,k.kn,k.ne⟩
 ·obtain⟨ys,a,b⟩:=r.code i hi;exact⟨ys,g a (Ne.symm a5),b⟩
 ·obtain⟨ys,a,b⟩:=r.look i hi;exact⟨ys,g a (Ne.symm a6),b⟩
theorem Dc.gr{AM X':X->Prop}{w2:E}{row:Option X}(h:Dc B AM X' w w')(hg:w'.grownBy w2 row)(hB:B<=w.heap.size)(hr:∀b,row=M b->w.heap.size<=b):Dc B AM X' w w2:=by
 have hs:=h.bel.size;refine⟨h.bel.grown hg qb (λb q=>by have:=hr b q;omega),λb hb hx=>?_,h.new⟩;rw[hg.block b qb (λq=>by have:=hr b q.symm;omega)];exact h.keep b hb hx
theorem gCx_snoc(ls:L G3)(g:G3):Pb (ls++[g])=Pb ls++[S g.name,F g.ask,S g.sum]:=by
 induction ls with
 | nil=>rfl
 | cons a l ih=>simp[Pb,ih]
theorem Tryz.info172x:(prog.info? 201).map (λi=>(i.zero,i.size,i.bytes))=M (M (G #[ze,F false,ze]),3,40):=qi
theorem Tryz.info169x:(prog.info? 198).map (λi=>(i.zero,i.size,i.bytes))=M (M (G #[F false,I 0,ze]),3,32):=qi
theorem Xd{s x:Operand}{W:E}{ops:Array Oper}{o:Oper}{a:Act}{K:Act->E->Prop}{Q:Exit->Act->E->Prop}{AF:Prop}(ru:o.guard=N)(ho:o.op=.call { callee:=.builtin .append,args:=#[s,x],argTypes:=#[154,154] })(B:X)(v:Z)(nn:X)(xs:L Z)(hs:a.eval s=v)(ah:W.ownsRow B 201 3 v nn xs)(d:X)(u0 u1 u2:Z)(hx:a.eval x=J (p_ d) 1 1)(hc:W.heap[d]?=M (O #[u0,u1,u2] 201 (0,0)))(h1:∀u∈[u0,u1,u2],u.oneCell'=true)(hB:B<=W.heap.size)(hn:nn<=10000)(h:∀g' ai w',w'.ownsRow B 201 3 (J (p_ g') (nn+1) ai) (nn+1) (xs++[u0,u1,u2])->W.grownBy w' v.ownBlock->K (a.put o.dst (J (p_ g') (nn+1) ai)) w'):if Region.wanted o (yielded ops a.tmps)=true then Oper.wp prog o a W K Q else AF:=by
 obtain⟨i0,hi,bo,bm,cm⟩:=info_parts Tryz.info172x
 refine step_append_lies (w:=W) ru s x 154 ho B 201 i0 (G #[ze,F false,ze]) 3 40 underlying154 hi bo bm cm rfl qd _ nn xs hs ah ⟨d,0,N⟩ 1 1 [u0,u1,u2] hx rfl
  (World.news_of_block (cs:=#[u0,u1,u2]) (t:=201) (fr:=(0,0)) hc) h1 qb qm qb hB W.heap.size rfl ?_
 exact qdx
theorem Xh(ho:w.ownsRow B e sz u n xs)(hY:∀b,u.ownBlock=M b->b≠AK)(x0 x1 x2:Z):(((w.setCell ⟨AK,0,N⟩ x0).setCell ⟨AK,1,N⟩ x1).setCell ⟨AK,2,N⟩ x2).ownsRow B e sz u n xs:=Al ho λb q=>by
 rw[Dj _ ⟨AK,2,N⟩ _ b (hY b q),Dj _ ⟨AK,1,N⟩ _ b (hY b q),Dj _ ⟨AK,0,N⟩ _ b (hY b q)]
theorem own_setT3{T:X}(ho:w.ownsRow B e sz u n xs)(ht:Dn w AK T)(hne:T≠e)(x0 x1 x2:Z):(((w.setCell ⟨AK,0,N⟩ x0).setCell ⟨AK,1,N⟩ x1).setCell ⟨AK,2,N⟩ x2).ownsRow B e sz u n xs:=Xh ho (λb q k=>ht.ne ho hne (by rw[←k];exact q)) x0 x1 x2
theorem gCx_fil(ls:L G3):Bn ls ls.length (Pb ls):=λi hi=>gC_get ls i hi
theorem run5_any(W0:E)(h:X)(sa ta:Option Addr)(c1 c2 n:X)(ss:L S2)(ts:L T2)(hE:He W0 sa ta ss ts)(st:L By)(hM:Ob W0 h (J sa ss.length c1) (J ta ts.length c2) n ss ts st)(h1:1<=n)(h8:n<=8)(ms:Mm)(s:Sb)(v:Hv)(a:Option Addr)(ac:X)(is:L I3)(w:E)(hb:Bw W0 w)(hs:Gb W0.heap.size h (J sa ss.length c1) (J ta ts.length c2) n w ms s st v)(hi:Fy ss ts ms st)(fw:Gi n s)(du:Lp W0.heap.size w a is)(hp:Ao is=true)(hx:∀i,(ix is i).text.size<=9223372036854775807)(hph:ms.length+200<=400200*Dh ts ms st)(P7:Pf ts ms s st):Calls prog 98 #[D (p_ h),G #[J a is.length ac]] w λe w'=>RunP5 W0.heap.size h (J sa ss.length c1) (J ta ts.length c2) n ss ts ms s st v is w e w':=by
 obtain⟨W,eW⟩:=Aj ((w.alloc (O #[J a is.length ac] 92)).alloc (O #[I 0,ze,nS] 121));have HW:Hd (Bw w W):=by show Below _ _ _;rw[←eW];exact(aN _ _).alloc qg _
 obtain⟨Q,eQ⟩:=Aj w.heap.size;have HP0:Hd (W.heap[Q]?=M (O #[J a is.length ac] 92 (0,0))):=qgr
 have jp:Hd (W.heap[Q+1]?=M (O #[I 0,ze,nS] 121 (0,0))):=by
  exact qjb
 obtain⟨W1,A0⟩:=Aj ((W.alloc (O #[] 198)).alloc (O #[] 201));have HW1:Hd (Bw W W1):=by show Below _ _ _;rw[←A0];exact(aN _ _).alloc qg _
 have HY0:Hd (W1.ownsRow W.heap.size 198 3 (J (p_ W.heap.size) 0 0) 0 (Ea [])):=by
  show World.ownsRow _ _ _ _ _ _ _;rw[←A0];exact(World.ownsRow_lit W #[] 0 (Nat.le_refl _) qm rfl).alloc _
 have HL0:Hd (W1.ownsRow W.heap.size 201 3 (J (p_ (W.heap.size+1)) 0 0) 0 (Pb [])):=by
  show World.ownsRow _ _ _ _ _ _ _;rw[←A0];have h:=World.ownsRow_lit (base:=W.heap.size) (e:=201) (size:=3) (W.alloc (O #[] 198)) #[] 0 qg qm rfl;rw[show(W.alloc (O #[] 198)).heap.size=W.heap.size+1 from qg]at h;exact h
 have HN:Hd (∀b,Q<=b->¬ Cj h v b):=λb hb=>hs.not qb;have gi:W0.heap.size<=w.heap.size:=hb.size;have No:Hd (Dc W0.heap.size (Cj h v) (Cj h v) w W):=Dc.of_below HW.o gi;have yp:W0.heap.size<=W.heap.size:=Nat.le_trans gi HW.o.size;have HF1:Hd (Dc W0.heap.size (Cj h v) (Cj h v) W W1):=Dc.of_below HW1.o yp;have M2:=Ad ((hs.bl HW.o).bl HW1.o);have I7:=Ad (hb.trans (HW.o.mono gi));have HCW:=Ad (du.belowB (HW.o.mono gi));have HI0:=Ad hi;have sj:=Ad fw;have HM:=Ad hM;have HE:=Ad hE;have HPH:=Ad hph;have HCN0:=Ad P7;have vh:=Ad hp;have HIX:=Ad hx;have HRO0:Hd (Gj is [] []):=⟨hp,λi hi=>qai,rfl⟩;have E4:=Eb hp;obtain⟨i0,E5,bo,J2,J1⟩:=info_parts Tryz.info169x;clear hs hb hi fw hM hE hph du hp hx P7;go_enter func98,ntmps98;go_wp2_with fail
 try rw[eQ]
 clear eW A0
 go_loopw [6,7] (λvy vl wr=>∃(ys:L R3)(ls:L G3)(ms':Mm)(s':Sb)(v':Hv)(ra la:Option Addr)(rc lc:X),ys.length<=200/\vy=J ra ys.length rc/\vl=J la ls.length lc/\Hd (Gj is ys ls)/\Hd (Mp ls)/\Hd (∀bv s2 a,Ba ss ts n ms' s' st (.run is ys ls) bv s2 a->Ba ss ts n ms s st (.run is [] []) bv s2 a)/\Hd (Fy ss ts ms' st)/\Hd (Gi n s')/\Hd (400200*Dh ts ms st+ms'.length<=ms.length+ys.length+400200*Dh ts ms' st)/\Hd (Pf ts ms' s' st)/\Hd (wr.ownsRow W.heap.size 198 3 (J ra ys.length rc) ys.length (Ea ys))/\Hd (wr.ownsRow W.heap.size 201 3 (J la ls.length lc) ls.length (Pb ls))/\Hd (Dc W0.heap.size (Cj h v) (Cj h v') W wr)/\Hd (Gb W0.heap.size h (J sa ss.length c1) (J ta ts.length c2) n wr ms' s' st v')) (λvy _ _=>200-lenV vy)
 case atStart=>exact⟨[],[],ms,s,v,p_ W.heap.size,p_ (W.heap.size+1),0,0,qg,rfl,rfl,HRO0,(λg hg=>by simp at hg:Mp []),(λ_ _ _ k=>k),HI0,sj,(by show _<=_;simp only[List.length_nil];omega:400200*Dh ts ms st+ms.length<=ms.length+([]:L R3).length+400200*Dh ts ms st),HCN0,HY0,HL0,HF1,M2⟩
 case round=>
  clear HY0 HL0 HF1 M2 HRO0 HI0 sj;obtain⟨ys,ls,ms',s',v',ra,la,rc,lc,hk,rfl,rfl,yv,X1,ig,HI,HK,HC,om,HY,HL,gj,HS⟩:=hrel;have wt:=Ad (I7.o.trans gj.o.bel);have bp:W0.heap.size<=wr.heap.size:=wt.o.size;have U3:W.heap.size<=wr.heap.size:=gj.o.bel.size;have HP0r:=Ad (gj.o.blk HP0.o (HN.o _ (Nat.le_refl _)));have p0:=Jk HP0r.o;have HCr:=Ad (HCW.o.belowB gj.o.bel);go_wp2_with fail;clear p0;refine(Yw a ra ac rc is ys wr HCr.o.1 (rowR_of HY.o) qb HIX.o (rx_any yv.o.ok) vh.o (reps_of (gs:=[]) yv.o.ok hk)).mono ?_;rintro e w2 ⟨ag,rs,jg,rfl⟩;replace HS:=Ad (HS.o.bl ag);replace HY:=Ad (Ac HY.o ag);replace HL:=Ad (Ac HL.o ag);replace gj:=Ad (gj.o.trans (Dc.of_below ag bp));replace wt:=Ad (wt.o.trans (Below.mono ag bp));replace HCr:=Ad (HCr.o.belowB (Below.mono ag bp));replace bp:W0.heap.size<=w2.heap.size:=Nat.le_trans bp ag.size;replace U3:W.heap.size<=w2.heap.size:=Nat.le_trans U3 ag.size;clear ag HP0r
  cases rs with
  | over c t q=>
    obtain⟨ht2,H7,hc5⟩:=yv.o.over jg;have HOV:Hd (∀s2,Fb n s' is ls c t s2 N->Ba ss ts n ms s st (.run is [] []) ms' s2 (.ok ⟨c,t,ls⟩)):=λs2 k=>ig.o _ _ _ (.over jg k);have HOB:Hd (∀s2 b,Fb n s' is ls c t s2 (M b)->Ba ss ts n ms s st (.run is [] []) ms' s2 (.bad b)):=λs2 b k=>ig.o _ _ _ (.overbad jg k);have hls2:ls.length<=200:=zo yv.o.eq;clear jg;unfold resT Bc;obtain⟨P,eP⟩:=Aj w2.heap.size;obtain⟨w3,e3⟩:=Aj (w2.alloc (O #[F true,I c,S t,F false,ze,I q] 194));have au:Bw w2 w3:=qei;have HT:=Ad (nW e3 eP);replace HS:=Ad (HS.o.bl au);replace HL:=Ad (Ac HL.o au);replace gj:=Ad (gj.o.trans (Dc.of_below au bp));replace HCr:=Ad (HCr.o.belowB (Below.mono au bp));replace bp:W0.heap.size<=w3.heap.size:=Nat.le_trans bp au.size;clear au;have HP0r:=Ad (gj.o.blk HP0.o (HN.o _ (Nat.le_refl _)));have p0:=Jk HP0r.o;obtain⟨t0,t1,t2,t3,t4,t5⟩:=Ho HT.o;go_wp2_with fail;clear e3 eP t0 t1 t2 t3 t4 t5 p0;refine(shopNote W0.heap.size h n _ _ ms' s' st v' a la ac lc is ls (Pb ls) c t w3 HS.o bp h1 h8 HK.o HCr.o vh.o HIX.o (Ah HL.o yp) (gCx_fil ls) (HS.o.notT HL.o qd qd qd qd) hls2 X1.o H7 hc5 ht2 (by have a1:=om.o;have a2:=Pn ts ms' st;have a3:=HE.o.l2;unfold Pf at a1;omega)).mono ?_;rintro e w4 (⟨s2,v2,r,X9,rfl,B3,ci,di⟩|⟨s2,bb,nb,X9,rfl,ci,rv⟩)
    ·have ll:=Ad (HOV.o _ X9)
     have fy:=Ad (gj.o.trans ci);have cu:=Ad di;have pa:=Ad (fy.o.blk jp.o (HN.o _ qb));clear X9 ci di;obtain⟨z0,z1,z2,zf⟩:=Dx pa.o;go_wp2_with fail;obtain⟨y0,y1,y2,_⟩:=Dx (Bp pa.o (I c) (S t) nS);exact bR (v:=Y #[G #[I c,S t,nS],I r]) (by simp[results,results98,go_sem,y0,y1,y2]) rfl ⟨_,_,_,ll.o,Or.inl ⟨⟨c,t,ls⟩,v2,r,rfl,rfl,B3,(No.o.trans fy.o).set3 qb qb _ _ _,cu.o.set3 ⟨_,pa.o⟩ qd _ _ _⟩⟩
    ·have ll:=Ad (HOB.o _ _ X9)
     have fy:=Ad (gj.o.trans ci);have vt:=Ad rv;have pa:=Ad (fy.o.blk jp.o (HN.o _ qb));clear X9 ci rv;exact qie
  | wait ask nm q=>
    obtain⟨aj,de⟩:=yv.o.wait jg;have sf:=Ad de;have HLE:=Ad yv.o.eq;have K8:ls.length<200:=zo HLE.o;have X2:Hd (ask=false->∀bv s2 a,Ba ss ts n ms' s' st (.run is (ys++[⟨Ck ss ts nm,0,⟨#[]⟩⟩]) (ls++[⟨nm,false,Cq (Ck ss ts nm)⟩])) bv s2 a->Ba ss ts n ms s st (.run is [] []) bv s2 a):=λq bv s2 a k=>ig.o _ _ _ (.has (by rw[q]at jg;exact jg) k);have X4:Hd (ask=true->∀ms1 s1 d,Ba ss ts n ms' s' st (.make nm) ms1 s1 (.ok d)->∀bv s2 a,Ba ss ts n ms1 s1 st (.run is (ys++[Wh ss ts nm d]) (ls++[⟨nm,true,Bj d.c d.t⟩])) bv s2 a->Ba ss ts n ms s st (.run is [] []) bv s2 a):=λq ms1 s1 d k1 bv s2 a k=>ig.o _ _ _ (.asked (by rw[q]at jg;exact jg) k1 k);have HABD:Hd (ask=true->∀ms1 s1 b,Ba ss ts n ms' s' st (.make nm) ms1 s1 (.bad b)->Ba ss ts n ms s st (.run is [] []) ms1 s1 (.bad b)):=λq ms1 s1 b k=>ig.o _ _ _ (.askbad (by rw[q]at jg;exact jg) k);clear jg de ig;unfold resT Bc;obtain⟨P,eP⟩:=Aj w2.heap.size;obtain⟨w3,e3⟩:=Aj (w2.alloc (O #[F false,I 0,ze,F ask,S nm,I q] 194));have au:Bw w2 w3:=qei;have HT:=Ad (nW e3 eP);have HNP:Hd (¬ Cj h v' P):=HS.o.not qb;replace HS:=Ad (HS.o.bl au);replace HY:=Ad (Ac HY.o au);replace HL:=Ad (Ac HL.o au);replace gj:=Ad (gj.o.trans (Dc.of_below au bp));replace wt:=Ad (wt.o.trans (Below.mono au bp));replace HCr:=Ad (HCr.o.belowB (Below.mono au bp));replace bp:W0.heap.size<=w3.heap.size:=Nat.le_trans bp au.size;replace U3:W.heap.size<=w3.heap.size:=Nat.le_trans U3 au.size;clear au;obtain⟨t0,t1,t2,t3,t4,t5⟩:=Ho HT.o
    have HHA:Hd (∀V,Bw w3 V->Calls prog 123 #[D (p_ h),S nm] V λe w'=>Bw V w'/\e=H (F (Ck ss ts nm))):=λV hV=>by
     exact qiw
    cases ask
    ·go_wp2_with fail
     clear e3 eP t0 t1 t2 t3 t4 t5;refine(HHA.o w3 (Below.refl _ _)).mono ?_;rintro e w5 ⟨dh,rfl⟩;replace HT:=Ad (Af HT.o dh);replace HS:=Ad (HS.o.bl dh);replace HY:=Ad (Ac HY.o dh);replace HL:=Ad (Ac HL.o dh);replace gj:=Ad (gj.o.trans (Dc.of_below dh bp));replace bp:W0.heap.size<=w5.heap.size:=Nat.le_trans bp dh.size;replace U3:W.heap.size<=w5.heap.size:=Nat.le_trans U3 dh.size;clear dh;obtain⟨tb,etb⟩:=Aj (Ck ss ts nm);rw[etb];rw[etb]at X2;clear etb
     go_wp2_with (first|(at_builtin;refine wpList_append_own _ rfl (.tmp 37) (.tmp 40) 192 rfl W.heap.size 198 i0 (G #[F false,I 0,ze]) 3 32 underlying192 E5 bo J2 J1 rfl qd _ _ _ rfl (HY.o.alloc _) ⟨w5.heap.size,0,N⟩ 1 1 [F tb,I 0,ze] rfl rfl (Pg _ _ _ _ _) (by intro u hu;simp at hu;rcases hu with rfl|rfl|rfl<;>rfl) qm qb qh ?_;intro v4 w4 ph ff hnil4))
     have HRN:Hd (Gj is (ys++[⟨tb,0,⟨#[]⟩⟩]) (ls++[⟨nm,false,Cq tb⟩])):=yv.o.has _ _;have HLN:Hd (Mp (ls++[⟨nm,false,Cq tb⟩])):=X1.o.snoc sf.o (Ih tb);have HC7:Hd (400200*Dh ts ms st+ms'.length<=ms.length+(ys++[(⟨tb,0,⟨#[]⟩⟩:R3)]).length+400200*Dh ts ms' st):=by have:=HC.o;show _<=_;rw[List.length_append,List.length_singleton];omega
     obtain⟨g4,B8,rfl⟩:∃g cp,v4=J (p_ g) (ys.length+1) cp:=by
      exact qmq
     have co:Bw w5 (w5.alloc (O #[F tb,I 0,ze] 198)):=aN _ _;have Y5:=Ac HY.o co;(have F6:Hd (w4.ownsRow W.heap.size 198 3 (J (p_ g4) (ys++[(⟨tb,0,⟨#[]⟩⟩:R3)]).length B8) (ys++[(⟨tb,0,⟨#[]⟩⟩:R3)]).length (Ea (ys++[(⟨tb,0,⟨#[]⟩⟩:R3)]))):=by show World.ownsRow _ _ _ _ _ _ _;rw[List.length_append,List.length_singleton,Oo];exact ph);have ie:=Ad ((HS.o.bl co).gr Y5 ff qd);have A7:=Ad ((gj.o.trans (Dc.of_below co bp)).gr ff yp (λb q=>(Y5.lt b q).1));have vk:=Ad (Oz (Ac HL.o co) ff (apart (Ac HL.o co) Y5 qd));have wn:=Ad (Bx (Af HT.o co) ff (Ae Y5 qd (Af HT.o co)));have jn:W0.heap.size<=w4.heap.size:=Nat.le_trans yp A7.o.bel.size;have U4:W.heap.size<=w4.heap.size:=A7.o.bel.size;clear co Y5 ph ff hnil4;go_wp2_with fail;refine Lt.begin 8 (λw'=>w'.heap[P]?=M (O #[F false,I 0,ze,F false,S nm,I q] 194 (0,0))) qi ?_;obtain⟨wD,eD⟩:=Aj w4.drew;rw[eD];have dj:Bw w4 wD:=qab;clear eD;replace ie:=Ad (ie.o.bl dj);replace F6:=Ad (Ac F6.o dj);replace vk:=Ad (Ac vk.o dj);replace wn:=Ad (Af wn.o dj);replace A7:=Ad (A7.o.trans (Dc.of_below dj jn));replace jn:W0.heap.size<=wD.heap.size:=Nat.le_trans jn dj.size;replace U4:W.heap.size<=wD.heap.size:=Nat.le_trans U4 dj.size;have ia:(λw'=>w'.heap[P]?=M (O #[F false,I 0,ze,F false,S nm,I q] 194 (0,0))) wD:=wn.o;change K 0 _
     iterate 4
      refine Lt.ti (v:=?_) ia ?_ ?_;rotate_left 1
      ·exact qly
      simp only[gX]
     refine Lt.sp (i:=4) (λK hK=>?_);go_simp;refine(Lv tb _).mono ?_;rintro e wF ⟨rfl,rfl⟩;refine hK.out _ _ (λ_=>ia) (λ_=>?_);clear hK K 
     try simp only[gX]
     refine Lt.ti (i:=5) (v:=?_) ia ?_ ?_;rotate_left 1
     ·exact qly
     simp only[gX];refine Lt.sp (i:=6) (λK hK=>?_);go_simp;refine Bq (Q:=λx=>K _ x) ?_;intro wL ib HLT
     try dsimp only
     obtain⟨dL,edL⟩:=Aj wD.heap.size;rw[edL]at HLT ⊢;replace ie:=Ad (ie.o.bl ib);replace F6:=Ad (Ac F6.o ib);replace vk:=Ad (Ac vk.o ib);replace wn:=Ad (Af wn.o ib);replace A7:=Ad (A7.o.trans (Dc.of_below ib jn));replace U4:W.heap.size<=wL.heap.size:=Nat.le_trans U4 ib.size;have wg:(λw'=>w'.heap[P]?=M (O #[F false,I 0,ze,F false,S nm,I q] 194 (0,0))) wL:=wn.o;refine hK.out _ _ (λ_=>wg) (λ_=>?_);clear hK K ib
     try simp only[gX]
     refine Lt.sp (i:=7) (λK hK=>?_);refine Xd rfl qo W.heap.size _ ls.length (Pb ls) qo vk.o dL _ _ _ qo HLT.o qcx U4 qb ?_;intro g' ai w7 ah ae;have K7:=vk.o;have A1:=Ad (ie.o.gr K7 ae qd);have HF7:=Ad (A7.o.gr ae yp (λb q=>(K7.lt b q).1));have HY7:=Ad (Oz F6.o ae (apart F6.o K7 qd));have HT7:=Ad (Bx wn.o ae (Ae K7 qd wn.o));(have HL7:Hd (w7.ownsRow W.heap.size 201 3 (J (p_ g') (ls++[(⟨nm,false,Cq tb⟩:G3)]).length ai) (ls++[(⟨nm,false,Cq tb⟩:G3)]).length (Pb (ls++[(⟨nm,false,Cq tb⟩:G3)]))):=by show World.ownsRow _ _ _ _ _ _ _;rw[List.length_append,List.length_singleton,gCx_snoc];exact ah);have H9:(λw'=>w'.heap[P]?=M (O #[F false,I 0,ze,F false,S nm,I q] 194 (0,0))) w7:=HT7.o;refine hK.out _ _ (λ_=>H9) (λ_=>?_);clear hK K ae ah K7 ie A7 F6 vk wn;simp only[gX];refine Lt.sp (i:=8) (λK hK=>?_);go_simp;refine hK.out _ _ (λh=>absurd rfl h) (λ_=>?_);clear hK K;refine Lt.done qi ?_ _;go_wp2_with fail;go_roundw
     case rel=>exact⟨ys++[(⟨tb,0,⟨#[]⟩⟩:R3)],ls++[(⟨nm,false,Cq tb⟩:G3)],ms',s',v',p_ g4,p_ g',B8,ai,qh,qek,qek,HRN,HLN,X2.o qae,HI,HK,HC7,om,HY7,HL7,HF7,A1⟩
     case measure=>simp[lenV];omega
    ·go_wp2_with fail
     clear e3 eP t0 t1 t2 t3 t4 t5;refine(HM.o ms' s' v' nm w3 wt.o HS.o HI.o HK.o sf.o (by have:=HC.o;have:=HPH.o;omega) om.o).mono ?_;rintro e w5 ⟨bv,s2,a2,bu,⟨dd,v2,rfl,rfl,ci,di⟩|⟨bb,nb,rfl,rfl,ci,rv⟩⟩;rotate_left 1
     ·have ll:=Ad (HABD.o qae _ _ _ bu)
      have fy:=Ad (gj.o.trans ci);have vt:=Ad rv;have B7:W0.heap.size<=w5.heap.size:=Nat.le_trans bp ci.bel.size;clear bu ci rv
      go_upto_region 11 with fail
      obtain⟨w6,e6⟩:=Aj (w5.alloc (O #[I (Ja bb),ze,nS] 121));have bz:Bw w5 w6:=qaw;rw[e6];clear e6;replace fy:=Ad (fy.o.trans (Dc.of_below bz B7));replace vt:=Ad (vt.o.frx bz);have pa:=Ad (fy.o.blk jp.o (HN.o _ qb));clear bz;obtain⟨k9,_,_⟩:=vt.o.cells;exact qie
     obtain⟨i1,i2,i3,i4⟩:=Ba.inv HE.o.v bu HI.o HK.o sf.o (λb q=>qw);have xd:=Ba.cost HE.o.v bu HI.o HK.o sf.o (λb q=>qw);have A8:=Ad (Ba.cntM HE.o.v bu HI.o HK.o sf.o (λb q=>qw) rfl om.o);have P2:=i1.done _ _ i4;have HMD:=Ad P2;have I2:=Ad i1;have gg:=Ad i2;have HRN0:=Ad (yv.o.asked P2 (⟨nm,true,Bj dd.c dd.t⟩:G3));have HLN0:Hd (Mp (ls++[⟨nm,true,Bj dd.c dd.t⟩])):=X1.o.snoc sf.o (Dt P2.t2);have HCON0:=Ad (X4.o qae _ _ _ bu);(have HC20:Hd (400200*Dh ts ms st+bv.length<=ms.length+(ys.length+1)+400200*Dh ts bv st):=by have:=HC.o;show _<=_;simp only[Pe]at xd;omega);replace HY:=Ad (ci.own HY.o (HS.o.notT HY.o qd qd qd qd));replace HL:=Ad (ci.own HL.o (HS.o.notT HL.o qd qd qd qd));replace HT:=Ad (ci.blk HT.o HNP.o);replace gj:=Ad (gj.o.trans ci);replace wt:=Ad (wt.o.trans ci.bel);replace HS:=Ad di;replace bp:W0.heap.size<=w5.heap.size:=Nat.le_trans bp ci.bel.size;replace U3:W.heap.size<=w5.heap.size:=Nat.le_trans U3 ci.bel.size;clear bu ci di i1 i2 i3 i4 xd P2 HHA X4 HABD X2 yv HC HCr
     have HHA:Hd (∀V,Bw w5 V->Calls prog 123 #[D (p_ h),S nm] V λe w'=>Bw V w'/\e=H (F (Ck ss ts nm))):=λV hV=>by
      exact qiw
     obtain⟨dc,edc⟩:=Aj dd.c;obtain⟨dt,edt⟩:=Aj dd.t;rw[edc,edt]at HLN0 HRN0 HCON0;rw[edc,edt];have HFO:Hd (∀V:E,Calls prog 125 #[G #[I dc,S dt,nS]] V λe w'=>e=H (S (Bj dc dt))/\Bw V w'):=λV=>My dc dt V (by rw[←edc];exact HMD.o.c0) (by rw[←edc];exact HMD.o.c5) qhl;have HDE:=Ad (And.intro edc edt);clear edc edt
     go_upto_region 11 with fail
     obtain⟨RR,eRR⟩:=Aj w5.heap.size;obtain⟨w6,e6⟩:=Aj (w5.alloc (O #[I dc,S dt,nS] 121));have bz:Bw w5 w6:=qaw;have lj:Hd (w6.heap[RR]?=M (O #[I dc,S dt,nS] 121 (0,0))):=qcs;rw[e6]
     try rw[eRR]
     clear e6;replace HS:=Ad (HS.o.bl bz);replace HY:=Ad (Ac HY.o bz);replace HL:=Ad (Ac HL.o bz);replace gj:=Ad (gj.o.trans (Dc.of_below bz bp));replace wt:=Ad (wt.o.trans (Below.mono bz bp));replace HT:=Ad (Af HT.o bz);replace bp:W0.heap.size<=w6.heap.size:=Nat.le_trans bp bz.size;replace U3:W.heap.size<=w6.heap.size:=Nat.le_trans U3 bz.size;have HB56:=Ad bz;clear bz;have k9:=cK HS.o.blk 9;obtain⟨x0,x1,x2⟩:=Bb lj.o;obtain⟨t0,t1,t2,t3,t4,t5⟩:=Ho HT.o
     go_upto_region 14 with fail
     clear k9 x0 x1 x2 t0 t1 t2 t3 t4 t5;obtain⟨AK,eY⟩:=Aj w6.heap.size;obtain⟨w7,e7⟩:=Aj (w6.alloc (O #[F true,I dc,S dt] 198));have cj:=aB e7;have HYB:=Ad (nW e7 eY);rw[e7]
     try rw[eY]
     clear e7;have hYw:W.heap.size<=AK:=qb;(have HNY:Hd (∀b,(Value.slice ra ys.length rc).ownBlock=M b->b≠AK):=λb q k=>by have:=(HY.o.lt b q).2;omega);have hYne:AK≠P/\AK≠RR:=⟨λq=>by have:=Ag HT.o;omega,λq=>by have:=Ag lj.o;omega⟩;replace HS:=Ad (HS.o.bl cj);replace HY:=Ad (Ac HY.o cj);replace HL:=Ad (Ac HL.o cj);replace gj:=Ad (gj.o.trans (Dc.of_below cj bp));replace wt:=Ad (wt.o.trans (Below.mono cj bp));replace HT:=Ad (Af HT.o cj);replace lj:=Ad (Af lj.o cj);replace bp:W0.heap.size<=w7.heap.size:=Nat.le_trans bp cj.size;replace U3:W.heap.size<=w7.heap.size:=Nat.le_trans U3 cj.size;have HB57:=Ad (bt HB56.o cj);clear cj;obtain⟨t0,t1,t2,t3,t4,t5⟩:=Ho HT.o;go_wp2_with fail;clear t0 t1 t2 t3 t4 t5;refine(HHA.o w7 HB57.o).mono ?_;rintro e w8 ⟨n9,rfl⟩;replace HS:=Ad (HS.o.bl n9);replace HY:=Ad (Ac HY.o n9);replace HL:=Ad (Ac HL.o n9);replace gj:=Ad (gj.o.trans (Dc.of_below n9 bp));replace wt:=Ad (wt.o.trans (Below.mono n9 bp));replace HT:=Ad (Af HT.o n9);replace lj:=Ad (Af lj.o n9);replace HYB:=Ad (Af HYB.o n9);clear n9 HB56 HB57 HHA;obtain⟨tb,etb⟩:=Aj (Ck ss ts nm);rw[etb];(have HRP:Hd (Wh ss ts nm dd=if tb=true then ⟨true,dc,dt⟩ else ⟨false,0,⟨#[]⟩⟩):=by show _=_;unfold Wh;rw[etb,HDE.o.1,HDE.o.2]);clear etb
     go_upto_if 68 with fail
     go_cut [11] (λp wx=>∃(y:R3),p=D (p_ AK)/\Hd (y=Wh ss ts nm dd)/\Hd (wx.heap[AK]?=M (O #[F y.has,I y.code,S y.text] 198 (0,0)))/\Hd (Dc W0.heap.size (Cj h v) (Cj h v2) W wx)/\Hd (Gb W0.heap.size h (J sa ss.length c1) (J ta ts.length c2) n wx bv s2 st v2)/\Hd (wx.ownsRow W.heap.size 198 3 (J ra ys.length rc) ys.length (Ea ys))/\Hd (wx.ownsRow W.heap.size 201 3 (J la ls.length lc) ls.length (Pb ls))/\Hd (wx.heap[P]?=M (O #[F false,I 0,ze,F true,S nm,I q] 194 (0,0)))/\Hd (wx.heap[RR]?=M (O #[I dc,S dt,nS] 121 (0,0))))
     case first=>
      obtain⟨z0,z1,z2,zf⟩:=Dx HYB.o;cases tb
      ·go_wp2_with fail
       go_meet
       case rel=>exact⟨⟨false,0,⟨#[]⟩⟩,rfl,(by have:=HRP.o;show _=_;rw[this];rfl),Bp HYB.o _ _ _,gj.o.set3 hYw (Nat.le_trans yp hYw) _ _ _,HS.o.set3 ⟨_,HYB.o⟩ qd _ _ _,Xh HY.o HNY.o _ _ _,own_setT3 HL.o ⟨_,HYB.o⟩ qd _ _ _,Ql HT.o (Ne.symm hYne.1) _ _ _,Ql lj.o (Ne.symm hYne.2) _ _ _⟩
      ·go_wp2_with fail
       go_meet
       case rel=>exact⟨⟨true,dc,dt⟩,rfl,(by have:=HRP.o;show _=_;rw[this];rfl),HYB,gj,HS,HY,HL,HT,lj⟩
     case rest=>
      obtain⟨y,rfl,EY,HYX,sr,oe,HYR,HLX,pq,pa⟩:=hcut;have bp:W0.heap.size<=wc.heap.size:=Nat.le_trans yp sr.o.bel.size;have U3:W.heap.size<=wc.heap.size:=sr.o.bel.size;(have HRN:Hd (Gj is (ys++[y]) (ls++[⟨nm,true,Bj dc dt⟩])):=by show Gj _ _ _;rw[EY.o];exact HRN0.o);have HLN:=HLN0;(have HC7:Hd (400200*Dh ts ms st+bv.length<=ms.length+(ys++[y]).length+400200*Dh ts bv st):=by have:=HC20.o;show _<=_;rw[List.length_append,List.length_singleton];omega);(have HCN:Hd (∀lx s3 a,Ba ss ts n bv s2 st (.run is (ys++[y]) (ls++[⟨nm,true,Bj dc dt⟩])) lx s3 a->Ba ss ts n ms s st (.run is [] []) lx s3 a):=by show ∀lx s3 a,_;rw[EY.o];exact HCON0.o);clear HY HL HT lj HS gj HYB HRN0 HCON0 HC20 EY wt;have lj:=pa;obtain⟨k0,k1,k2⟩:=Bb HYX.o;obtain⟨yh,yc,yt,ey⟩:∃a b c,y=⟨a,b,c⟩:=⟨_,_,_,rfl⟩;subst ey;dsimp only at k0 k1 k2
      go_wp2_with (first|(at_builtin;refine wpList_append_own _ rfl (.tmp 70) (.tmp 72) 192 rfl W.heap.size 198 i0 (G #[F false,I 0,ze]) 3 32 underlying192 E5 bo J2 J1 rfl qd _ _ _ rfl (HYR.o.alloc _) ⟨wc.heap.size,0,N⟩ 1 1 [F yh,I yc,S yt] rfl rfl (Pg _ _ _ _ _) (by intro u hu;simp at hu;rcases hu with rfl|rfl|rfl<;>rfl) qm qb qh ?_;intro v4 w4 ph ff hnil4))
      clear k0 k1 k2
      obtain⟨g4,B8,rfl⟩:∃g cp,v4=J (p_ g) (ys.length+1) cp:=by
       exact qmq
      have co:Bw wc (wc.alloc (O #[F yh,I yc,S yt] 198)):=aN _ _;have Y5:=Ac HYR.o co;(have F6:Hd (w4.ownsRow W.heap.size 198 3 (J (p_ g4) (ys++[(⟨yh,yc,yt⟩:R3)]).length B8) (ys++[(⟨yh,yc,yt⟩:R3)]).length (Ea (ys++[(⟨yh,yc,yt⟩:R3)]))):=by show World.ownsRow _ _ _ _ _ _ _;rw[List.length_append,List.length_singleton,Oo];exact ph);have ie:=Ad ((oe.o.bl co).gr Y5 ff qd);have A7:=Ad ((sr.o.trans (Dc.of_below co bp)).gr ff yp (λb q=>(Y5.lt b q).1));have vk:=Ad (Oz (Ac HLX.o co) ff (apart (Ac HLX.o co) Y5 qd));have wn:=Ad (Bx (Af pq.o co) ff (Ae Y5 qd (Af pq.o co)));have mx:=Ad (Bx (Af lj.o co) ff (Ae Y5 qd (Af lj.o co)));have jn:W0.heap.size<=w4.heap.size:=Nat.le_trans yp A7.o.bel.size;have U4:W.heap.size<=w4.heap.size:=A7.o.bel.size;clear co Y5 ph ff hnil4;go_wp2_with fail;refine Lt.begin 8 (λw'=>w'.heap[P]?=M (O #[F false,I 0,ze,F true,S nm,I q] 194 (0,0))/\w'.heap[RR]?=M (O #[I dc,S dt,nS] 121 (0,0))) qi ?_;obtain⟨wD,eD⟩:=Aj w4.drew;rw[eD];have dj:Bw w4 wD:=qab;clear eD;replace ie:=Ad (ie.o.bl dj);replace F6:=Ad (Ac F6.o dj);replace vk:=Ad (Ac vk.o dj);replace wn:=Ad (Af wn.o dj);replace A7:=Ad (A7.o.trans (Dc.of_below dj jn));replace mx:=Ad (Af mx.o dj);replace jn:W0.heap.size<=wD.heap.size:=Nat.le_trans jn dj.size;replace U4:W.heap.size<=wD.heap.size:=Nat.le_trans U4 dj.size;have ia:(λw'=>w'.heap[P]?=M (O #[F false,I 0,ze,F true,S nm,I q] 194 (0,0))/\w'.heap[RR]?=M (O #[I dc,S dt,nS] 121 (0,0))) wD:=⟨wn.o,mx.o⟩;change K 0 _
      iterate 4
       refine Lt.ti (v:=?_) ia ?_ ?_;rotate_left 1
       ·exact qkm
       simp only[gX]
      refine Lt.sp (i:=4) (λK hK=>?_);go_simp;refine(HFO.o _).mono ?_;rintro e wF ⟨rfl,tg⟩;replace ie:=Ad (ie.o.bl tg);replace F6:=Ad (Ac F6.o tg);replace vk:=Ad (Ac vk.o tg);replace wn:=Ad (Af wn.o tg);replace A7:=Ad (A7.o.trans (Dc.of_below tg jn));replace mx:=Ad (Af mx.o tg);replace jn:W0.heap.size<=wF.heap.size:=Nat.le_trans jn tg.size;replace U4:W.heap.size<=wF.heap.size:=Nat.le_trans U4 tg.size;have wg:(λw'=>w'.heap[P]?=M (O #[F false,I 0,ze,F true,S nm,I q] 194 (0,0))/\w'.heap[RR]?=M (O #[I dc,S dt,nS] 121 (0,0))) wF:=⟨wn.o,mx.o⟩;refine hK.out _ _ (λ_=>wg) (λ_=>?_);clear hK K tg
      try simp only[gX]
      refine Lt.ti (i:=5) (v:=?_) wg ?_ ?_;rotate_left 1
      ·exact qkm
      simp only[gX];refine Lt.sp (i:=6) (λK hK=>?_);go_simp;refine Bq (Q:=λx=>K _ x) ?_;intro wL ib HLT
      try dsimp only
      obtain⟨dL,edL⟩:=Aj wF.heap.size;rw[edL]at HLT ⊢;replace ie:=Ad (ie.o.bl ib);replace F6:=Ad (Ac F6.o ib);replace vk:=Ad (Ac vk.o ib);replace wn:=Ad (Af wn.o ib);replace A7:=Ad (A7.o.trans (Dc.of_below ib jn));replace mx:=Ad (Af mx.o ib);replace U4:W.heap.size<=wL.heap.size:=Nat.le_trans U4 ib.size;have hS2:(λw'=>w'.heap[P]?=M (O #[F false,I 0,ze,F true,S nm,I q] 194 (0,0))/\w'.heap[RR]?=M (O #[I dc,S dt,nS] 121 (0,0))) wL:=⟨wn.o,mx.o⟩;refine hK.out _ _ (λ_=>hS2) (λ_=>?_);clear hK K ib
      try simp only[gX]
      refine Lt.sp (i:=7) (λK hK=>?_);refine Xd rfl qo W.heap.size _ ls.length (Pb ls) qo vk.o dL _ _ _ qo HLT.o qcx U4 qb ?_;intro g' ai w7 ah ae;have K7:=vk.o;have A1:=Ad (ie.o.gr K7 ae qd);have HF7:=Ad (A7.o.gr ae yp (λb q=>(K7.lt b q).1));have HY7:=Ad (Oz F6.o ae (apart F6.o K7 qd));have HT7:=Ad (Bx wn.o ae (Ae K7 qd wn.o));have HR7:=Ad (Bx mx.o ae (Ae K7 qd mx.o));(have HL7:Hd (w7.ownsRow W.heap.size 201 3 (J (p_ g') (ls++[(⟨nm,true,Bj dc dt⟩:G3)]).length ai) (ls++[(⟨nm,true,Bj dc dt⟩:G3)]).length (Pb (ls++[(⟨nm,true,Bj dc dt⟩:G3)]))):=by show World.ownsRow _ _ _ _ _ _ _;rw[List.length_append,List.length_singleton,gCx_snoc];exact ah);have H9:(λw'=>w'.heap[P]?=M (O #[F false,I 0,ze,F true,S nm,I q] 194 (0,0))/\w'.heap[RR]?=M (O #[I dc,S dt,nS] 121 (0,0))) w7:=⟨HT7.o,HR7.o⟩;refine hK.out _ _ (λ_=>H9) (λ_=>?_);clear hK K ae ah K7 ie A7 F6 vk wn;simp only[gX];refine Lt.sp (i:=8) (λK hK=>?_);go_simp;refine hK.out _ _ (λh=>absurd rfl h) (λ_=>?_);clear hK K;refine Lt.done qi ?_ _;go_wp2_with fail;go_roundw
      case rel=>exact⟨ys++[(⟨yh,yc,yt⟩:R3)],ls++[(⟨nm,true,Bj dc dt⟩:G3)],bv,s2,v2,p_ g4,p_ g',B8,ai,qh,qek,qek,HRN,HLN,HCN,I2,gg,HC7,A8,HY7,HL7,HF7,A1⟩
      case measure=>simp[lenV];omega
end Go.Proofs.YtoakjccojifagaaGreatDoor
