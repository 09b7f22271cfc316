import Derived.Test.YtnflkpmmfpfhlaaGreatDoorBvO
namespace Go.Proofs.YtnflkpmmfpfhlaaGreatDoor
open Value renaming slice->J,string->S,bool->F,agg->G,pointer->D,tuple->Y
open Option renaming some->M,none->N
open Obj renaming cells->O
open Go renaming Value->Z,World->E
open Ending renaming returned->H
open _root_ renaming List->L,Nat->X
set_option maxHeartbeats 8000000
set_option maxRecDepth 100000
open _root_.Go.Proofs.Tryz Go.RowKit Go.Deep
set_option linter.unusedVariables false
set_option linter.unusedSimpArgs false
variable {B n e sz AK:X} {w w':E} {u:Z} {xs:L Z}
def RunP5(B h:X)(sv tv:Z)(n:X)(ss:L S2)(ts:L T2)(ms:Mm)(s:Sb)(st:L By)(v:Hv)(is:L I3)(w:E)(e:Ending)(w':E):Prop:=
 ∃ms' s' a,Az ss ts n ms s st (.run is [] []) ms' s' a/\((∃d v' r,a=.ok d/\e=H (Y #[G #[I d.c,S d.t,nS],I r])/\0<=r/\Dn B (Cx h v) (Cx h v') w w'/\Gd B h sv tv n w' ms' s' st v'/\v'.u=[r.toNat])\/(∃b nv,a=.bad b/\e=H (Y #[G #[I 0,ze,nS],I (-1)])/\Dn B (Cx h v) (ownD h nv) w w'/\Gj B h st.length nv w' b))
theorem Gd.gr{h:X}{sv tv:Z}{ms:Mm}{s:Sb}{st:L By}{v:Hv}(k:Gd B h sv tv n w ms s st v){B' l:X}(ho:w.ownsRow B' e sz u l xs)(hg:w.grownBy w' u.ownBlock)(he:e≠63/\e≠9/\e≠67/\e≠73/\e≠174/\e≠115):Gd B h sv tv n w' ms s st v:=by
 obtain⟨a1,a2,a3,a4,a5,a6⟩:=he;obtain⟨xs,m1,m2⟩:=k.made;obtain⟨ys,cv,lv,r⟩:=k.rcs;have g:∀ {e' sz' l':X} {u':Z} {zs:L Z},w.ownsRow B e' sz' u' l' zs->e'≠e->w'.ownsRow B e' sz' u' l' zs:=λq hne=>Pk q hg (apart q ho hne);refine⟨k.hB,Bh k.blk hg (Ae ho (Ne.symm a1) k.blk),g k.txt (Ne.symm a2),⟨ys,cv,lv,g r.row (Ne.symm a4),r.fil,λi hi=>?_,λi hi=>?_,r.apc,r.apl⟩,⟨xs,g m1 (Ne.symm a3),m2⟩,g k.stk (Ne.symm a2),g k.ran (Ne.symm a2),g k.held (Ne.symm a2),k.txa,k.tk,k.kn,k.ne⟩
 ·obtain⟨ys,a,b⟩:=r.code i hi;exact⟨ys,g a (Ne.symm a5),b⟩
 ·obtain⟨ys,a,b⟩:=r.look i hi;exact⟨ys,g a (Ne.symm a6),b⟩
theorem Dn.gr{AM X':X->Prop}{w2:E}{row:Option X}(h:Dn B AM X' w w')(hg:w'.grownBy w2 row)(hB:B<=w.heap.size)(hr:∀b,row=M b->w.heap.size<=b):Dn B AM X' w w2:=by
 have hs:=h.bel.size;refine⟨h.bel.grown hg qg (λb q=>by have:=hr b q;omega),λb hb hx=>?_,h.new⟩;rw[hg.block b qg (λq=>by have:=hr b q.symm;omega)];exact h.keep b hb hx
theorem gCx_snoc(ls:L G3)(g:G3):Pv (ls++[g])=Pv ls++[S g.name,F g.ask,S g.sum]:=by
 induction ls with
 | nil=>rfl
 | cons a l ih=>simp[Pv,ih]
theorem Tryz.info172x:(prog.info? 194).map (λi=>(i.zero,i.size,i.bytes))=M (M (G #[ze,F false,ze]),3,40):=qk
theorem Tryz.info169x:(prog.info? 191).map (λi=>(i.zero,i.size,i.bytes))=M (M (G #[F false,I 0,ze]),3,32):=qk
theorem Ye{s x:Operand}{W:E}{ops:Array Oper}{o:Oper}{a:Act}{K:Act->E->Prop}{Q:Exit->Act->E->Prop}{AF:Prop}(uj:o.guard=N)(ho:o.op=.call { callee:=.builtin .append,args:=#[s,x],argTypes:=#[166,166] })(B:X)(v:Z)(nn:X)(xs:L Z)(hs:a.eval s=v)(ah:W.ownsRow B 194 3 v nn xs)(d:X)(u0 u1 u2:Z)(hx:a.eval x=J (p_ d) 1 1)(hc:W.heap[d]?=M (O #[u0,u1,u2] 194 (0,0)))(h1:∀u∈[u0,u1,u2],u.oneCell'=true)(hB:B<=W.heap.size)(hn:nn<=10000)(h:∀g' aj w',w'.ownsRow B 194 3 (J (p_ g') (nn+1) aj) (nn+1) (xs++[u0,u1,u2])->W.grownBy w' v.ownBlock->K (a.put o.dst (J (p_ g') (nn+1) aj)) w'):if Region.wanted o (yielded ops a.tmps)=true then Oper.wp prog o a W K Q else AF:=by
 obtain⟨i0,hi,bq,bi,ci⟩:=info_parts Tryz.info172x
 refine step_append_lies (w:=W) uj s x 166 ho B 194 i0 (G #[ze,F false,ze]) 3 40 underlying166 hi bq bi ci rfl qh _ nn xs hs ah ⟨d,0,N⟩ 1 1 [u0,u1,u2] hx rfl
  (World.news_of_block (cs:=#[u0,u1,u2]) (t:=194) (fr:=(0,0)) hc) h1 qg qq qg hB W.heap.size rfl ?_
 exact qdx
theorem Yl(ho:w.ownsRow B e sz u n xs)(hY:∀b,u.ownBlock=M b->b≠AK)(x0 x1 x2:Z):(((w.setCell ⟨AK,0,N⟩ x0).setCell ⟨AK,1,N⟩ x1).setCell ⟨AK,2,N⟩ x2).ownsRow B e sz u n xs:=An ho λb q=>by
 rw[Dm _ ⟨AK,2,N⟩ _ b (hY b q),Dm _ ⟨AK,1,N⟩ _ b (hY b q),Dm _ ⟨AK,0,N⟩ _ b (hY b q)]
theorem Ha{T:X}(ho:w.ownsRow B e sz u n xs)(ht:Dl w AK T)(hne:T≠e)(x0 x1 x2:Z):(((w.setCell ⟨AK,0,N⟩ x0).setCell ⟨AK,1,N⟩ x1).setCell ⟨AK,2,N⟩ x2).ownsRow B e sz u n xs:=Yl ho (λb q k=>ht.ne ho hne (by rw[←k];exact q)) x0 x1 x2
theorem gCx_fil(ls:L G3):Bx ls ls.length (Pv ls):=λi hi=>gC_get ls i hi
theorem run5_any(W0:E)(h:X)(sa ta:Option Addr)(c1 c2 n:X)(ss:L S2)(ts:L T2)(hE:Jf W0 sa ta ss ts)(st:L By)(hM:Oj W0 h (J sa ss.length c1) (J ta ts.length c2) n ss ts st)(h1:1<=n)(h8:n<=8)(ms:Mm)(s:Sb)(v:Hv)(a:Option Addr)(ac:X)(is:L I3)(w:E)(hb:Bw W0 w)(hs:Gd W0.heap.size h (J sa ss.length c1) (J ta ts.length c2) n w ms s st v)(hu:v.u=[])(hi:Gs ss ts ms st)(fw:Fy n s)(d8:Ls W0.heap.size w a is)(hp:Av is=true)(hx:∀i,(ix is i).text.size<=9223372036854775807)(hph:ms.length+200<=400200*Dp ts ms st)(Q9:Pr ts ms s st):Calls prog 83 #[D (p_ h),G #[J a is.length ac]] w λe w'=>RunP5 W0.heap.size h (J sa ss.length c1) (J ta ts.length c2) n ss ts ms s st v is w e w':=by
 obtain⟨W,eW⟩:=Aj ((w.alloc (O #[J a is.length ac] 70)).alloc (O #[I 0,ze,nS] 65));have HW:Hd (Bw w W):=by show Below _ _ _;rw[←eW];exact(aN _ _).alloc qi _
 obtain⟨Q,eQ⟩:=Aj w.heap.size;have HP0:Hd (W.heap[Q]?=M (O #[J a is.length ac] 70 (0,0))):=qgw
 have jk:Hd (W.heap[Q+1]?=M (O #[I 0,ze,nS] 65 (0,0))):=by
  exact qjo
 obtain⟨W1,A1⟩:=Aj ((W.alloc (O #[] 191)).alloc (O #[] 194));have HW1:Hd (Bw W W1):=by show Below _ _ _;rw[←A1];exact(aN _ _).alloc qi _
 have HY0:Hd (W1.ownsRow W.heap.size 191 3 (J (p_ W.heap.size) 0 0) 0 (Ee [])):=by
  show World.ownsRow _ _ _ _ _ _ _;rw[←A1];exact(World.ownsRow_lit W #[] 0 (Nat.le_refl _) qq rfl).alloc _
 have HL0:Hd (W1.ownsRow W.heap.size 194 3 (J (p_ (W.heap.size+1)) 0 0) 0 (Pv [])):=by
  show World.ownsRow _ _ _ _ _ _ _;rw[←A1];have h:=World.ownsRow_lit (base:=W.heap.size) (e:=194) (size:=3) (W.alloc (O #[] 191)) #[] 0 qi qq rfl;rw[show(W.alloc (O #[] 191)).heap.size=W.heap.size+1 from qi]at h;exact h
 have HN:Hd (∀b,Q<=b->¬ Cx h v b):=λb hb=>hs.not qg;have gh:W0.heap.size<=w.heap.size:=hb.size;have O2:Hd (Dn W0.heap.size (Cx h v) (Cx h v) w W):=Dn.of_below HW.o gh;have yw:W0.heap.size<=W.heap.size:=Nat.le_trans gh HW.o.size;have HF1:Hd (Dn W0.heap.size (Cx h v) (Cx h v) W W1):=Dn.of_below HW1.o yw;have N6:=Ab ((hs.bl HW.o).bl HW1.o);have py:=Ab (hb.trans (HW.o.mono gh));have HCW:=Ab (d8.belowB (HW.o.mono gh));have HI0:=Ab hi;have tz:=Ab fw;have HM:=Ab hM;have HE:=Ab hE;have HPH:=Ab hph;have HCN0:=Ab Q9;have we:=Ab hp;have HIX:=Ab hx;have HRO0:Hd (Gq is [] []):=⟨hp,λi hi=>Wl,rfl⟩;have E8:=Ef hp;obtain⟨i0,zr,bq,Le,K9⟩:=info_parts Tryz.info169x;clear hs hb hi fw hM hE hph d8 hp hx Q9;go_enter func83,ntmps83;go_wp2_with fail
 try rw[eQ]
 clear eW A1
 go_loopw [6,7] (λvy vl wr=>∃(ys:L R3)(ls:L G3)(ms':Mm)(s':Sb)(v':Hv)(ra la:Option Addr)(rc lc:X),ys.length<=200/\vy=J ra ys.length rc/\vl=J la ls.length lc/\Hd (Gq is ys ls)/\Hd (Oq ls)/\Hd (∀ce s2 a,Az ss ts n ms' s' st (.run is ys ls) ce s2 a->Az ss ts n ms s st (.run is [] []) ce s2 a)/\Hd (Gs ss ts ms' st)/\Hd (Fy n s')/\Hd (400200*Dp ts ms st+ms'.length<=ms.length+ys.length+400200*Dp ts ms' st)/\Hd (Pr ts ms' s' st)/\Hd (wr.ownsRow W.heap.size 191 3 (J ra ys.length rc) ys.length (Ee ys))/\Hd (wr.ownsRow W.heap.size 194 3 (J la ls.length lc) ls.length (Pv ls))/\Hd (Dn W0.heap.size (Cx h v) (Cx h v') W wr)/\Hd (Gd W0.heap.size h (J sa ss.length c1) (J ta ts.length c2) n wr ms' s' st v')/\Hd (v'.u=[])) (λvy _ _=>200-lenV vy)
 case atStart=>exact⟨[],[],ms,s,v,p_ W.heap.size,p_ (W.heap.size+1),0,0,qi,rfl,rfl,HRO0,(λg hg=>by simp at hg:Oq []),(λ_ _ _ k=>k),HI0,tz,(by show _<=_;simp only[List.length_nil];omega:400200*Dp ts ms st+ms.length<=ms.length+([]:L R3).length+400200*Dp ts ms st),HCN0,HY0,HL0,HF1,N6,Ab hu⟩
 case round=>
  clear HY0 HL0 HF1 N6 HRO0 HI0 tz;obtain⟨ys,ls,ms',s',v',ra,la,rc,lc,hk,rfl,rfl,yz,Y4,gt,HI,HK,HC,ou,HY,HL,gi,HS,HU⟩:=hrel;have jl:=Ab (py.o.trans gi.o.bel);have bx:=jl.o.size;have W3:=gi.o.bel.size;have HP0r:=Ab (gi.o.blk HP0.o (HN.o _ (Nat.le_refl _)));have p0:=Jh HP0r.o;have HCr:=Ab (HCW.o.belowB gi.o.bel);go_wp2_with fail;clear p0;refine(Qae a ra ac rc is ys wr HCr.o.1 (rowR_of HY.o) qg HIX.o (rx_any yz.o.ok) we.o (reps_of (gs:=[]) yz.o.ok hk)).mono ?_;rintro e w2 ⟨af,rs,jb,rfl⟩;replace HS:=Ab (HS.o.bl af);replace HY:=Ab (Ad HY.o af);replace HL:=Ab (Ad HL.o af);replace gi:=Ab (gi.o.trans (Dn.of_below af bx));replace jl:=Ab (jl.o.trans (Below.mono af bx));replace HCr:=Ab (HCr.o.belowB (Below.mono af bx));replace bx:=Nat.le_trans bx af.size;replace W3:=Nat.le_trans W3 af.size;clear af HP0r
  cases rs with
  | over c t q=>
    obtain⟨ht2,In,hc5⟩:=yz.o.over jb;have HOV:Hd (∀s2,Ez n s' is ls c t s2 N->Az ss ts n ms s st (.run is [] []) ms' s2 (.ok ⟨c,t,ls⟩)):=λs2 k=>gt.o _ _ _ (.over jb k);have HOB:Hd (∀s2 b,Ez n s' is ls c t s2 (M b)->Az ss ts n ms s st (.run is [] []) ms' s2 (.bad b)):=λs2 b k=>gt.o _ _ _ (.overbad jb k);have hls2:ls.length<=200:=zo yz.o.eq;clear jb;unfold resT Bc;obtain⟨P,eP⟩:=Aj w2.heap.size;obtain⟨w3,e3⟩:=Aj (w2.alloc (O #[F true,I c,S t,F false,ze,I q] 187));have au:Bw w2 w3:=qei;have HT:=Ab (nW e3 eP);replace HS:=Ab (HS.o.bl au);replace HL:=Ab (Ad HL.o au);replace gi:=Ab (gi.o.trans (Dn.of_below au bx));replace HCr:=Ab (HCr.o.belowB (Below.mono au bx));replace bx:=Nat.le_trans bx au.size;clear au;have HP0r:=Ab (gi.o.blk HP0.o (HN.o _ (Nat.le_refl _)));have p0:=Jh HP0r.o;obtain⟨t0,t1,t2,t3,t4,t5⟩:=Hn HT.o;go_wp2_with fail;clear e3 eP t0 t1 t2 t3 t4 t5 p0;refine(shopNote W0.heap.size h n _ _ ms' s' st v' a la ac lc is ls (Pv ls) c t w3 HS.o bx h1 h8 HK.o HCr.o we.o HIX.o (Ah HL.o yw) (gCx_fil ls) (HS.o.notT HL.o qh qh qh qh) hls2 Y4.o In hc5 ht2 (by have a1:=ou.o;have a2:=Pz ts ms' st;have a3:=HE.o.l2;unfold Pr at a1;omega)).mono ?_;rintro e w4 (⟨s2,v2,r,Z9,rfl,yn,cm,dp,yk⟩|⟨s2,bb,nb,Z9,rfl,cm,tg⟩)
    ·have jr:=Ab (HOV.o _ Z9)
     have fj:=Ab (gi.o.trans cm);have ct:=Ab dp;have mz:=Ab (fj.o.blk jk.o (HN.o _ qg));clear Z9 cm dp;obtain⟨z0,z1,z2,zf⟩:=Ci mz.o;go_wp2_with fail;obtain⟨y0,y1,y2,_⟩:=Ci (Ba mz.o (I c) (S t) nS);exact bR (v:=Y #[G #[I c,S t,nS],I r]) (by simp[results,results83,go_sem,y0,y1,y2]) rfl ⟨_,_,_,jr.o,Or.inl ⟨⟨c,t,ls⟩,v2,r,rfl,rfl,yn,(O2.o.trans fj.o).set3 qg qg _ _ _,ct.o.set3 ⟨_,mz.o⟩ qh _ _ _,by rw[yk,HU.o];rfl⟩⟩
    ·have jr:=Ab (HOB.o _ _ Z9)
     have fj:=Ab (gi.o.trans cm);have wt:=Ab tg;have mz:=Ab (fj.o.blk jk.o (HN.o _ qg));clear Z9 cm tg;exact qiq
  | wait ask nm q=>
    obtain⟨ai,cz⟩:=yz.o.wait jb;have pn:=Ab cz;have HLE:=Ab yz.o.eq;have M2:ls.length<200:=zo HLE.o;have Y5:Hd (ask=false->∀ce s2 a,Az ss ts n ms' s' st (.run is (ys++[⟨Cj ss ts nm,0,⟨#[]⟩⟩]) (ls++[⟨nm,false,Cz (Cj ss ts nm)⟩])) ce s2 a->Az ss ts n ms s st (.run is [] []) ce s2 a):=λq ce s2 a k=>gt.o _ _ _ (.has (by rw[q]at jb;exact jb) k);have Y8:Hd (ask=true->∀ms1 s1 d,Az ss ts n ms' s' st (.make nm) ms1 s1 (.ok d)->∀ce s2 a,Az ss ts n ms1 s1 st (.run is (ys++[Xf ss ts nm d]) (ls++[⟨nm,true,Bp d.c d.t⟩])) ce s2 a->Az ss ts n ms s st (.run is [] []) ce s2 a):=λq ms1 s1 d k1 ce s2 a k=>gt.o _ _ _ (.asked (by rw[q]at jb;exact jb) k1 k);have HABD:Hd (ask=true->∀ms1 s1 b,Az ss ts n ms' s' st (.make nm) ms1 s1 (.bad b)->Az ss ts n ms s st (.run is [] []) ms1 s1 (.bad b)):=λq ms1 s1 b k=>gt.o _ _ _ (.askbad (by rw[q]at jb;exact jb) k);clear jb cz gt;unfold resT Bc;obtain⟨P,eP⟩:=Aj w2.heap.size;obtain⟨w3,e3⟩:=Aj (w2.alloc (O #[F false,I 0,ze,F ask,S nm,I q] 187));have au:Bw w2 w3:=qei;have HT:=Ab (nW e3 eP);have HNP:Hd (¬ Cx h v' P):=HS.o.not qg;replace HS:=Ab (HS.o.bl au);replace HY:=Ab (Ad HY.o au);replace HL:=Ab (Ad HL.o au);replace gi:=Ab (gi.o.trans (Dn.of_below au bx));replace jl:=Ab (jl.o.trans (Below.mono au bx));replace HCr:=Ab (HCr.o.belowB (Below.mono au bx));replace bx:=Nat.le_trans bx au.size;replace W3:=Nat.le_trans W3 au.size;clear au;obtain⟨t0,t1,t2,t3,t4,t5⟩:=Hn HT.o
    have HHA:Hd (∀V,Bw w3 V->Calls prog 112 #[D (p_ h),S nm] V λe w'=>Bw V w'/\e=H (F (Cj ss ts nm))):=λV hV=>by
     exact qjj
    cases ask
    ·go_wp2_with fail
     clear e3 eP t0 t1 t2 t3 t4 t5;refine(HHA.o w3 (Below.refl _ _)).mono ?_;rintro e w5 ⟨co,rfl⟩;replace HT:=Ab (Af HT.o co);replace HS:=Ab (HS.o.bl co);replace HY:=Ab (Ad HY.o co);replace HL:=Ab (Ad HL.o co);replace gi:=Ab (gi.o.trans (Dn.of_below co bx));replace bx:=Nat.le_trans bx co.size;replace W3:=Nat.le_trans W3 co.size;clear co;obtain⟨tb,etb⟩:=Aj (Cj ss ts nm);rw[etb];rw[etb]at Y5;clear etb
     go_wp2_with (first|(at_builtin;refine wpList_append_own _ rfl (.tmp 37) (.tmp 40) 185 rfl W.heap.size 191 i0 (G #[F false,I 0,ze]) 3 32 underlying185 zr bq Le K9 rfl qh _ _ _ rfl (HY.o.alloc _) ⟨w5.heap.size,0,N⟩ 1 1 [F tb,I 0,ze] rfl rfl (Ps _ _ _ _ _) (by intro u hu;simp at hu;rcases hu with rfl|rfl|rfl<;>rfl) qq qg qj ?_;intro v4 w4 pq fe hnil4))
     have HRN:Hd (Gq is (ys++[⟨tb,0,⟨#[]⟩⟩]) (ls++[⟨nm,false,Cz tb⟩])):=yz.o.has _ _;have HLN:Hd (Oq (ls++[⟨nm,false,Cz tb⟩])):=Y4.o.snoc pn.o (Ig tb);have HC7:Hd (400200*Dp ts ms st+ms'.length<=ms.length+(ys++[(⟨tb,0,⟨#[]⟩⟩:R3)]).length+400200*Dp ts ms' st):=by have:=HC.o;show _<=_;rw[List.length_append,List.length_singleton];omega
     obtain⟨g4,F8,rfl⟩:∃g cp,v4=J (p_ g) (ys.length+1) cp:=by
      exact qnf
     have cq:Bw w5 (w5.alloc (O #[F tb,I 0,ze] 191)):=aN _ _;have hYA:=Ad HY.o cq;(have F9:Hd (w4.ownsRow W.heap.size 191 3 (J (p_ g4) (ys++[(⟨tb,0,⟨#[]⟩⟩:R3)]).length F8) (ys++[(⟨tb,0,⟨#[]⟩⟩:R3)]).length (Ee (ys++[(⟨tb,0,⟨#[]⟩⟩:R3)]))):=by show World.ownsRow _ _ _ _ _ _ _;rw[List.length_append,List.length_singleton,Oz];exact pq);have gq:=Ab ((HS.o.bl cq).gr hYA fe qh);have B3:=Ab ((gi.o.trans (Dn.of_below cq bx)).gr fe yw (λb q=>(hYA.lt b q).1));have wi:=Ab (Pk (Ad HL.o cq) fe (apart (Ad HL.o cq) hYA qh));have tm:=Ab (Bh (Af HT.o cq) fe (Ae hYA qh (Af HT.o cq)));have jj:=Nat.le_trans yw B3.o.bel.size;have W4:=B3.o.bel.size;clear cq hYA pq fe hnil4;go_wp2_with fail;refine Lt.begin 8 (λw'=>w'.heap[P]?=M (O #[F false,I 0,ze,F false,S nm,I q] 187 (0,0))) qk ?_;obtain⟨wD,eD⟩:=Aj w4.drew;rw[eD];have dr:Bw w4 wD:=qaf;clear eD;replace gq:=Ab (gq.o.bl dr);replace F9:=Ab (Ad F9.o dr);replace wi:=Ab (Ad wi.o dr);replace tm:=Ab (Af tm.o dr);replace B3:=Ab (B3.o.trans (Dn.of_below dr jj));replace jj:=Nat.le_trans jj dr.size;replace W4:=Nat.le_trans W4 dr.size;have gz:=tm.o;change K 0 _
     iterate 4
      refine Lt.ti (v:=?_) gz ?_ ?_;rotate_left 1
      ·exact qmo
      simp only[gX]
     refine Lt.sp (i:=4) (λK hK=>?_);go_simp;refine(Lx tb _).mono ?_;rintro e wF ⟨rfl,rfl⟩;refine hK.out _ _ (λ_=>gz) (λ_=>?_);clear hK K 
     try simp only[gX]
     refine Lt.ti (i:=5) (v:=?_) gz ?_ ?_;rotate_left 1
     ·exact qmo
     simp only[gX];refine Lt.sp (i:=6) (λK hK=>?_);go_simp;refine Cb (Q:=λx=>K _ x) ?_;intro wL ie HLT
     try dsimp only
     obtain⟨dL,edL⟩:=Aj wD.heap.size;rw[edL]at HLT ⊢;replace gq:=Ab (gq.o.bl ie);replace F9:=Ab (Ad F9.o ie);replace wi:=Ab (Ad wi.o ie);replace tm:=Ab (Af tm.o ie);replace B3:=Ab (B3.o.trans (Dn.of_below ie jj));replace W4:=Nat.le_trans W4 ie.size;have xe:=tm.o;refine hK.out _ _ (λ_=>xe) (λ_=>?_);clear hK K ie
     try simp only[gX]
     refine Lt.sp (i:=7) (λK hK=>?_);refine Ye rfl qt W.heap.size _ ls.length (Pv ls) qt wi.o dL _ _ _ qt HLT.o qcz W4 qg ?_;intro g' aj w7 ah ae;have M1:=wi.o;have my:=Ab (gq.o.gr M1 ae qh);have HF7:=Ab (B3.o.gr ae yw (λb q=>(M1.lt b q).1));have HY7:=Ab (Pk F9.o ae (apart F9.o M1 qh));have HT7:=Ab (Bh tm.o ae (Ae M1 qh tm.o));(have O0:Hd (w7.ownsRow W.heap.size 194 3 (J (p_ g') (ls++[(⟨nm,false,Cz tb⟩:G3)]).length aj) (ls++[(⟨nm,false,Cz tb⟩:G3)]).length (Pv (ls++[(⟨nm,false,Cz tb⟩:G3)]))):=by show World.ownsRow _ _ _ _ _ _ _;rw[List.length_append,List.length_singleton,gCx_snoc];exact ah);have I1:=HT7.o;refine hK.out _ _ (λ_=>I1) (λ_=>?_);clear hK K ae ah M1 gq B3 F9 wi tm;simp only[gX];refine Lt.sp (i:=8) (λK hK=>?_);go_simp;refine hK.out _ _ (λh=>absurd rfl h) (λ_=>?_);clear hK K;refine Lt.done qk ?_ _;go_wp2_with fail;go_roundw
     case rel=>exact⟨ys++[(⟨tb,0,⟨#[]⟩⟩:R3)],ls++[(⟨nm,false,Cz tb⟩:G3)],ms',s',v',p_ g4,p_ g',F8,aj,qj,qek,qek,HRN,HLN,Y5.o qaj,HI,HK,HC7,ou,HY7,O0,HF7,my,HU⟩
     case measure=>simp[lenV];omega
    ·go_wp2_with fail
     clear e3 eP t0 t1 t2 t3 t4 t5;refine(HM.o ms' s' v' nm w3 jl.o HS.o HU.o HI.o HK.o pn.o (by have:=HC.o;have:=HPH.o;omega) ou.o).mono ?_;rintro e w5 ⟨ce,s2,a2,bv,⟨dd,v2,rfl,rfl,cm,dp,yk⟩|⟨bb,nb,rfl,rfl,cm,tg⟩⟩;rotate_left 1
     ·have jr:=Ab (HABD.o qaj _ _ _ bv)
      have fj:=Ab (gi.o.trans cm);have wt:=Ab tg;have C7:=Nat.le_trans bx cm.bel.size;clear bv cm tg
      go_upto_region 11 with fail
      obtain⟨w6,e6⟩:=Aj (w5.alloc (O #[I (Hx bb),ze,nS] 65));have bj:Bw w5 w6:=qbb;rw[e6];clear e6;replace fj:=Ab (fj.o.trans (Dn.of_below bj C7));replace wt:=Ab (wt.o.frx bj);have mz:=Ab (fj.o.blk jk.o (HN.o _ qg));clear bj;obtain⟨k9,_,_⟩:=wt.o.cells;exact qiq
     obtain⟨i1,i2,i3,i4⟩:=Az.inv HE.o.v bv HI.o HK.o pn.o (λb q=>qz);have xz:=Az.cost HE.o.v bv HI.o HK.o pn.o (λb q=>qz);have B4:=Ab (Az.cntM HE.o.v bv HI.o HK.o pn.o (λb q=>qz) rfl ou.o);have Q6:=i1.done _ _ i4;have HMD:=Ab Q6;have J0:=Ab i1;have ft:=Ab i2;have HRN0:=Ab (yz.o.asked Q6 (⟨nm,true,Bp dd.c dd.t⟩:G3));have HLN0:Hd (Oq (ls++[⟨nm,true,Bp dd.c dd.t⟩])):=Y4.o.snoc pn.o (Dx Q6.t2);have HCON0:=Ab (Y8.o qaj _ _ _ bv);(have HC20:Hd (400200*Dp ts ms st+ce.length<=ms.length+(ys.length+1)+400200*Dp ts ce st):=by have:=HC.o;show _<=_;simp only[Pq]at xz;omega);replace HY:=Ab (cm.own HY.o (HS.o.notT HY.o qh qh qh qh));replace HL:=Ab (cm.own HL.o (HS.o.notT HL.o qh qh qh qh));replace HT:=Ab (cm.blk HT.o HNP.o);replace gi:=Ab (gi.o.trans cm);replace jl:=Ab (jl.o.trans cm.bel);replace HS:=Ab dp;have Ge:=Ab yk;clear yk;replace bx:W0.heap.size<=w5.heap.size:=Nat.le_trans bx cm.bel.size;replace W3:W.heap.size<=w5.heap.size:=Nat.le_trans W3 cm.bel.size;clear bv cm dp i1 i2 i3 i4 xz Q6 HHA Y8 HABD Y5 yz HC HCr
     have HHA:Hd (∀V,Bw w5 V->Calls prog 112 #[D (p_ h),S nm] V λe w'=>Bw V w'/\e=H (F (Cj ss ts nm))):=λV hV=>by
      exact qjj
     obtain⟨dc,edc⟩:=Aj dd.c;obtain⟨dt,edt⟩:=Aj dd.t;rw[edc,edt]at HLN0 HRN0 HCON0;rw[edc,edt];have HFO:Hd (∀V:E,Calls prog 114 #[G #[I dc,S dt,nS]] V λe w'=>e=H (S (Bp dc dt))/\Bw V w'):=λV=>Nf dc dt V (by rw[←edc];exact HMD.o.c0) (by rw[←edc];exact HMD.o.c5) qhs;have HDE:=Ab (And.intro edc edt);clear edc edt
     go_upto_region 11 with fail
     obtain⟨RR,eRR⟩:=Aj w5.heap.size;obtain⟨w6,e6⟩:=Aj (w5.alloc (O #[I dc,S dt,nS] 65));have bj:Bw w5 w6:=qbb;have lm:Hd (w6.heap[RR]?=M (O #[I dc,S dt,nS] 65 (0,0))):=qcu;rw[e6]
     try rw[eRR]
     clear e6;replace HS:=Ab (HS.o.bl bj);replace HY:=Ab (Ad HY.o bj);replace HL:=Ab (Ad HL.o bj);replace gi:=Ab (gi.o.trans (Dn.of_below bj bx));replace jl:=Ab (jl.o.trans (Below.mono bj bx));replace HT:=Ab (Af HT.o bj);replace bx:=Nat.le_trans bx bj.size;replace W3:=Nat.le_trans W3 bj.size;have HB56:=Ab bj;clear bj;have k9:=cK HS.o.blk 9;obtain⟨x0,x1,x2⟩:=Bb lm.o;obtain⟨t0,t1,t2,t3,t4,t5⟩:=Hn HT.o
     go_upto_region 14 with fail
     clear k9 x0 x1 x2 t0 t1 t2 t3 t4 t5;obtain⟨AK,eY⟩:=Aj w6.heap.size;obtain⟨w7,e7⟩:=Aj (w6.alloc (O #[F true,I dc,S dt] 191));have bo:=aB e7;have HYB:=Ab (nW e7 eY);rw[e7]
     try rw[eY]
     clear e7;have hYw:W.heap.size<=AK:=qg;(have HNY:Hd (∀b,(Value.slice ra ys.length rc).ownBlock=M b->b≠AK):=λb q k=>by have:=(HY.o.lt b q).2;omega);have hYne:AK≠P/\AK≠RR:=⟨λq=>by have:=Ag HT.o;omega,λq=>by have:=Ag lm.o;omega⟩;replace HS:=Ab (HS.o.bl bo);replace HY:=Ab (Ad HY.o bo);replace HL:=Ab (Ad HL.o bo);replace gi:=Ab (gi.o.trans (Dn.of_below bo bx));replace jl:=Ab (jl.o.trans (Below.mono bo bx));replace HT:=Ab (Af HT.o bo);replace lm:=Ab (Af lm.o bo);replace bx:=Nat.le_trans bx bo.size;replace W3:=Nat.le_trans W3 bo.size;have HB57:=Ab (bt HB56.o bo);clear bo;obtain⟨t0,t1,t2,t3,t4,t5⟩:=Hn HT.o;go_wp2_with fail;clear t0 t1 t2 t3 t4 t5;refine(HHA.o w7 HB57.o).mono ?_;rintro e w8 ⟨mn,rfl⟩;replace HS:=Ab (HS.o.bl mn);replace HY:=Ab (Ad HY.o mn);replace HL:=Ab (Ad HL.o mn);replace gi:=Ab (gi.o.trans (Dn.of_below mn bx));replace jl:=Ab (jl.o.trans (Below.mono mn bx));replace HT:=Ab (Af HT.o mn);replace lm:=Ab (Af lm.o mn);replace HYB:=Ab (Af HYB.o mn);clear mn HB56 HB57 HHA;obtain⟨tb,etb⟩:=Aj (Cj ss ts nm);rw[etb];(have I5:Hd (Xf ss ts nm dd=if tb=true then ⟨true,dc,dt⟩ else ⟨false,0,⟨#[]⟩⟩):=by show _=_;unfold Xf;rw[etb,HDE.o.1,HDE.o.2]);clear etb
     go_upto_if 68 with fail
     go_cut [11] (λp wx=>∃(y:R3),p=D (p_ AK)/\Hd (y=Xf ss ts nm dd)/\Hd (wx.heap[AK]?=M (O #[F y.has,I y.code,S y.text] 191 (0,0)))/\Hd (Dn W0.heap.size (Cx h v) (Cx h v2) W wx)/\Hd (Gd W0.heap.size h (J sa ss.length c1) (J ta ts.length c2) n wx ce s2 st v2)/\Hd (wx.ownsRow W.heap.size 191 3 (J ra ys.length rc) ys.length (Ee ys))/\Hd (wx.ownsRow W.heap.size 194 3 (J la ls.length lc) ls.length (Pv ls))/\Hd (wx.heap[P]?=M (O #[F false,I 0,ze,F true,S nm,I q] 187 (0,0)))/\Hd (wx.heap[RR]?=M (O #[I dc,S dt,nS] 65 (0,0))))
     case first=>
      obtain⟨z0,z1,z2,zf⟩:=Ci HYB.o;cases tb
      ·go_wp2_with fail
       go_meet
       case rel=>exact⟨⟨false,0,⟨#[]⟩⟩,rfl,(by have:=I5.o;show _=_;rw[this];rfl),Ba HYB.o _ _ _,gi.o.set3 hYw (Nat.le_trans yw hYw) _ _ _,HS.o.set3 ⟨_,HYB.o⟩ qh _ _ _,Yl HY.o HNY.o _ _ _,Ha HL.o ⟨_,HYB.o⟩ qh _ _ _,Qz HT.o (Ne.symm hYne.1) _ _ _,Qz lm.o (Ne.symm hYne.2) _ _ _⟩
      ·go_wp2_with fail
       go_meet
       case rel=>exact⟨⟨true,dc,dt⟩,rfl,(by have:=I5.o;show _=_;rw[this];rfl),HYB,gi,HS,HY,HL,HT,lm⟩
     case rest=>
      obtain⟨y,rfl,EY,HYX,t7,ol,HYR,HLX,l7,mz⟩:=hcut;have bx:=Nat.le_trans yw t7.o.bel.size;have W3:=t7.o.bel.size;(have HRN:Hd (Gq is (ys++[y]) (ls++[⟨nm,true,Bp dc dt⟩])):=by show Gq _ _ _;rw[EY.o];exact HRN0.o);have HLN:=HLN0;(have HC7:Hd (400200*Dp ts ms st+ce.length<=ms.length+(ys++[y]).length+400200*Dp ts ce st):=by have:=HC20.o;show _<=_;rw[List.length_append,List.length_singleton];omega);(have HCN:Hd (∀l5 s3 a,Az ss ts n ce s2 st (.run is (ys++[y]) (ls++[⟨nm,true,Bp dc dt⟩])) l5 s3 a->Az ss ts n ms s st (.run is [] []) l5 s3 a):=by show ∀l5 s3 a,_;rw[EY.o];exact HCON0.o);clear HY HL HT lm HS gi HYB HRN0 HCON0 HC20 EY jl;have lm:=mz;obtain⟨k0,k1,k2⟩:=Bb HYX.o;obtain⟨yh,yc,yt,ey⟩:∃a b c,y=⟨a,b,c⟩:=⟨_,_,_,rfl⟩;subst ey;dsimp only at k0 k1 k2
      go_wp2_with (first|(at_builtin;refine wpList_append_own _ rfl (.tmp 70) (.tmp 72) 185 rfl W.heap.size 191 i0 (G #[F false,I 0,ze]) 3 32 underlying185 zr bq Le K9 rfl qh _ _ _ rfl (HYR.o.alloc _) ⟨wc.heap.size,0,N⟩ 1 1 [F yh,I yc,S yt] rfl rfl (Ps _ _ _ _ _) (by intro u hu;simp at hu;rcases hu with rfl|rfl|rfl<;>rfl) qq qg qj ?_;intro v4 w4 pq fe hnil4))
      clear k0 k1 k2
      obtain⟨g4,F8,rfl⟩:∃g cp,v4=J (p_ g) (ys.length+1) cp:=by
       exact qnf
      have cq:Bw wc (wc.alloc (O #[F yh,I yc,S yt] 191)):=aN _ _;have hYA:=Ad HYR.o cq;(have F9:Hd (w4.ownsRow W.heap.size 191 3 (J (p_ g4) (ys++[(⟨yh,yc,yt⟩:R3)]).length F8) (ys++[(⟨yh,yc,yt⟩:R3)]).length (Ee (ys++[(⟨yh,yc,yt⟩:R3)]))):=by show World.ownsRow _ _ _ _ _ _ _;rw[List.length_append,List.length_singleton,Oz];exact pq);have gq:=Ab ((ol.o.bl cq).gr hYA fe qh);have B3:=Ab ((t7.o.trans (Dn.of_below cq bx)).gr fe yw (λb q=>(hYA.lt b q).1));have wi:=Ab (Pk (Ad HLX.o cq) fe (apart (Ad HLX.o cq) hYA qh));have tm:=Ab (Bh (Af l7.o cq) fe (Ae hYA qh (Af l7.o cq)));have lp:=Ab (Bh (Af lm.o cq) fe (Ae hYA qh (Af lm.o cq)));have jj:=Nat.le_trans yw B3.o.bel.size;have W4:=B3.o.bel.size;clear cq hYA pq fe hnil4;go_wp2_with fail;refine Lt.begin 8 (λw'=>w'.heap[P]?=M (O #[F false,I 0,ze,F true,S nm,I q] 187 (0,0))/\w'.heap[RR]?=M (O #[I dc,S dt,nS] 65 (0,0))) qk ?_;obtain⟨wD,eD⟩:=Aj w4.drew;rw[eD];have dr:Bw w4 wD:=qaf;clear eD;replace gq:=Ab (gq.o.bl dr);replace F9:=Ab (Ad F9.o dr);replace wi:=Ab (Ad wi.o dr);replace tm:=Ab (Af tm.o dr);replace B3:=Ab (B3.o.trans (Dn.of_below dr jj));replace lp:=Ab (Af lp.o dr);replace jj:=Nat.le_trans jj dr.size;replace W4:=Nat.le_trans W4 dr.size;have gz:(λw'=>w'.heap[P]?=M (O #[F false,I 0,ze,F true,S nm,I q] 187 (0,0))/\w'.heap[RR]?=M (O #[I dc,S dt,nS] 65 (0,0))) wD:=⟨tm.o,lp.o⟩;change K 0 _
      iterate 4
       refine Lt.ti (v:=?_) gz ?_ ?_;rotate_left 1
       ·exact qla
       simp only[gX]
      refine Lt.sp (i:=4) (λK hK=>?_);go_simp;refine(HFO.o _).mono ?_;rintro e wF ⟨rfl,R0⟩;replace gq:=Ab (gq.o.bl R0);replace F9:=Ab (Ad F9.o R0);replace wi:=Ab (Ad wi.o R0);replace tm:=Ab (Af tm.o R0);replace B3:=Ab (B3.o.trans (Dn.of_below R0 jj));replace lp:=Ab (Af lp.o R0);replace jj:=Nat.le_trans jj R0.size;replace W4:=Nat.le_trans W4 R0.size;have xe:(λw'=>w'.heap[P]?=M (O #[F false,I 0,ze,F true,S nm,I q] 187 (0,0))/\w'.heap[RR]?=M (O #[I dc,S dt,nS] 65 (0,0))) wF:=⟨tm.o,lp.o⟩;refine hK.out _ _ (λ_=>xe) (λ_=>?_);clear hK K R0
      try simp only[gX]
      refine Lt.ti (i:=5) (v:=?_) xe ?_ ?_;rotate_left 1
      ·exact qla
      simp only[gX];refine Lt.sp (i:=6) (λK hK=>?_);go_simp;refine Cb (Q:=λx=>K _ x) ?_;intro wL ie HLT
      try dsimp only
      obtain⟨dL,edL⟩:=Aj wF.heap.size;rw[edL]at HLT ⊢;replace gq:=Ab (gq.o.bl ie);replace F9:=Ab (Ad F9.o ie);replace wi:=Ab (Ad wi.o ie);replace tm:=Ab (Af tm.o ie);replace B3:=Ab (B3.o.trans (Dn.of_below ie jj));replace lp:=Ab (Af lp.o ie);replace W4:=Nat.le_trans W4 ie.size;have hS2:(λw'=>w'.heap[P]?=M (O #[F false,I 0,ze,F true,S nm,I q] 187 (0,0))/\w'.heap[RR]?=M (O #[I dc,S dt,nS] 65 (0,0))) wL:=⟨tm.o,lp.o⟩;refine hK.out _ _ (λ_=>hS2) (λ_=>?_);clear hK K ie
      try simp only[gX]
      refine Lt.sp (i:=7) (λK hK=>?_);refine Ye rfl qt W.heap.size _ ls.length (Pv ls) qt wi.o dL _ _ _ qt HLT.o qcz W4 qg ?_;intro g' aj w7 ah ae;have M1:=wi.o;have my:=Ab (gq.o.gr M1 ae qh);have HF7:=Ab (B3.o.gr ae yw (λb q=>(M1.lt b q).1));have HY7:=Ab (Pk F9.o ae (apart F9.o M1 qh));have HT7:=Ab (Bh tm.o ae (Ae M1 qh tm.o));have HR7:=Ab (Bh lp.o ae (Ae M1 qh lp.o));(have O0:Hd (w7.ownsRow W.heap.size 194 3 (J (p_ g') (ls++[(⟨nm,true,Bp dc dt⟩:G3)]).length aj) (ls++[(⟨nm,true,Bp dc dt⟩:G3)]).length (Pv (ls++[(⟨nm,true,Bp dc dt⟩:G3)]))):=by show World.ownsRow _ _ _ _ _ _ _;rw[List.length_append,List.length_singleton,gCx_snoc];exact ah);have I1:(λw'=>w'.heap[P]?=M (O #[F false,I 0,ze,F true,S nm,I q] 187 (0,0))/\w'.heap[RR]?=M (O #[I dc,S dt,nS] 65 (0,0))) w7:=⟨HT7.o,HR7.o⟩;refine hK.out _ _ (λ_=>I1) (λ_=>?_);clear hK K ae ah M1 gq B3 F9 wi tm;simp only[gX];refine Lt.sp (i:=8) (λK hK=>?_);go_simp;refine hK.out _ _ (λh=>absurd rfl h) (λ_=>?_);clear hK K;refine Lt.done qk ?_ _;go_wp2_with fail;go_roundw
      case rel=>exact⟨ys++[(⟨yh,yc,yt⟩:R3)],ls++[(⟨nm,true,Bp dc dt⟩:G3)],ce,s2,v2,p_ g4,p_ g',F8,aj,qj,qek,qek,HRN,HLN,HCN,J0,ft,HC7,B4,HY7,O0,HF7,my,Ge⟩
      case measure=>simp[lenV];omega
end Go.Proofs.YtnflkpmmfpfhlaaGreatDoor
