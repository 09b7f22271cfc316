import Derived.Test.YtoihflimijabjaaGreatDoorBaA
namespace Go.Proofs.YtoihflimijabjaaGreatDoor
open Value renaming slice->J,string->S,bool->F,agg->G,pointer->D,tuple->Y
open Option renaming some->M,none->N
open Obj renaming cells->O
open Go renaming Value->Z,World->E
open Ending renaming returned->H
open _root_ renaming List->L,Nat->X
set_option maxHeartbeats 8000000
set_option maxRecDepth 100000
open _root_.Go.Proofs.Tryz Go.RowKit Go.Deep
set_option linter.unusedVariables false
set_option linter.unusedSimpArgs false
variable {B n e sz AL:X} {w':E} {u:Z} {xs:L Z}
def RunP5(B h:X)(sv tv:Z)(n:X)(ss:L S2)(ts:L T2)(ms:Mm)(s:Sb)(st:L By)(v:Hv)(is:L I3)(w:E)(e:Ending)(w':E):Prop:=
 ∃ms' s' a,Ca ss ts n ms s st (.run is [] []) ms' s' a/\((∃d v' r,a=.ok d/\e=H (Y #[G #[I d.c,S d.t,nS],I r])/\0<=r/\Cp B (Bs h v) (Bs h v') w w'/\Fl B h sv tv n w' ms' s' st v')\/(∃b nv,a=.bad b/\e=H (Y #[G #[I 0,ze,nS],I (-1)])/\Cp B (Bs h v) (Vd h nv) w w'/\Fk B h st.length nv w' b))
theorem Fl.gr{h:X}{sv tv:Z}{w:E}{ms:Mm}{s:Sb}{st:L By}{v:Hv}(k:Fl B h sv tv n w ms s st v){B' l:X}(ho:w.ownsRow B' e sz u l xs)(hg:w.grownBy w' u.ownBlock)(he:e≠120/\e≠9/\e≠140/\e≠56/\e≠103/\e≠79):Fl B h sv tv n w' ms s st v:=by
 obtain⟨a1,a2,a3,a4,a5,a6⟩:=he;obtain⟨xs,m1,m2⟩:=k.made;obtain⟨ys,cv,lv,r⟩:=k.rcs;have g:∀ {e' sz' l':X} {u':Z} {zs:L Z},w.ownsRow B e' sz' u' l' zs->e'≠e->w'.ownsRow B e' sz' u' l' zs:=λq aq=>Ex q hg (apart q ho aq);refine⟨k.hB,Ao k.blk hg (Ah ho (Ne.symm a1) k.blk),g k.txt (Ne.symm a2),⟨ys,cv,lv,g r.row (Ne.symm a4),r.fil,λi hi=>?_,λi hi=>?_,r.apc,r.apl⟩,⟨xs,g m1 (Ne.symm a3),m2⟩,g k.stk (Ne.symm a2),g k.ran (Ne.symm a2),g k.held (Ne.symm a2),k.txa,k.tk,k.kn,k.ne⟩
 ·obtain⟨ys,a,b⟩:=r.code i hi;exact⟨ys,g a (Ne.symm a5),b⟩
 ·obtain⟨ys,a,b⟩:=r.look i hi;exact⟨ys,g a (Ne.symm a6),b⟩
theorem Cp.gr{AN X':X->Prop}{w w2:E}{row:Option X}(h:Cp B AN X' w w')(hg:w'.grownBy w2 row)(hB:B<=w.heap.size)(hr:∀b,row=M b->w.heap.size<=b):Cp B AN X' w w2:=by
 have hs:=h.bel.size;refine⟨h.bel.grown hg qg (λb q=>by have:=hr b q;omega),λb hb hx=>?_,h.new⟩;rw[hg.block b qg (λq=>by have:=hr b q.symm;omega)];exact h.keep b hb hx
theorem Xt(ls:L G3)(g:G3):Vv (ls++[g])=Vv ls++[S g.name,F g.ask,S g.sum]:=by
 induction ls with
 | nil=>rfl
 | cons a l ih=>simp[Vv,ih]
theorem Tryz.info172x:(prog.info? 160).map (λi=>(i.zero,i.size,i.bytes))=M (M (G #[ze,F false,ze]),3,40):=qk
theorem Tryz.info169x:(prog.info? 158).map (λi=>(i.zero,i.size,i.bytes))=M (M (G #[F false,I 0,ze]),3,32):=qk
theorem Tj{s x:Operand}{W:E}{ops:Array Oper}{o:Oper}{a:Act}{K:Act->E->Prop}{Q:Exit->Act->E->Prop}{AG:Prop}(mg:o.guard=N)(ho:o.op=.call { callee:=.builtin .append,args:=#[s,x],argTypes:=#[152,152] })(B:X)(v:Z)(nn:X)(xs:L Z)(hs:a.eval s=v)(ak:W.ownsRow B 160 3 v nn xs)(d:X)(u0 u1 u2:Z)(hx:a.eval x=J (p_ d) 1 1)(hc:W.heap[d]?=M (O #[u0,u1,u2] 160 (0,0)))(h1:∀u∈[u0,u1,u2],u.oneCell'=true)(hB:B<=W.heap.size)(hn:nn<=10000)(h:∀g' ai w',w'.ownsRow B 160 3 (J (p_ g') (nn+1) ai) (nn+1) (xs++[u0,u1,u2])->W.grownBy w' v.ownBlock->K (a.put o.dst (J (p_ g') (nn+1) ai)) w'):if Region.wanted o (yielded ops a.tmps)=true then Oper.wp prog o a W K Q else AG:=by
 obtain⟨i0,hi,bm,bg,bi⟩:=info_parts Tryz.info172x
 refine step_append_lies (w:=W) mg s x 152 ho B 160 i0 (G #[ze,F false,ze]) 3 40 underlying152 hi bm bg bi rfl qh _ nn xs hs ak ⟨d,0,N⟩ 1 1 [u0,u1,u2] hx rfl
  (World.news_of_block (cs:=#[u0,u1,u2]) (t:=160) (fr:=(0,0)) hc) h1 qg qn qg hB W.heap.size rfl ?_
 exact qca
theorem Tr{w:E}(ho:w.ownsRow B e sz u n xs)(hY:∀b,u.ownBlock=M b->b≠AL)(x0 x1 x2:Z):(((w.setCell ⟨AL,0,N⟩ x0).setCell ⟨AL,1,N⟩ x1).setCell ⟨AL,2,N⟩ x2).ownsRow B e sz u n xs:=Cc ho λb q=>by
 rw[hC _ ⟨AL,2,N⟩ _ b (hY b q),hC _ ⟨AL,1,N⟩ _ b (hY b q),hC _ ⟨AL,0,N⟩ _ b (hY b q)]
theorem Tq{w:E}{T:X}(ho:w.ownsRow B e sz u n xs)(ht:Ai w AL T)(aq:T≠e)(x0 x1 x2:Z):(((w.setCell ⟨AL,0,N⟩ x0).setCell ⟨AL,1,N⟩ x1).setCell ⟨AL,2,N⟩ x2).ownsRow B e sz u n xs:=Tr ho (λb q k=>ht.ne ho aq (by rw[←k];exact q)) x0 x1 x2
theorem gCx_fil(ls:L G3):Be ls ls.length (Vv ls):=λi hi=>gC_get ls i hi
theorem run5_any(W0:E)(h:X)(sa ta:Option Addr)(c1 c2 n:X)(ss:L S2)(ts:L T2)(hE:EnvS W0 sa ta ss ts)(st:L By)(hM:Ly W0 h (J sa ss.length c1) (J ta ts.length c2) n ss ts st)(h1:1<=n)(h8:n<=8)(ms:Mm)(s:Sb)(v:Hv)(a:Option Addr)(ac:X)(is:L I3)(w:E)(hb:Bw W0 w)(hs:Fl W0.heap.size h (J sa ss.length c1) (J ta ts.length c2) n w ms s st v)(hi:Fj ss ts ms st)(cm:Ka n s)(gn:Oh W0.heap.size w a is)(hp:Aq is=true)(hx:∀i,(ix is i).text.size<=9223372036854775807)(J4:ms.length+200<=400200*Hj ts ms st)(A5:Mb ts ms s st):Calls prog 97 #[D (p_ h),G #[J a is.length ac]] w λe w'=>RunP5 W0.heap.size h (J sa ss.length c1) (J ta ts.length c2) n ss ts ms s st v is w e w':=by
 obtain⟨W,eW⟩:=Aj ((w.alloc (O #[J a is.length ac] 53)).alloc (O #[I 0,ze,nS] 134));have HW:Hd (Bw w W):=by show Below _ _ _;rw[←eW];exact(aN _ _).alloc qi _
 obtain⟨Q,eQ⟩:=Aj w.heap.size;have HP0:Hd (W.heap[Q]?=M (O #[J a is.length ac] 53 (0,0))):=qff
 have yb:Hd (W.heap[Q+1]?=M (O #[I 0,ze,nS] 134 (0,0))):=by
  exact qin
 obtain⟨W1,E7⟩:=Aj ((W.alloc (O #[] 158)).alloc (O #[] 160));have W4:Hd (Bw W W1):=by show Below _ _ _;rw[←E7];exact(aN _ _).alloc qi _
 have HY0:Hd (W1.ownsRow W.heap.size 158 3 (J (p_ W.heap.size) 0 0) 0 (Dp [])):=by
  show World.ownsRow _ _ _ _ _ _ _;rw[←E7];exact(World.ownsRow_lit W #[] 0 (Nat.le_refl _) qn rfl).alloc _
 have HL0:Hd (W1.ownsRow W.heap.size 160 3 (J (p_ (W.heap.size+1)) 0 0) 0 (Vv [])):=by
  show World.ownsRow _ _ _ _ _ _ _;rw[←E7];have h:=World.ownsRow_lit (base:=W.heap.size) (e:=160) (size:=3) (W.alloc (O #[] 158)) #[] 0 qi qn rfl;rw[show(W.alloc (O #[] 158)).heap.size=W.heap.size+1 from qi]at h;exact h
 have HN:Hd (∀b,Q<=b->¬ Bs h v b):=λb hb=>hs.not qg;have aj:W0.heap.size<=w.heap.size:=hb.size;have ue:Hd (Cp W0.heap.size (Bs h v) (Bs h v) w W):=Cp.of_below HW.o aj;have uw:W0.heap.size<=W.heap.size:=Nat.le_trans aj HW.o.size;have HF1:Hd (Cp W0.heap.size (Bs h v) (Bs h v) W W1):=Cp.of_below W4.o uw;have Id:=Ad ((hs.bl HW.o).bl W4.o);have N7:=Ad (hb.trans (HW.o.mono aj));have HCW:=Ad (gn.belowB (HW.o.mono aj));have HI0:=Ad hi;have xh:=Ad cm;have HM:=Ad hM;have HE:=Ad hE;have HPH:=Ad J4;have N6:=Ad A5;have X5:=Ad hp;have HIX:=Ad hx;have HRO0:Hd (Ig is [] []):=⟨hp,λi hi=>Zk,rfl⟩;have A4:=Eo hp;have P9:Q+1<W.heap.size:=Bq yb.o;obtain⟨i0,O5,bm,yl,yk⟩:=info_parts Tryz.info169x;clear hs hb hi cm hM hE J4 gn hp hx A5;go_enter func97,ntmps97;go_wp2_with fail
 try rw[eQ]
 clear eW E7
 go_loopw [6,7] (λvy vl wr=>∃(ys:L R3)(ls:L G3)(ms':Mm)(s':Sb)(v':Hv)(ra la:Option Addr)(rc lc:X),ys.length<=200/\vy=J ra ys.length rc/\vl=J la ls.length lc/\Hd (Ig is ys ls)/\Hd (Qm ls)/\Hd (∀d7 s2 a,Ca ss ts n ms' s' st (.run is ys ls) d7 s2 a->Ca ss ts n ms s st (.run is [] []) d7 s2 a)/\Hd (Fj ss ts ms' st)/\Hd (Ka n s')/\Hd (400200*Hj ts ms st+ms'.length<=ms.length+ys.length+400200*Hj ts ms' st)/\Hd (Mb ts ms' s' st)/\Hd (wr.ownsRow W.heap.size 158 3 (J ra ys.length rc) ys.length (Dp ys))/\Hd (wr.ownsRow W.heap.size 160 3 (J la ls.length lc) ls.length (Vv ls))/\Hd (Cp W0.heap.size (Bs h v) (Bs h v') W wr)/\Hd (Fl W0.heap.size h (J sa ss.length c1) (J ta ts.length c2) n wr ms' s' st v')) (λvy _ _=>200-lenV vy)
 case atStart=>exact⟨[],[],ms,s,v,p_ W.heap.size,p_ (W.heap.size+1),0,0,qi,rfl,rfl,HRO0,(λg hg=>by simp at hg:Qm []),(λ_ _ _ k=>k),HI0,xh,(by show _<=_;simp only[List.length_nil];omega:400200*Hj ts ms st+ms.length<=ms.length+([]:L R3).length+400200*Hj ts ms st),N6,HY0,HL0,HF1,Id⟩
 case round=>
  clear HY0 HL0 HF1 Id HRO0 HI0 xh;obtain⟨ys,ls,ms',s',v',ra,la,rc,lc,hk,rfl,rfl,X3,In,fb,HI,HK,HC,ug,HY,HL,fk,HS⟩:=hrel;have n7:=Ad (N7.o.trans fk.o.bel);have bo:W0.heap.size<=wr.heap.size:=n7.o.size;have wj:W.heap.size<=wr.heap.size:=fk.o.bel.size;have X6:=Ad (fk.o.blk HP0.o (HN.o _ (Nat.le_refl _)));have p0:=Dx X6.o;have N3:=Ad (HCW.o.belowB fk.o.bel);go_wp2_with fail;clear p0;refine(Uu a ra ac rc is ys wr N3.o.1 (rowR_of HY.o) qg HIX.o (rx_any X3.o.ok) X5.o (reps_of (gs:=[]) X3.o.ok hk)).mono ?_;rintro e w2 ⟨a9,rs,od,rfl⟩;replace HS:=Ad (HS.o.bl a9);replace HY:=Ad (Ae HY.o a9);replace HL:=Ad (Ae HL.o a9);replace fk:=Ad (fk.o.trans (Cp.of_below a9 bo));replace n7:=Ad (n7.o.trans (Below.mono a9 bo));replace N3:=Ad (N3.o.belowB (Below.mono a9 bo));replace bo:W0.heap.size<=w2.heap.size:=Nat.le_trans bo a9.size;replace wj:W.heap.size<=w2.heap.size:=Nat.le_trans wj a9.size;clear a9 X6
  cases rs with
  | over c t q=>
    obtain⟨J0,si,hc5⟩:=X3.o.over od;have HOV:Hd (∀s2,Gv n s' is ls c t s2 N->Ca ss ts n ms s st (.run is [] []) ms' s2 (.ok ⟨c,t,ls⟩)):=λs2 k=>fb.o _ _ _ (.over od k);have If:Hd (∀s2 b,Gv n s' is ls c t s2 (M b)->Ca ss ts n ms s st (.run is [] []) ms' s2 (.bad b)):=λs2 b k=>fb.o _ _ _ (.overbad od k);have hls2:ls.length<=200:=zo X3.o.eq;clear od;unfold resT Pl;obtain⟨P,eP⟩:=Aj w2.heap.size;obtain⟨w3,e3⟩:=Aj (w2.alloc (O #[F true,I c,S t,F false,ze,I q] 154));have bh:Bw w2 w3:=qcn;have HT:=Ad (nW e3 eP);have ou:Hd (¬ Bs h v' P):=HS.o.not qg;replace HS:=Ad (HS.o.bl bh);replace HY:=Ad (Ae HY.o bh);replace HL:=Ad (Ae HL.o bh);replace fk:=Ad (fk.o.trans (Cp.of_below bh bo));replace n7:=Ad (n7.o.trans (Below.mono bh bo));replace N3:=Ad (N3.o.belowB (Below.mono bh bo));replace bo:W0.heap.size<=w3.heap.size:=Nat.le_trans bo bh.size;replace wj:W.heap.size<=w3.heap.size:=Nat.le_trans wj bh.size;clear bh;have X6:=Ad (fk.o.blk HP0.o (HN.o _ (Nat.le_refl _)));have p0:=Dx X6.o;obtain⟨t0,t1,t2,t3,t4,t5⟩:=Bx HT.o;go_wp2_with fail;clear e3 eP t0 t1 t2 t3 t4 t5 p0;refine(shopNote W0.heap.size h n _ _ ms' s' st v' a la ac lc is ls (Vv ls) c t w3 HS.o bo h1 h8 HK.o N3.o X5.o HIX.o (Al HL.o uw) (gCx_fil ls) (HS.o.notT HL.o qh qh qh qh) hls2 In.o si hc5 J0 (by have a1:=ug.o;have a2:=My ts ms' st;have a3:=HE.o.l2;unfold Mb at a1;omega)).mono ?_;rintro e w4 (⟨s2,v2,r,hna,rfl,hr0,cu,dx⟩|⟨s2,bb,nb,hna,rfl,cu,nj⟩)
    ·have jg:=Ad (HOV.o _ hna)
     have dp:=Ad (fk.o.trans cu);have fo:=Ad dx;have fj:=Ad (dp.o.blk yb.o (HN.o _ qg));clear hna cu dx;obtain⟨z0,z1,z2,zf⟩:=Jp fj.o;go_wp2_with fail;obtain⟨y0,y1,y2,_⟩:=Jp (Cx fj.o (I c) (S t) nS);exact bR (v:=Y #[G #[I c,S t,nS],I r]) (by simp[results,results97,go_sem,y0,y1,y2]) rfl ⟨_,_,_,jg.o,Or.inl ⟨⟨c,t,ls⟩,v2,r,rfl,rfl,hr0,(ue.o.trans dp.o).set3 qg qg _ _ _,fo.o.set3 ⟨_,fj.o⟩ qh _ _ _⟩⟩
    ·have jg:=Ad (If.o _ _ hna)
     have dp:=Ad (fk.o.trans cu);have ko:=Ad nj;have fj:=Ad (dp.o.blk yb.o (HN.o _ qg));clear hna cu nj;exact qhy
  | wait ask nm q=>
    obtain⟨au,iw⟩:=X3.o.wait od;have vi:=Ad iw;have HLE:=Ad X3.o.eq;have xq:ls.length<200:=zo HLE.o;have F8:Hd (ask=false->∀d7 s2 a,Ca ss ts n ms' s' st (.run is (ys++[⟨Du ss ts nm,0,⟨#[]⟩⟩]) (ls++[⟨nm,false,De (Du ss ts nm)⟩])) d7 s2 a->Ca ss ts n ms s st (.run is [] []) d7 s2 a):=λq d7 s2 a k=>fb.o _ _ _ (.has (by rw[q]at od;exact od) k);have Y4:Hd (ask=true->∀ms1 s1 d,Ca ss ts n ms' s' st (.make nm) ms1 s1 (.ok d)->∀d7 s2 a,Ca ss ts n ms1 s1 st (.run is (ys++[Wp ss ts nm d]) (ls++[⟨nm,true,Co d.c d.t⟩])) d7 s2 a->Ca ss ts n ms s st (.run is [] []) d7 s2 a):=λq ms1 s1 d k1 d7 s2 a k=>fb.o _ _ _ (.asked (by rw[q]at od;exact od) k1 k);have Y5:Hd (ask=true->∀ms1 s1 b,Ca ss ts n ms' s' st (.make nm) ms1 s1 (.bad b)->Ca ss ts n ms s st (.run is [] []) ms1 s1 (.bad b)):=λq ms1 s1 b k=>fb.o _ _ _ (.askbad (by rw[q]at od;exact od) k);clear od iw fb;unfold resT Pl;obtain⟨P,eP⟩:=Aj w2.heap.size;obtain⟨w3,e3⟩:=Aj (w2.alloc (O #[F false,I 0,ze,F ask,S nm,I q] 154));have bh:Bw w2 w3:=qcn;have HT:=Ad (nW e3 eP);have ou:Hd (¬ Bs h v' P):=HS.o.not qg;replace HS:=Ad (HS.o.bl bh);replace HY:=Ad (Ae HY.o bh);replace HL:=Ad (Ae HL.o bh);replace fk:=Ad (fk.o.trans (Cp.of_below bh bo));replace n7:=Ad (n7.o.trans (Below.mono bh bo));replace N3:=Ad (N3.o.belowB (Below.mono bh bo));replace bo:W0.heap.size<=w3.heap.size:=Nat.le_trans bo bh.size;replace wj:W.heap.size<=w3.heap.size:=Nat.le_trans wj bh.size;clear bh;obtain⟨t0,t1,t2,t3,t4,t5⟩:=Bx HT.o
    have HHA:Hd (∀V,Bw w3 V->Calls prog 105 #[D (p_ h),S nm] V λe w'=>Bw V w'/\e=H (F (Du ss ts nm))):=λV hV=>by
     exact qij
    cases ask
    ·go_wp2_with fail
     clear e3 eP t0 t1 t2 t3 t4 t5;refine(HHA.o w3 (Below.refl _ _)).mono ?_;rintro e w5 ⟨cw,rfl⟩;replace HT:=Ad (Ac HT.o cw);replace HS:=Ad (HS.o.bl cw);replace HY:=Ad (Ae HY.o cw);replace HL:=Ad (Ae HL.o cw);replace fk:=Ad (fk.o.trans (Cp.of_below cw bo));replace n7:=Ad (n7.o.trans (Below.mono cw bo));replace N3:=Ad (N3.o.belowB (Below.mono cw bo));replace bo:W0.heap.size<=w5.heap.size:=Nat.le_trans bo cw.size;replace wj:W.heap.size<=w5.heap.size:=Nat.le_trans wj cw.size;clear cw;obtain⟨tb,etb⟩:=Aj (Du ss ts nm);rw[etb];rw[etb]at F8;clear etb
     go_wp2_with (first|(at_builtin;refine wpList_append_own _ rfl (.tmp 37) (.tmp 40) 151 rfl W.heap.size 158 i0 (G #[F false,I 0,ze]) 3 32 underlying151 O5 bm yl yk rfl qh _ _ _ rfl (HY.o.alloc _) ⟨w5.heap.size,0,N⟩ 1 1 [F tb,I 0,ze] rfl rfl (Sf _ _ _ _ _) (by intro u hu;simp at hu;rcases hu with rfl|rfl|rfl<;>rfl) qn qg qj ?_;intro v4 w4 tq fy J5))
     have HRN:Hd (Ig is (ys++[⟨tb,0,⟨#[]⟩⟩]) (ls++[⟨nm,false,De tb⟩])):=X3.o.has _ _;have wz:Hd (Qm (ls++[⟨nm,false,De tb⟩])):=In.o.snoc vi.o (Et tb);have HC7:Hd (400200*Hj ts ms st+ms'.length<=ms.length+(ys++[(⟨tb,0,⟨#[]⟩⟩:R3)]).length+400200*Hj ts ms' st):=by have:=HC.o;show _<=_;rw[List.length_append,List.length_singleton];omega
     obtain⟨g4,cp4,rfl⟩:∃g cp,v4=J (p_ g) (ys.length+1) cp:=by
      exact qla
     have ce:Bw w5 (w5.alloc (O #[F tb,I 0,ze] 158)):=aN _ _;have H8:=Ae HY.o ce;(have wu:Hd (w4.ownsRow W.heap.size 158 3 (J (p_ g4) (ys++[(⟨tb,0,⟨#[]⟩⟩:R3)]).length cp4) (ys++[(⟨tb,0,⟨#[]⟩⟩:R3)]).length (Dp (ys++[(⟨tb,0,⟨#[]⟩⟩:R3)]))):=by show World.ownsRow _ _ _ _ _ _ _;rw[List.length_append,List.length_singleton,Mf];exact tq);have i8:=Ad ((HS.o.bl ce).gr H8 fy qh);have vj:=Ad ((fk.o.trans (Cp.of_below ce bo)).gr fy uw (λb q=>(H8.lt b q).1));have xd:=Ad (Ex (Ae HL.o ce) fy (apart (Ae HL.o ce) H8 qh));have kj:=Ad (Ao (Ac HT.o ce) fy (Ah H8 qh (Ac HT.o ce)));have i7:W0.heap.size<=w4.heap.size:=Nat.le_trans uw vj.o.bel.size;have D8:W.heap.size<=w4.heap.size:=vj.o.bel.size;clear ce H8 tq fy J5;go_wp2_with fail;refine Lt.begin 8 (λw'=>w'.heap[P]?=M (O #[F false,I 0,ze,F false,S nm,I q] 154 (0,0))) qk ?_;obtain⟨wD,eD⟩:=Aj w4.drew;rw[eD];have ao:Bw w4 wD:=qq;clear eD;replace i8:=Ad (i8.o.bl ao);replace wu:=Ad (Ae wu.o ao);replace xd:=Ad (Ae xd.o ao);replace kj:=Ad (Ac kj.o ao);replace vj:=Ad (vj.o.trans (Cp.of_below ao i7));replace i7:W0.heap.size<=wD.heap.size:=Nat.le_trans i7 ao.size;replace D8:W.heap.size<=wD.heap.size:=Nat.le_trans D8 ao.size;have aw:(λw'=>w'.heap[P]?=M (O #[F false,I 0,ze,F false,S nm,I q] 154 (0,0))) wD:=kj.o;change K 0 _
     iterate 4
      refine Lt.ti (v:=?_) aw ?_ ?_;rotate_left 1
      ·exact qkr
      simp only[gX]
     refine Lt.sp (i:=4) (λK hK=>?_);go_simp;refine(Ey tb _).mono ?_;rintro e wF ⟨rfl,rfl⟩;refine hK.out _ _ (λ_=>aw) (λ_=>?_);clear hK K 
     try simp only[gX]
     refine Lt.ti (i:=5) (v:=?_) aw ?_ ?_;rotate_left 1
     ·exact qkr
     simp only[gX];refine Lt.sp (i:=6) (λK hK=>?_);go_simp;refine Bm (Q:=λx=>K _ x) ?_;intro wL bz gl
     try dsimp only
     obtain⟨dL,edL⟩:=Aj wD.heap.size;rw[edL]at gl ⊢;replace i8:=Ad (i8.o.bl bz);replace wu:=Ad (Ae wu.o bz);replace xd:=Ad (Ae xd.o bz);replace kj:=Ad (Ac kj.o bz);replace vj:=Ad (vj.o.trans (Cp.of_below bz i7));replace i7:W0.heap.size<=wL.heap.size:=Nat.le_trans i7 bz.size;replace D8:W.heap.size<=wL.heap.size:=Nat.le_trans D8 bz.size;have bj:(λw'=>w'.heap[P]?=M (O #[F false,I 0,ze,F false,S nm,I q] 154 (0,0))) wL:=kj.o;refine hK.out _ _ (λ_=>bj) (λ_=>?_);clear hK K bz
     try simp only[gX]
     refine Lt.sp (i:=7) (λK hK=>?_);refine Tj rfl qo W.heap.size _ ls.length (Vv ls) qo xd.o dL _ _ _ qo gl.o qcu D8 qg ?_;intro g' ai w7 ak ae;have G8:=xd.o;have xw:=Ad (i8.o.gr G8 ae qh);have HF7:=Ad (vj.o.gr ae uw (λb q=>(G8.lt b q).1));have HY7:=Ad (Ex wu.o ae (apart wu.o G8 qh));have ie:=Ad (Ao kj.o ae (Ah G8 qh kj.o));(have HL7:Hd (w7.ownsRow W.heap.size 160 3 (J (p_ g') (ls++[(⟨nm,false,De tb⟩:G3)]).length ai) (ls++[(⟨nm,false,De tb⟩:G3)]).length (Vv (ls++[(⟨nm,false,De tb⟩:G3)]))):=by show World.ownsRow _ _ _ _ _ _ _;rw[List.length_append,List.length_singleton,Xt];exact ak);have li:(λw'=>w'.heap[P]?=M (O #[F false,I 0,ze,F false,S nm,I q] 154 (0,0))) w7:=ie.o;refine hK.out _ _ (λ_=>li) (λ_=>?_);clear hK K ae ak G8 i8 vj wu xd kj;simp only[gX];refine Lt.sp (i:=8) (λK hK=>?_);go_simp;refine hK.out _ _ (λh=>absurd rfl h) (λ_=>?_);clear hK K;refine Lt.done qk ?_ _;go_wp2_with fail;go_roundw
     case rel=>exact⟨ys++[(⟨tb,0,⟨#[]⟩⟩:R3)],ls++[(⟨nm,false,De tb⟩:G3)],ms',s',v',p_ g4,p_ g',cp4,ai,qj,qdh,qdh,HRN,wz,F8.o qaj,HI,HK,HC7,ug,HY7,HL7,HF7,xw⟩
     case measure=>simp[lenV];omega
    ·go_wp2_with fail
     clear e3 eP t0 t1 t2 t3 t4 t5;refine(HM.o ms' s' v' nm w3 n7.o HS.o HI.o HK.o vi.o (by have:=HC.o;have:=HPH.o;omega) ug.o).mono ?_;rintro e w5 ⟨d7,s2,a2,di,⟨dd,v2,rfl,rfl,cu,dx⟩|⟨bb,nb,rfl,rfl,cu,nj⟩⟩;rotate_left 1
     ·have jg:=Ad (Y5.o qaj _ _ _ di)
      have dp:=Ad (fk.o.trans cu);have ko:=Ad nj;have mj:W0.heap.size<=w5.heap.size:=Nat.le_trans bo cu.bel.size;clear di cu nj
      go_upto_region 11 with fail
      obtain⟨w6,e6⟩:=Aj (w5.alloc (O #[I (Jm bb),ze,nS] 134));have cj:Bw w5 w6:=qba;rw[e6];clear e6;replace dp:=Ad (dp.o.trans (Cp.of_below cj mj));replace ko:=Ad (ko.o.frx cj);have fj:=Ad (dp.o.blk yb.o (HN.o _ qg));clear cj;obtain⟨k9,_,_⟩:=ko.o.cells;exact qhy
     obtain⟨i1,i2,i3,i4⟩:=Ca.inv HE.o.v di HI.o HK.o vi.o (λb q=>qz);have jx:=Ca.cost HE.o.v di HI.o HK.o vi.o (λb q=>qz);have N4:=Ad (Ca.cntM HE.o.v di HI.o HK.o vi.o (λb q=>qz) rfl ug.o);have hmd:=i1.done _ _ i4;have HMD:=Ad hmd;have zr:=Ad i1;have lu:=Ad i2;have HRN0:=Ad (X3.o.asked hmd (⟨nm,true,Co dd.c dd.t⟩:G3));have HLN0:Hd (Qm (ls++[⟨nm,true,Co dd.c dd.t⟩])):=In.o.snoc vi.o (Fc hmd.t2);have N5:=Ad (Y4.o qaj _ _ _ di);(have HC20:Hd (400200*Hj ts ms st+d7.length<=ms.length+(ys.length+1)+400200*Hj ts d7 st):=by have:=HC.o;show _<=_;simp only[Qi]at jx;omega);replace HY:=Ad (cu.own HY.o (HS.o.notT HY.o qh qh qh qh));replace HL:=Ad (cu.own HL.o (HS.o.notT HL.o qh qh qh qh));replace HT:=Ad (cu.blk HT.o ou.o);replace fk:=Ad (fk.o.trans cu);replace n7:=Ad (n7.o.trans cu.bel);replace HS:=Ad dx;replace bo:W0.heap.size<=w5.heap.size:=Nat.le_trans bo cu.bel.size;replace wj:W.heap.size<=w5.heap.size:=Nat.le_trans wj cu.bel.size;clear di cu dx i1 i2 i3 i4 jx hmd HHA Y4 Y5 F8 X3 HC N3
     have HHA:Hd (∀V,Bw w5 V->Calls prog 105 #[D (p_ h),S nm] V λe w'=>Bw V w'/\e=H (F (Du ss ts nm))):=λV hV=>by
      exact qij
     obtain⟨dc,edc⟩:=Aj dd.c;obtain⟨dt,edt⟩:=Aj dd.t;rw[edc,edt]at HLN0 HRN0 N5;rw[edc,edt];have HFO:Hd (∀V:E,Calls prog 106 #[G #[I dc,S dt,nS]] V λe w'=>e=H (S (Co dc dt))/\Bw V w'):=λV=>La dc dt V (by rw[←edc];exact HMD.o.c0) (by rw[←edc];exact HMD.o.c5) qge;have HDE:=Ad (And.intro edc edt);clear edc edt
     go_upto_region 11 with fail
     obtain⟨RR,eRR⟩:=Aj w5.heap.size;obtain⟨w6,e6⟩:=Aj (w5.alloc (O #[I dc,S dt,nS] 134));have cj:Bw w5 w6:=qba;have ft:Hd (w6.heap[RR]?=M (O #[I dc,S dt,nS] 134 (0,0))):=qcd;rw[e6]
     try rw[eRR]
     clear e6;replace HS:=Ad (HS.o.bl cj);replace HY:=Ad (Ae HY.o cj);replace HL:=Ad (Ae HL.o cj);replace fk:=Ad (fk.o.trans (Cp.of_below cj bo));replace n7:=Ad (n7.o.trans (Below.mono cj bo));replace HT:=Ad (Ac HT.o cj);replace bo:W0.heap.size<=w6.heap.size:=Nat.le_trans bo cj.size;replace wj:W.heap.size<=w6.heap.size:=Nat.le_trans wj cj.size;have HB56:=Ad cj;clear cj;have k9:=cK HS.o.blk 9;obtain⟨x0,x1,x2⟩:=Ab ft.o;obtain⟨t0,t1,t2,t3,t4,t5⟩:=Bx HT.o
     go_upto_region 14 with fail
     clear k9 x0 x1 x2 t0 t1 t2 t3 t4 t5;obtain⟨AL,eY⟩:=Aj w6.heap.size;obtain⟨w7,e7⟩:=Aj (w6.alloc (O #[F true,I dc,S dt] 158));have bv:=aB e7;have HYB:=Ad (nW e7 eY);rw[e7]
     try rw[eY]
     clear e7;have hYw:W.heap.size<=AL:=qg;(have HNY:Hd (∀b,(Value.slice ra ys.length rc).ownBlock=M b->b≠AL):=λb q k=>by have:=(HY.o.lt b q).2;omega);have hYne:AL≠P/\AL≠RR:=⟨λq=>by have:=Bq HT.o;omega,λq=>by have:=Bq ft.o;omega⟩;replace HS:=Ad (HS.o.bl bv);replace HY:=Ad (Ae HY.o bv);replace HL:=Ad (Ae HL.o bv);replace fk:=Ad (fk.o.trans (Cp.of_below bv bo));replace n7:=Ad (n7.o.trans (Below.mono bv bo));replace HT:=Ad (Ac HT.o bv);replace ft:=Ad (Ac ft.o bv);replace bo:W0.heap.size<=w7.heap.size:=Nat.le_trans bo bv.size;replace wj:W.heap.size<=w7.heap.size:=Nat.le_trans wj bv.size;have HB57:=Ad (bt HB56.o bv);clear bv;obtain⟨t0,t1,t2,t3,t4,t5⟩:=Bx HT.o;go_wp2_with fail;clear t0 t1 t2 t3 t4 t5;refine(HHA.o w7 HB57.o).mono ?_;rintro e w8 ⟨fi,rfl⟩;replace HS:=Ad (HS.o.bl fi);replace HY:=Ad (Ae HY.o fi);replace HL:=Ad (Ae HL.o fi);replace fk:=Ad (fk.o.trans (Cp.of_below fi bo));replace n7:=Ad (n7.o.trans (Below.mono fi bo));replace HT:=Ad (Ac HT.o fi);replace ft:=Ad (Ac ft.o fi);replace HYB:=Ad (Ac HYB.o fi);replace bo:W0.heap.size<=w8.heap.size:=Nat.le_trans bo fi.size;replace wj:W.heap.size<=w8.heap.size:=Nat.le_trans wj fi.size;clear fi HB56 HB57 HHA;obtain⟨tb,etb⟩:=Aj (Du ss ts nm);rw[etb];(have wy:Hd (Wp ss ts nm dd=if tb=true then ⟨true,dc,dt⟩ else ⟨false,0,⟨#[]⟩⟩):=by show _=_;unfold Wp;rw[etb,HDE.o.1,HDE.o.2]);clear etb
     go_upto_if 68 with fail
     go_cut [11] (λp wx=>∃(y:R3),p=D (p_ AL)/\Hd (y=Wp ss ts nm dd)/\Hd (wx.heap[AL]?=M (O #[F y.has,I y.code,S y.text] 158 (0,0)))/\Hd (Cp W0.heap.size (Bs h v) (Bs h v2) W wx)/\Hd (Fl W0.heap.size h (J sa ss.length c1) (J ta ts.length c2) n wx d7 s2 st v2)/\Hd (wx.ownsRow W.heap.size 158 3 (J ra ys.length rc) ys.length (Dp ys))/\Hd (wx.ownsRow W.heap.size 160 3 (J la ls.length lc) ls.length (Vv ls))/\Hd (wx.heap[P]?=M (O #[F false,I 0,ze,F true,S nm,I q] 154 (0,0)))/\Hd (wx.heap[RR]?=M (O #[I dc,S dt,nS] 134 (0,0))))
     case first=>
      obtain⟨z0,z1,z2,zf⟩:=Jp HYB.o;cases tb
      ·go_wp2_with fail
       go_meet
       case rel=>exact⟨⟨false,0,⟨#[]⟩⟩,rfl,(by have:=wy.o;show _=_;rw[this];rfl),Cx HYB.o _ _ _,fk.o.set3 hYw (Nat.le_trans uw hYw) _ _ _,HS.o.set3 ⟨_,HYB.o⟩ qh _ _ _,Tr HY.o HNY.o _ _ _,Tq HL.o ⟨_,HYB.o⟩ qh _ _ _,Da HT.o (Ne.symm hYne.1) _ _ _,Da ft.o (Ne.symm hYne.2) _ _ _⟩
      ·go_wp2_with fail
       go_meet
       case rel=>exact⟨⟨true,dc,dt⟩,rfl,(by have:=wy.o;show _=_;rw[this];rfl),HYB,fk,HS,HY,HL,HT,ft⟩
     case rest=>
      obtain⟨y,rfl,EY,HYX,mn,jm,HYR,ig,jl,fj⟩:=hcut;have bo:W0.heap.size<=wc.heap.size:=Nat.le_trans uw mn.o.bel.size;have wj:W.heap.size<=wc.heap.size:=mn.o.bel.size;(have HRN:Hd (Ig is (ys++[y]) (ls++[⟨nm,true,Co dc dt⟩])):=by show Ig _ _ _;rw[EY.o];exact HRN0.o);have wz:=HLN0;(have HC7:Hd (400200*Hj ts ms st+d7.length<=ms.length+(ys++[y]).length+400200*Hj ts d7 st):=by have:=HC20.o;show _<=_;rw[List.length_append,List.length_singleton];omega);(have HCN:Hd (∀ms3 s3 a,Ca ss ts n d7 s2 st (.run is (ys++[y]) (ls++[⟨nm,true,Co dc dt⟩])) ms3 s3 a->Ca ss ts n ms s st (.run is [] []) ms3 s3 a):=by show ∀ms3 s3 a,_;rw[EY.o];exact N5.o);clear HY HL HT ft HS fk HYB HRN0 N5 HC20 EY n7;have ft:=fj;obtain⟨k0,k1,k2⟩:=Ab HYX.o;obtain⟨yh,yc,yt,ey⟩:∃a b c,y=⟨a,b,c⟩:=⟨_,_,_,rfl⟩;subst ey;dsimp only at k0 k1 k2
      go_wp2_with (first|(at_builtin;refine wpList_append_own _ rfl (.tmp 70) (.tmp 72) 151 rfl W.heap.size 158 i0 (G #[F false,I 0,ze]) 3 32 underlying151 O5 bm yl yk rfl qh _ _ _ rfl (HYR.o.alloc _) ⟨wc.heap.size,0,N⟩ 1 1 [F yh,I yc,S yt] rfl rfl (Sf _ _ _ _ _) (by intro u hu;simp at hu;rcases hu with rfl|rfl|rfl<;>rfl) qn qg qj ?_;intro v4 w4 tq fy J5))
      clear k0 k1 k2
      obtain⟨g4,cp4,rfl⟩:∃g cp,v4=J (p_ g) (ys.length+1) cp:=by
       exact qla
      have ce:Bw wc (wc.alloc (O #[F yh,I yc,S yt] 158)):=aN _ _;have H8:=Ae HYR.o ce;(have wu:Hd (w4.ownsRow W.heap.size 158 3 (J (p_ g4) (ys++[(⟨yh,yc,yt⟩:R3)]).length cp4) (ys++[(⟨yh,yc,yt⟩:R3)]).length (Dp (ys++[(⟨yh,yc,yt⟩:R3)]))):=by show World.ownsRow _ _ _ _ _ _ _;rw[List.length_append,List.length_singleton,Mf];exact tq);have i8:=Ad ((jm.o.bl ce).gr H8 fy qh);have vj:=Ad ((mn.o.trans (Cp.of_below ce bo)).gr fy uw (λb q=>(H8.lt b q).1));have xd:=Ad (Ex (Ae ig.o ce) fy (apart (Ae ig.o ce) H8 qh));have kj:=Ad (Ao (Ac jl.o ce) fy (Ah H8 qh (Ac jl.o ce)));have F4:=Ad (Ao (Ac ft.o ce) fy (Ah H8 qh (Ac ft.o ce)));have i7:W0.heap.size<=w4.heap.size:=Nat.le_trans uw vj.o.bel.size;have D8:W.heap.size<=w4.heap.size:=vj.o.bel.size;clear ce H8 tq fy J5;go_wp2_with fail;refine Lt.begin 8 (λw'=>w'.heap[P]?=M (O #[F false,I 0,ze,F true,S nm,I q] 154 (0,0))/\w'.heap[RR]?=M (O #[I dc,S dt,nS] 134 (0,0))) qk ?_;obtain⟨wD,eD⟩:=Aj w4.drew;rw[eD];have ao:Bw w4 wD:=qq;clear eD;replace i8:=Ad (i8.o.bl ao);replace wu:=Ad (Ae wu.o ao);replace xd:=Ad (Ae xd.o ao);replace kj:=Ad (Ac kj.o ao);replace vj:=Ad (vj.o.trans (Cp.of_below ao i7));replace F4:=Ad (Ac F4.o ao);replace i7:W0.heap.size<=wD.heap.size:=Nat.le_trans i7 ao.size;replace D8:W.heap.size<=wD.heap.size:=Nat.le_trans D8 ao.size;have aw:(λw'=>w'.heap[P]?=M (O #[F false,I 0,ze,F true,S nm,I q] 154 (0,0))/\w'.heap[RR]?=M (O #[I dc,S dt,nS] 134 (0,0))) wD:=⟨kj.o,F4.o⟩;change K 0 _
      iterate 4
       refine Lt.ti (v:=?_) aw ?_ ?_;rotate_left 1
       ·exact qjo
       simp only[gX]
      refine Lt.sp (i:=4) (λK hK=>?_);go_simp;refine(HFO.o _).mono ?_;rintro e wF ⟨rfl,U7⟩;replace i8:=Ad (i8.o.bl U7);replace wu:=Ad (Ae wu.o U7);replace xd:=Ad (Ae xd.o U7);replace kj:=Ad (Ac kj.o U7);replace vj:=Ad (vj.o.trans (Cp.of_below U7 i7));replace F4:=Ad (Ac F4.o U7);replace i7:W0.heap.size<=wF.heap.size:=Nat.le_trans i7 U7.size;replace D8:W.heap.size<=wF.heap.size:=Nat.le_trans D8 U7.size;have bj:(λw'=>w'.heap[P]?=M (O #[F false,I 0,ze,F true,S nm,I q] 154 (0,0))/\w'.heap[RR]?=M (O #[I dc,S dt,nS] 134 (0,0))) wF:=⟨kj.o,F4.o⟩;refine hK.out _ _ (λ_=>bj) (λ_=>?_);clear hK K U7
      try simp only[gX]
      refine Lt.ti (i:=5) (v:=?_) bj ?_ ?_;rotate_left 1
      ·exact qjo
      simp only[gX];refine Lt.sp (i:=6) (λK hK=>?_);go_simp;refine Bm (Q:=λx=>K _ x) ?_;intro wL bz gl
      try dsimp only
      obtain⟨dL,edL⟩:=Aj wF.heap.size;rw[edL]at gl ⊢;replace i8:=Ad (i8.o.bl bz);replace wu:=Ad (Ae wu.o bz);replace xd:=Ad (Ae xd.o bz);replace kj:=Ad (Ac kj.o bz);replace vj:=Ad (vj.o.trans (Cp.of_below bz i7));replace F4:=Ad (Ac F4.o bz);replace i7:W0.heap.size<=wL.heap.size:=Nat.le_trans i7 bz.size;replace D8:W.heap.size<=wL.heap.size:=Nat.le_trans D8 bz.size;have cz:(λw'=>w'.heap[P]?=M (O #[F false,I 0,ze,F true,S nm,I q] 154 (0,0))/\w'.heap[RR]?=M (O #[I dc,S dt,nS] 134 (0,0))) wL:=⟨kj.o,F4.o⟩;refine hK.out _ _ (λ_=>cz) (λ_=>?_);clear hK K bz
      try simp only[gX]
      refine Lt.sp (i:=7) (λK hK=>?_);refine Tj rfl qo W.heap.size _ ls.length (Vv ls) qo xd.o dL _ _ _ qo gl.o qcu D8 qg ?_;intro g' ai w7 ak ae;have G8:=xd.o;have xw:=Ad (i8.o.gr G8 ae qh);have HF7:=Ad (vj.o.gr ae uw (λb q=>(G8.lt b q).1));have HY7:=Ad (Ex wu.o ae (apart wu.o G8 qh));have ie:=Ad (Ao kj.o ae (Ah G8 qh kj.o));have L6:=Ad (Ao F4.o ae (Ah G8 qh F4.o));(have HL7:Hd (w7.ownsRow W.heap.size 160 3 (J (p_ g') (ls++[(⟨nm,true,Co dc dt⟩:G3)]).length ai) (ls++[(⟨nm,true,Co dc dt⟩:G3)]).length (Vv (ls++[(⟨nm,true,Co dc dt⟩:G3)]))):=by show World.ownsRow _ _ _ _ _ _ _;rw[List.length_append,List.length_singleton,Xt];exact ak);have li:(λw'=>w'.heap[P]?=M (O #[F false,I 0,ze,F true,S nm,I q] 154 (0,0))/\w'.heap[RR]?=M (O #[I dc,S dt,nS] 134 (0,0))) w7:=⟨ie.o,L6.o⟩;refine hK.out _ _ (λ_=>li) (λ_=>?_);clear hK K ae ak G8 i8 vj wu xd kj;simp only[gX];refine Lt.sp (i:=8) (λK hK=>?_);go_simp;refine hK.out _ _ (λh=>absurd rfl h) (λ_=>?_);clear hK K;refine Lt.done qk ?_ _;go_wp2_with fail;go_roundw
      case rel=>exact⟨ys++[(⟨yh,yc,yt⟩:R3)],ls++[(⟨nm,true,Co dc dt⟩:G3)],d7,s2,v2,p_ g4,p_ g',cp4,ai,qj,qdh,qdh,HRN,wz,HCN,zr,lu,HC7,N4,HY7,HL7,HF7,xw⟩
      case measure=>simp[lenV];omega
end Go.Proofs.YtoihflimijabjaaGreatDoor
