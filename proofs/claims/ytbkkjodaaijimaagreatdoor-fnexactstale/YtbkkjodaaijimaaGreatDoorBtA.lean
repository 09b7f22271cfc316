import Derived.Test.YtbkkjodaaijimaaGreatDoorBsY
namespace Go.Proofs.YtbkkjodaaijimaaGreatDoor
open Value renaming slice->J,string->S,bool->F,agg->G,pointer->D,tuple->Y
open Option renaming some->M,none->N
open Obj renaming cells->O
open Go renaming Value->Z,World->E
open Ending renaming returned->H
open _root_ renaming List->L,Nat->X
set_option maxHeartbeats 8000000
set_option maxRecDepth 100000
open _root_.Go.Proofs.Tryz Go.RowKit Go.Deep
set_option linter.unusedVariables false
set_option linter.unusedSimpArgs false
variable {B n e sz AK:X} {w w':E} {u:Z} {xs:L Z}
def RunP5(B h:X)(sv tv:Z)(n:X)(ss:L S2)(ts:L T2)(ms:Mm)(s:Sb)(st:L By)(v:Hv)(is:L I3)(w:E)(e:Ending)(w':E):Prop:=
 ∃ms' s' a,Bc ss ts n ms s st (.run is [] []) ms' s' a/\((∃d v' r,a=.ok d/\e=H (Y #[G #[I d.c,S d.t,nS],I r])/\0<=r/\Cw B (Bz h v) (Bz h v') w w'/\Fy B h sv tv n w' ms' s' st v')\/(∃b nv,a=.bad b/\e=H (Y #[G #[I 0,ze,nS],I (-1)])/\Cw B (Bz h v) (Yo h nv) w w'/\Fx B h st.length nv w' b))
theorem Fy.gr{h:X}{sv tv:Z}{ms:Mm}{s:Sb}{st:L By}{v:Hv}(k:Fy B h sv tv n w ms s st v){B' l:X}(ho:w.ownsRow B' e sz u l xs)(hg:w.grownBy w' u.ownBlock)(he:e≠86/\e≠9/\e≠153/\e≠94/\e≠143/\e≠145):Fy B h sv tv n w' ms s st v:=by
 obtain⟨a1,a2,a3,a4,a5,a6⟩:=he;obtain⟨xs,m1,m2⟩:=k.made;obtain⟨ys,cv,lv,r⟩:=k.rcs;have g:∀ {e' P2 l':X} {u':Z} {zs:L Z},w.ownsRow B e' P2 u' l' zs->e'≠e->w'.ownsRow B e' P2 u' l' zs:=λq hne=>Ok q hg (apart q ho hne);refine⟨k.hB,Br k.blk hg (Ae ho (Ne.symm a1) k.blk),g k.txt (Ne.symm a2),⟨ys,cv,lv,g r.row (Ne.symm a4),r.fil,λi hi=>?_,λi hi=>?_,r.apc,r.apl⟩,⟨xs,g m1 (Ne.symm a3),m2⟩,g k.stk (Ne.symm a2),g k.ran (Ne.symm a2),g k.held (Ne.symm a2),k.txa,k.tk,k.kn,k.ne⟩
 ·obtain⟨ys,a,b⟩:=r.code i hi;exact⟨ys,g a (Ne.symm a5),b⟩
 ·obtain⟨ys,a,b⟩:=r.look i hi;exact⟨ys,g a (Ne.symm a6),b⟩
theorem Cw.gr{AM X':X->Prop}{w2:E}{row:Option X}(h:Cw B AM X' w w')(hg:w'.grownBy w2 row)(hB:B<=w.heap.size)(hr:∀b,row=M b->w.heap.size<=b):Cw B AM X' w w2:=by
 have hs:=h.bel.size;refine⟨h.bel.grown hg qb (λb q=>by have:=hr b q;omega),λb hb hx=>?_,h.new⟩;rw[hg.block b qb (λq=>by have:=hr b q.symm;omega)];exact h.keep b hb hx
theorem gCx_snoc(ls:L G3)(g:G3):Oo (ls++[g])=Oo ls++[S g.name,F g.ask,S g.sum]:=by
 induction ls with
 | nil=>rfl
 | cons a l ih=>simp[Oo,ih]
theorem Tryz.info172x:(prog.info? 199).map (λi=>(i.zero,i.size,i.bytes))=M (M (G #[ze,F false,ze]),3,40):=qi
theorem Tryz.info169x:(prog.info? 196).map (λi=>(i.zero,i.size,i.bytes))=M (M (G #[F false,I 0,ze]),3,32):=qi
theorem Wj{s x:Operand}{W:E}{ops:Array Oper}{o:Oper}{a:Act}{K:Act->E->Prop}{Q:Exit->Act->E->Prop}{AF:Prop}(ri:o.guard=N)(ho:o.op=.call { callee:=.builtin .append,args:=#[s,x],argTypes:=#[190,190] })(B:X)(v:Z)(nn:X)(xs:L Z)(hs:a.eval s=v)(ah:W.ownsRow B 199 3 v nn xs)(d:X)(u0 u1 u2:Z)(hx:a.eval x=J (p_ d) 1 1)(hc:W.heap[d]?=M (O #[u0,u1,u2] 199 (0,0)))(h1:∀u∈[u0,u1,u2],u.oneCell'=true)(hB:B<=W.heap.size)(hn:nn<=10000)(h:∀g' ai w',w'.ownsRow B 199 3 (J (p_ g') (nn+1) ai) (nn+1) (xs++[u0,u1,u2])->W.grownBy w' v.ownBlock->K (a.put o.dst (J (p_ g') (nn+1) ai)) w'):if Region.wanted o (yielded ops a.tmps)=true then Oper.wp prog o a W K Q else AF:=by
 obtain⟨i0,hi,bq,bg,bv⟩:=info_parts Tryz.info172x
 refine step_append_lies (w:=W) ri s x 190 ho B 199 i0 (G #[ze,F false,ze]) 3 40 underlying190 hi bq bg bv rfl qd _ nn xs hs ah ⟨d,0,N⟩ 1 1 [u0,u1,u2] hx rfl
  (World.news_of_block (cs:=#[u0,u1,u2]) (t:=199) (fr:=(0,0)) hc) h1 qb qm qb hB W.heap.size rfl ?_
 exact qdi
theorem Wo(ho:w.ownsRow B e sz u n xs)(hY:∀b,u.ownBlock=M b->b≠AK)(x0 x1 x2:Z):(((w.setCell ⟨AK,0,N⟩ x0).setCell ⟨AK,1,N⟩ x1).setCell ⟨AK,2,N⟩ x2).ownsRow B e sz u n xs:=Al ho λb q=>by
 rw[hC _ ⟨AK,2,N⟩ _ b (hY b q),hC _ ⟨AK,1,N⟩ _ b (hY b q),hC _ ⟨AK,0,N⟩ _ b (hY b q)]
theorem own_setT3{T:X}(ho:w.ownsRow B e sz u n xs)(ht:Cv w AK T)(hne:T≠e)(x0 x1 x2:Z):(((w.setCell ⟨AK,0,N⟩ x0).setCell ⟨AK,1,N⟩ x1).setCell ⟨AK,2,N⟩ x2).ownsRow B e sz u n xs:=Wo ho (λb q k=>ht.ne ho hne (by rw[←k];exact q)) x0 x1 x2
theorem gCx_fil(ls:L G3):Bk ls ls.length (Oo ls):=λi hi=>gC_get ls i hi
theorem run5_any(W0:E)(h:X)(sa ta:Option Addr)(c1 c2 n:X)(ss:L S2)(ts:L T2)(hE:Hn W0 sa ta ss ts)(st:L By)(hM:Nw W0 h (J sa ss.length c1) (J ta ts.length c2) n ss ts st)(h1:1<=n)(h8:n<=8)(ms:Mm)(s:Sb)(v:Hv)(a:Option Addr)(ac:X)(is:L I3)(w:E)(hb:Bw W0 w)(hs:Fy W0.heap.size h (J sa ss.length c1) (J ta ts.length c2) n w ms s st v)(hi:Fv ss ts ms st)(ft:Jz n s)(dj:Kc W0.heap.size w a is)(hp:Au is=true)(hx:∀i,(ix is i).text.size<=9223372036854775807)(T9:ms.length+200<=400200*Db ts ms st)(J4:Ku ts ms s st):Calls prog 89 #[D (p_ h),G #[J a is.length ac]] w λe w'=>RunP5 W0.heap.size h (J sa ss.length c1) (J ta ts.length c2) n ss ts ms s st v is w e w':=by
 obtain⟨W,eW⟩:=Aj ((w.alloc (O #[J a is.length ac] 91)).alloc (O #[I 0,ze,nS] 120));have HW:Hd (Bw w W):=by show Below _ _ _;rw[←eW];exact(aN _ _).alloc qg _
 obtain⟨Q,eQ⟩:=Aj w.heap.size;have HP0:Hd (W.heap[Q]?=M (O #[J a is.length ac] 91 (0,0))):=qfx
 have jr:Hd (W.heap[Q+1]?=M (O #[I 0,ze,nS] 120 (0,0))):=by
  exact qil
 obtain⟨W1,xj⟩:=Aj ((W.alloc (O #[] 196)).alloc (O #[] 199));have HW1:Hd (Bw W W1):=by show Below _ _ _;rw[←xj];exact(aN _ _).alloc qg _
 have HY0:Hd (W1.ownsRow W.heap.size 196 3 (J (p_ W.heap.size) 0 0) 0 (Dx [])):=by
  show World.ownsRow _ _ _ _ _ _ _;rw[←xj];exact(World.ownsRow_lit W #[] 0 (Nat.le_refl _) qm rfl).alloc _
 have HL0:Hd (W1.ownsRow W.heap.size 199 3 (J (p_ (W.heap.size+1)) 0 0) 0 (Oo [])):=by
  show World.ownsRow _ _ _ _ _ _ _;rw[←xj];have h:=World.ownsRow_lit (base:=W.heap.size) (e:=199) (size:=3) (W.alloc (O #[] 196)) #[] 0 qg qm rfl;rw[show(W.alloc (O #[] 196)).heap.size=W.heap.size+1 from qg]at h;exact h
 have HN:Hd (∀b,Q<=b->¬ Bz h v b):=λb hb=>hs.not qb;have fy:W0.heap.size<=w.heap.size:=hb.size;have H9:Hd (Cw W0.heap.size (Bz h v) (Bz h v) w W):=Cw.of_below HW.o fy;have vz:W0.heap.size<=W.heap.size:=Nat.le_trans fy HW.o.size;have HF1:Hd (Cw W0.heap.size (Bz h v) (Bz h v) W W1):=Cw.of_below HW1.o vz;have yp:=Ac ((hs.bl HW.o).bl HW1.o);have E4:=Ac (hb.trans (HW.o.mono fy));have HCW:=Ac (dj.belowB (HW.o.mono fy));have HI0:=Ac hi;have pi:=Ac ft;have HM:=Ac hM;have HE:=Ac hE;have HPH:=Ac T9;have HCN0:=Ac J4;have tm:=Ac hp;have HIX:=Ac hx;have HRO0:Hd (Gf is [] []):=⟨hp,λi hi=>qaa,rfl⟩;have zq:=Dh hp;have hQW:Q+1<W.heap.size:=Ag jr.o;obtain⟨i0,ye,bq,E6,E5⟩:=info_parts Tryz.info169x;clear hs hb hi ft hM hE T9 dj hp hx J4;go_enter func89,ntmps89;go_wp2_with fail
 try rw[eQ]
 clear eW xj
 go_loopw [6,7] (λvy vl wr=>∃(ys:L R3)(ls:L G3)(ms':Mm)(s':Sb)(v':Hv)(ra la:Option Addr)(rc lc:X),ys.length<=200/\vy=J ra ys.length rc/\vl=J la ls.length lc/\Hd (Gf is ys ls)/\Hd (Mk ls)/\Hd (∀br s2 a,Bc ss ts n ms' s' st (.run is ys ls) br s2 a->Bc ss ts n ms s st (.run is [] []) br s2 a)/\Hd (Fv ss ts ms' st)/\Hd (Jz n s')/\Hd (400200*Db ts ms st+ms'.length<=ms.length+ys.length+400200*Db ts ms' st)/\Hd (Ku ts ms' s' st)/\Hd (wr.ownsRow W.heap.size 196 3 (J ra ys.length rc) ys.length (Dx ys))/\Hd (wr.ownsRow W.heap.size 199 3 (J la ls.length lc) ls.length (Oo ls))/\Hd (Cw W0.heap.size (Bz h v) (Bz h v') W wr)/\Hd (Fy W0.heap.size h (J sa ss.length c1) (J ta ts.length c2) n wr ms' s' st v')) (λvy _ _=>200-lenV vy)
 case atStart=>exact⟨[],[],ms,s,v,p_ W.heap.size,p_ (W.heap.size+1),0,0,qg,rfl,rfl,HRO0,(λg hg=>by simp at hg:Mk []),(λ_ _ _ k=>k),HI0,pi,(by show _<=_;simp only[List.length_nil];omega:400200*Db ts ms st+ms.length<=ms.length+([]:L R3).length+400200*Db ts ms st),HCN0,HY0,HL0,HF1,yp⟩
 case round=>
  clear HY0 HL0 HF1 yp HRO0 HI0 pi;obtain⟨ys,ls,ms',s',v',ra,la,rc,lc,hk,rfl,rfl,pe,O7,jk,HI,HK,HC,uz,HY,HL,fu,HS⟩:=hrel;have pk:=Ac (E4.o.trans fu.o.bel);have bj:W0.heap.size<=wr.heap.size:=pk.o.size;have A0:W.heap.size<=wr.heap.size:=fu.o.bel.size;have HP0r:=Ac (fu.o.blk HP0.o (HN.o _ (Nat.le_refl _)));have p0:=Ie HP0r.o;have HCr:=Ac (HCW.o.belowB fu.o.bel);go_wp2_with fail;clear p0;refine(Yd a ra ac rc is ys wr HCr.o.1 (rowR_of HY.o) qb HIX.o (rx_any pe.o.ok) tm.o (reps_of (gs:=[]) pe.o.ok hk)).mono ?_;rintro e w2 ⟨ag,rs,iq,rfl⟩;replace HS:=Ac (HS.o.bl ag);replace HY:=Ac (Ab HY.o ag);replace HL:=Ac (Ab HL.o ag);replace fu:=Ac (fu.o.trans (Cw.of_below ag bj));replace pk:=Ac (pk.o.trans (Below.mono ag bj));replace HCr:=Ac (HCr.o.belowB (Below.mono ag bj));replace bj:W0.heap.size<=w2.heap.size:=Nat.le_trans bj ag.size;replace A0:W.heap.size<=w2.heap.size:=Nat.le_trans A0 ag.size;clear ag HP0r
  cases rs with
  | over c t q=>
    obtain⟨M1,C8,hc5⟩:=pe.o.over iq;have HOV:Hd (∀s2,Fw n s' is ls c t s2 N->Bc ss ts n ms s st (.run is [] []) ms' s2 (.ok ⟨c,t,ls⟩)):=λs2 k=>jk.o _ _ _ (.over iq k);have G8:Hd (∀s2 b,Fw n s' is ls c t s2 (M b)->Bc ss ts n ms s st (.run is [] []) ms' s2 (.bad b)):=λs2 b k=>jk.o _ _ _ (.overbad iq k);have hls2:ls.length<=200:=zo pe.o.eq;clear iq;unfold resT Bb;obtain⟨P,eP⟩:=Aj w2.heap.size;obtain⟨w3,e3⟩:=Aj (w2.alloc (O #[F true,I c,S t,F false,ze,I q] 192));have ba:Bw w2 w3:=qds;have HT:=Ac (nW e3 eP);have HNP:Hd (¬ Bz h v' P):=HS.o.not qb;replace HS:=Ac (HS.o.bl ba);replace HY:=Ac (Ab HY.o ba);replace HL:=Ac (Ab HL.o ba);replace fu:=Ac (fu.o.trans (Cw.of_below ba bj));replace pk:=Ac (pk.o.trans (Below.mono ba bj));replace HCr:=Ac (HCr.o.belowB (Below.mono ba bj));replace bj:W0.heap.size<=w3.heap.size:=Nat.le_trans bj ba.size;replace A0:W.heap.size<=w3.heap.size:=Nat.le_trans A0 ba.size;clear ba;have HP0r:=Ac (fu.o.blk HP0.o (HN.o _ (Nat.le_refl _)));have p0:=Ie HP0r.o;obtain⟨t0,t1,t2,t3,t4,t5⟩:=Hj HT.o;go_wp2_with fail;clear e3 eP t0 t1 t2 t3 t4 t5 p0;refine(shopNote W0.heap.size h n _ _ ms' s' st v' a la ac lc is ls (Oo ls) c t w3 HS.o bj h1 h8 HK.o HCr.o tm.o HIX.o (Ah HL.o vz) (gCx_fil ls) (HS.o.notT HL.o qd qd qd qd) hls2 O7.o C8 hc5 M1 (by have a1:=uz.o;have a2:=Mq ts ms' st;have a3:=HE.o.l2;unfold Ku at a1;omega)).mono ?_;rintro e w4 (⟨s2,v2,r,Q0,rfl,zk,bx,cw⟩|⟨s2,bb,nb,Q0,rfl,bx,pa⟩)
    ·have jw:=Ac (HOV.o _ Q0)
     have fl:=Ac (fu.o.trans bx);have cr:=Ac cw;have mu:=Ac (fl.o.blk jr.o (HN.o _ qb));clear Q0 bx cw;obtain⟨z0,z1,z2,zf⟩:=Dw mu.o;go_wp2_with fail;obtain⟨y0,y1,y2,_⟩:=Dw (Bn mu.o (I c) (S t) nS);exact bR (v:=Y #[G #[I c,S t,nS],I r]) (by simp[results,results89,go_sem,y0,y1,y2]) rfl ⟨_,_,_,jw.o,Or.inl ⟨⟨c,t,ls⟩,v2,r,rfl,rfl,zk,(H9.o.trans fl.o).set3 qb qb _ _ _,cr.o.set3 ⟨_,mu.o⟩ qd _ _ _⟩⟩
    ·have jw:=Ac (G8.o _ _ Q0)
     have fl:=Ac (fu.o.trans bx);have uh:=Ac pa;have mu:=Ac (fl.o.blk jr.o (HN.o _ qb));clear Q0 bx pa;exact qho
  | wait ask nm q=>
    obtain⟨aj,cm⟩:=pe.o.wait iq;have ox:=Ac cm;have HLE:=Ac pe.o.eq;have V7:ls.length<200:=zo HLE.o;have O8:Hd (ask=false->∀br s2 a,Bc ss ts n ms' s' st (.run is (ys++[⟨Cf ss ts nm,0,⟨#[]⟩⟩]) (ls++[⟨nm,false,Cl (Cf ss ts nm)⟩])) br s2 a->Bc ss ts n ms s st (.run is [] []) br s2 a):=λq br s2 a k=>jk.o _ _ _ (.has (by rw[q]at iq;exact iq) k);have P1:Hd (ask=true->∀ms1 s1 d,Bc ss ts n ms' s' st (.make nm) ms1 s1 (.ok d)->∀br s2 a,Bc ss ts n ms1 s1 st (.run is (ys++[Vn ss ts nm d]) (ls++[⟨nm,true,Bi d.c d.t⟩])) br s2 a->Bc ss ts n ms s st (.run is [] []) br s2 a):=λq ms1 s1 d k1 br s2 a k=>jk.o _ _ _ (.asked (by rw[q]at iq;exact iq) k1 k);have HABD:Hd (ask=true->∀ms1 s1 b,Bc ss ts n ms' s' st (.make nm) ms1 s1 (.bad b)->Bc ss ts n ms s st (.run is [] []) ms1 s1 (.bad b)):=λq ms1 s1 b k=>jk.o _ _ _ (.askbad (by rw[q]at iq;exact iq) k);clear iq cm jk;unfold resT Bb;obtain⟨P,eP⟩:=Aj w2.heap.size;obtain⟨w3,e3⟩:=Aj (w2.alloc (O #[F false,I 0,ze,F ask,S nm,I q] 192));have ba:Bw w2 w3:=qds;have HT:=Ac (nW e3 eP);have HNP:Hd (¬ Bz h v' P):=HS.o.not qb;replace HS:=Ac (HS.o.bl ba);replace HY:=Ac (Ab HY.o ba);replace HL:=Ac (Ab HL.o ba);replace fu:=Ac (fu.o.trans (Cw.of_below ba bj));replace pk:=Ac (pk.o.trans (Below.mono ba bj));replace HCr:=Ac (HCr.o.belowB (Below.mono ba bj));replace bj:W0.heap.size<=w3.heap.size:=Nat.le_trans bj ba.size;replace A0:W.heap.size<=w3.heap.size:=Nat.le_trans A0 ba.size;clear ba;obtain⟨t0,t1,t2,t3,t4,t5⟩:=Hj HT.o
    have HHA:Hd (∀V,Bw w3 V->Calls prog 112 #[D (p_ h),S nm] V λe w'=>Bw V w'/\e=H (F (Cf ss ts nm))):=λV hV=>by
     exact qig
    cases ask
    ·go_wp2_with fail
     clear e3 eP t0 t1 t2 t3 t4 t5;refine(HHA.o w3 (Below.refl _ _)).mono ?_;rintro e w5 ⟨cj,rfl⟩;replace HT:=Ac (Af HT.o cj);replace HS:=Ac (HS.o.bl cj);replace HY:=Ac (Ab HY.o cj);replace HL:=Ac (Ab HL.o cj);replace fu:=Ac (fu.o.trans (Cw.of_below cj bj));replace pk:=Ac (pk.o.trans (Below.mono cj bj));replace HCr:=Ac (HCr.o.belowB (Below.mono cj bj));replace bj:W0.heap.size<=w5.heap.size:=Nat.le_trans bj cj.size;replace A0:W.heap.size<=w5.heap.size:=Nat.le_trans A0 cj.size;clear cj;obtain⟨tb,etb⟩:=Aj (Cf ss ts nm);rw[etb];rw[etb]at O8;clear etb
     go_wp2_with (first|(at_builtin;refine wpList_append_own _ rfl (.tmp 37) (.tmp 40) 189 rfl W.heap.size 196 i0 (G #[F false,I 0,ze]) 3 32 underlying189 ye bq E6 E5 rfl qd _ _ _ rfl (HY.o.alloc _) ⟨w5.heap.size,0,N⟩ 1 1 [F tb,I 0,ze] rfl rfl (Ou _ _ _ _ _) (by intro u hu;simp at hu;rcases hu with rfl|rfl|rfl<;>rfl) qm qb qh ?_;intro v4 w4 nr ew U6))
     have HRN:Hd (Gf is (ys++[⟨tb,0,⟨#[]⟩⟩]) (ls++[⟨nm,false,Cl tb⟩])):=pe.o.has _ _;have HLN:Hd (Mk (ls++[⟨nm,false,Cl tb⟩])):=O7.o.snoc ox.o (Hz tb);have HC7:Hd (400200*Db ts ms st+ms'.length<=ms.length+(ys++[(⟨tb,0,⟨#[]⟩⟩:R3)]).length+400200*Db ts ms' st):=by have:=HC.o;show _<=_;rw[List.length_append,List.length_singleton];omega
     obtain⟨g4,yk,rfl⟩:∃g cp,v4=J (p_ g) (ys.length+1) cp:=by
      exact qmj
     have bu:Bw w5 (w5.alloc (O #[F tb,I 0,ze] 196)):=aN _ _;have Q6:=Ab HY.o bu;(have A5:Hd (w4.ownsRow W.heap.size 196 3 (J (p_ g4) (ys++[(⟨tb,0,⟨#[]⟩⟩:R3)]).length yk) (ys++[(⟨tb,0,⟨#[]⟩⟩:R3)]).length (Dx (ys++[(⟨tb,0,⟨#[]⟩⟩:R3)]))):=by show World.ownsRow _ _ _ _ _ _ _;rw[List.length_append,List.length_singleton,Od];exact nr);have gw:=Ac ((HS.o.bl bu).gr Q6 ew qd);have xv:=Ac ((fu.o.trans (Cw.of_below bu bj)).gr ew vz (λb q=>(Q6.lt b q).1));have t6:=Ac (Ok (Ab HL.o bu) ew (apart (Ab HL.o bu) Q6 qd));have uu:=Ac (Br (Af HT.o bu) ew (Ae Q6 qd (Af HT.o bu)));have ii:W0.heap.size<=w4.heap.size:=Nat.le_trans vz xv.o.bel.size;have N4:W.heap.size<=w4.heap.size:=xv.o.bel.size;clear bu Q6 nr ew U6;go_wp2_with fail;refine Lt.begin 8 (λw'=>w'.heap[P]?=M (O #[F false,I 0,ze,F false,S nm,I q] 192 (0,0))) qi ?_;obtain⟨wD,eD⟩:=Aj w4.drew;rw[eD];have ct:Bw w4 wD:=qy;clear eD;replace gw:=Ac (gw.o.bl ct);replace A5:=Ac (Ab A5.o ct);replace t6:=Ac (Ab t6.o ct);replace uu:=Ac (Af uu.o ct);replace xv:=Ac (xv.o.trans (Cw.of_below ct ii));replace ii:W0.heap.size<=wD.heap.size:=Nat.le_trans ii ct.size;replace N4:W.heap.size<=wD.heap.size:=Nat.le_trans N4 ct.size;have gp:(λw'=>w'.heap[P]?=M (O #[F false,I 0,ze,F false,S nm,I q] 192 (0,0))) wD:=uu.o;change K 0 _
     iterate 4
      refine Lt.ti (v:=?_) gp ?_ ?_;rotate_left 1
      ·exact qlo
      simp only[gX]
     refine Lt.sp (i:=4) (λK hK=>?_);go_simp;refine(Ln tb _).mono ?_;rintro e wF ⟨rfl,rfl⟩;refine hK.out _ _ (λ_=>gp) (λ_=>?_);clear hK K 
     try simp only[gX]
     refine Lt.ti (i:=5) (v:=?_) gp ?_ ?_;rotate_left 1
     ·exact qlo
     simp only[gX];refine Lt.sp (i:=6) (λK hK=>?_);go_simp;refine Dn (Q:=λx=>K _ x) ?_;intro wL fb O6
     try dsimp only
     obtain⟨dL,edL⟩:=Aj wD.heap.size;rw[edL]at O6 ⊢;replace gw:=Ac (gw.o.bl fb);replace A5:=Ac (Ab A5.o fb);replace t6:=Ac (Ab t6.o fb);replace uu:=Ac (Af uu.o fb);replace xv:=Ac (xv.o.trans (Cw.of_below fb ii));replace ii:W0.heap.size<=wL.heap.size:=Nat.le_trans ii fb.size;replace N4:W.heap.size<=wL.heap.size:=Nat.le_trans N4 fb.size;have uq:(λw'=>w'.heap[P]?=M (O #[F false,I 0,ze,F false,S nm,I q] 192 (0,0))) wL:=uu.o;refine hK.out _ _ (λ_=>uq) (λ_=>?_);clear hK K fb
     try simp only[gX]
     refine Lt.sp (i:=7) (λK hK=>?_);refine Wj rfl qo W.heap.size _ ls.length (Oo ls) qo t6.o dL _ _ _ qo O6.o qcs N4 qb ?_;intro g' ai w7 ah ae;have F3:=t6.o;have D6:=Ac (gw.o.gr F3 ae qd);have HF7:=Ac (xv.o.gr ae vz (λb q=>(F3.lt b q).1));have HY7:=Ac (Ok A5.o ae (apart A5.o F3 qd));have HT7:=Ac (Br uu.o ae (Ae F3 qd uu.o));(have HL7:Hd (w7.ownsRow W.heap.size 199 3 (J (p_ g') (ls++[(⟨nm,false,Cl tb⟩:G3)]).length ai) (ls++[(⟨nm,false,Cl tb⟩:G3)]).length (Oo (ls++[(⟨nm,false,Cl tb⟩:G3)]))):=by show World.ownsRow _ _ _ _ _ _ _;rw[List.length_append,List.length_singleton,gCx_snoc];exact ah);have Do:(λw'=>w'.heap[P]?=M (O #[F false,I 0,ze,F false,S nm,I q] 192 (0,0))) w7:=HT7.o;refine hK.out _ _ (λ_=>Do) (λ_=>?_);clear hK K ae ah F3 gw xv A5 t6 uu;simp only[gX];refine Lt.sp (i:=8) (λK hK=>?_);go_simp;refine hK.out _ _ (λh=>absurd rfl h) (λ_=>?_);clear hK K;refine Lt.done qi ?_ _;go_wp2_with fail;go_roundw
     case rel=>exact⟨ys++[(⟨tb,0,⟨#[]⟩⟩:R3)],ls++[(⟨nm,false,Cl tb⟩:G3)],ms',s',v',p_ g4,p_ g',yk,ai,qh,qdu,qdu,HRN,HLN,O8.o qad,HI,HK,HC7,uz,HY7,HL7,HF7,D6⟩
     case measure=>simp[lenV];omega
    ·go_wp2_with fail
     clear e3 eP t0 t1 t2 t3 t4 t5;refine(HM.o ms' s' v' nm w3 pk.o HS.o HI.o HK.o ox.o (by have:=HC.o;have:=HPH.o;omega) uz.o).mono ?_;rintro e w5 ⟨br,s2,a2,bi,⟨dd,v2,rfl,rfl,bx,cw⟩|⟨bb,nb,rfl,rfl,bx,pa⟩⟩;rotate_left 1
     ·have jw:=Ac (HABD.o qad _ _ _ bi)
      have fl:=Ac (fu.o.trans bx);have uh:=Ac pa;have yj:W0.heap.size<=w5.heap.size:=Nat.le_trans bj bx.bel.size;clear bi bx pa
      go_upto_region 11 with fail
      obtain⟨w6,e6⟩:=Aj (w5.alloc (O #[I (Jw bb),ze,nS] 120));have bz:Bw w5 w6:=qax;rw[e6];clear e6;replace fl:=Ac (fl.o.trans (Cw.of_below bz yj));replace uh:=Ac (uh.o.frx bz);have mu:=Ac (fl.o.blk jr.o (HN.o _ qb));clear bz;obtain⟨k9,_,_⟩:=uh.o.cells;exact qho
     obtain⟨i1,i2,i3,i4⟩:=Bc.inv HE.o.v bi HI.o HK.o ox.o (λb q=>qw);have zv:=Bc.cost HE.o.v bi HI.o HK.o ox.o (λb q=>qw);have HCT2:=Ac (Bc.cntM HE.o.v bi HI.o HK.o ox.o (λb q=>qw) rfl uz.o);have J1:=i1.done _ _ i4;have HMD:=Ac J1;have E0:=Ac i1;have fs:=Ac i2;have HRN0:=Ac (pe.o.asked J1 (⟨nm,true,Bi dd.c dd.t⟩:G3));have HLN0:Hd (Mk (ls++[⟨nm,true,Bi dd.c dd.t⟩])):=O7.o.snoc ox.o (Dp J1.t2);have HCON0:=Ac (P1.o qad _ _ _ bi);(have HC20:Hd (400200*Db ts ms st+br.length<=ms.length+(ys.length+1)+400200*Db ts br st):=by have:=HC.o;show _<=_;simp only[Ot]at zv;omega);replace HY:=Ac (bx.own HY.o (HS.o.notT HY.o qd qd qd qd));replace HL:=Ac (bx.own HL.o (HS.o.notT HL.o qd qd qd qd));replace HT:=Ac (bx.blk HT.o HNP.o);replace fu:=Ac (fu.o.trans bx);replace pk:=Ac (pk.o.trans bx.bel);replace HS:=Ac cw;replace bj:W0.heap.size<=w5.heap.size:=Nat.le_trans bj bx.bel.size;replace A0:W.heap.size<=w5.heap.size:=Nat.le_trans A0 bx.bel.size;clear bi bx cw i1 i2 i3 i4 zv J1 HHA P1 HABD O8 pe HC HCr
     have HHA:Hd (∀V,Bw w5 V->Calls prog 112 #[D (p_ h),S nm] V λe w'=>Bw V w'/\e=H (F (Cf ss ts nm))):=λV hV=>by
      exact qig
     obtain⟨dc,edc⟩:=Aj dd.c;obtain⟨dt,edt⟩:=Aj dd.t;rw[edc,edt]at HLN0 HRN0 HCON0;rw[edc,edt];have HFO:Hd (∀V:E,Calls prog 114 #[G #[I dc,S dt,nS]] V λe w'=>e=H (S (Bi dc dt))/\Bw V w'):=λV=>Mv dc dt V (by rw[←edc];exact HMD.o.c0) (by rw[←edc];exact HMD.o.c5) qgs;have HDE:=Ac (And.intro edc edt);clear edc edt
     go_upto_region 11 with fail
     obtain⟨RR,eRR⟩:=Aj w5.heap.size;obtain⟨w6,e6⟩:=Aj (w5.alloc (O #[I dc,S dt,nS] 120));have bz:Bw w5 w6:=qax;have jv:Hd (w6.heap[RR]?=M (O #[I dc,S dt,nS] 120 (0,0))):=qbq;rw[e6]
     try rw[eRR]
     clear e6;replace HS:=Ac (HS.o.bl bz);replace HY:=Ac (Ab HY.o bz);replace HL:=Ac (Ab HL.o bz);replace fu:=Ac (fu.o.trans (Cw.of_below bz bj));replace pk:=Ac (pk.o.trans (Below.mono bz bj));replace HT:=Ac (Af HT.o bz);replace bj:W0.heap.size<=w6.heap.size:=Nat.le_trans bj bz.size;replace A0:W.heap.size<=w6.heap.size:=Nat.le_trans A0 bz.size;have HB56:=Ac bz;clear bz;have k9:=cK HS.o.blk 9;obtain⟨x0,x1,x2⟩:=Bd jv.o;obtain⟨t0,t1,t2,t3,t4,t5⟩:=Hj HT.o
     go_upto_region 14 with fail
     clear k9 x0 x1 x2 t0 t1 t2 t3 t4 t5;obtain⟨AK,eY⟩:=Aj w6.heap.size;obtain⟨w7,e7⟩:=Aj (w6.alloc (O #[F true,I dc,S dt] 196));have ce:=aB e7;have HYB:=Ac (nW e7 eY);rw[e7]
     try rw[eY]
     clear e7;have hYw:W.heap.size<=AK:=qb;(have HNY:Hd (∀b,(Value.slice ra ys.length rc).ownBlock=M b->b≠AK):=λb q k=>by have:=(HY.o.lt b q).2;omega);have hYne:AK≠P/\AK≠RR:=⟨λq=>by have:=Ag HT.o;omega,λq=>by have:=Ag jv.o;omega⟩;replace HS:=Ac (HS.o.bl ce);replace HY:=Ac (Ab HY.o ce);replace HL:=Ac (Ab HL.o ce);replace fu:=Ac (fu.o.trans (Cw.of_below ce bj));replace pk:=Ac (pk.o.trans (Below.mono ce bj));replace HT:=Ac (Af HT.o ce);replace jv:=Ac (Af jv.o ce);replace bj:W0.heap.size<=w7.heap.size:=Nat.le_trans bj ce.size;replace A0:W.heap.size<=w7.heap.size:=Nat.le_trans A0 ce.size;have HB57:=Ac (bt HB56.o ce);clear ce;obtain⟨t0,t1,t2,t3,t4,t5⟩:=Hj HT.o;go_wp2_with fail;clear t0 t1 t2 t3 t4 t5;refine(HHA.o w7 HB57.o).mono ?_;rintro e w8 ⟨i6,rfl⟩;replace HS:=Ac (HS.o.bl i6);replace HY:=Ac (Ab HY.o i6);replace HL:=Ac (Ab HL.o i6);replace fu:=Ac (fu.o.trans (Cw.of_below i6 bj));replace pk:=Ac (pk.o.trans (Below.mono i6 bj));replace HT:=Ac (Af HT.o i6);replace jv:=Ac (Af jv.o i6);replace HYB:=Ac (Af HYB.o i6);replace bj:W0.heap.size<=w8.heap.size:=Nat.le_trans bj i6.size;replace A0:W.heap.size<=w8.heap.size:=Nat.le_trans A0 i6.size;clear i6 HB56 HB57 HHA;obtain⟨tb,etb⟩:=Aj (Cf ss ts nm);rw[etb];(have HRP:Hd (Vn ss ts nm dd=if tb=true then ⟨true,dc,dt⟩ else ⟨false,0,⟨#[]⟩⟩):=by show _=_;unfold Vn;rw[etb,HDE.o.1,HDE.o.2]);clear etb
     go_upto_if 68 with fail
     go_cut [11] (λp wx=>∃(y:R3),p=D (p_ AK)/\Hd (y=Vn ss ts nm dd)/\Hd (wx.heap[AK]?=M (O #[F y.has,I y.code,S y.text] 196 (0,0)))/\Hd (Cw W0.heap.size (Bz h v) (Bz h v2) W wx)/\Hd (Fy W0.heap.size h (J sa ss.length c1) (J ta ts.length c2) n wx br s2 st v2)/\Hd (wx.ownsRow W.heap.size 196 3 (J ra ys.length rc) ys.length (Dx ys))/\Hd (wx.ownsRow W.heap.size 199 3 (J la ls.length lc) ls.length (Oo ls))/\Hd (wx.heap[P]?=M (O #[F false,I 0,ze,F true,S nm,I q] 192 (0,0)))/\Hd (wx.heap[RR]?=M (O #[I dc,S dt,nS] 120 (0,0))))
     case first=>
      obtain⟨z0,z1,z2,zf⟩:=Dw HYB.o;cases tb
      ·go_wp2_with fail
       go_meet
       case rel=>exact⟨⟨false,0,⟨#[]⟩⟩,rfl,(by have:=HRP.o;show _=_;rw[this];rfl),Bn HYB.o _ _ _,fu.o.set3 hYw (Nat.le_trans vz hYw) _ _ _,HS.o.set3 ⟨_,HYB.o⟩ qd _ _ _,Wo HY.o HNY.o _ _ _,own_setT3 HL.o ⟨_,HYB.o⟩ qd _ _ _,Pt HT.o (Ne.symm hYne.1) _ _ _,Pt jv.o (Ne.symm hYne.2) _ _ _⟩
      ·go_wp2_with fail
       go_meet
       case rel=>exact⟨⟨true,dc,dt⟩,rfl,(by have:=HRP.o;show _=_;rw[this];rfl),HYB,fu,HS,HY,HL,HT,jv⟩
     case rest=>
      obtain⟨y,rfl,EY,HYX,oe,mj,HYR,HLX,rv,mu⟩:=hcut;have bj:W0.heap.size<=wc.heap.size:=Nat.le_trans vz oe.o.bel.size;have A0:W.heap.size<=wc.heap.size:=oe.o.bel.size;(have HRN:Hd (Gf is (ys++[y]) (ls++[⟨nm,true,Bi dc dt⟩])):=by show Gf _ _ _;rw[EY.o];exact HRN0.o);have HLN:=HLN0;(have HC7:Hd (400200*Db ts ms st+br.length<=ms.length+(ys++[y]).length+400200*Db ts br st):=by have:=HC20.o;show _<=_;rw[List.length_append,List.length_singleton];omega);(have HCN:Hd (∀j9 s3 a,Bc ss ts n br s2 st (.run is (ys++[y]) (ls++[⟨nm,true,Bi dc dt⟩])) j9 s3 a->Bc ss ts n ms s st (.run is [] []) j9 s3 a):=by show ∀j9 s3 a,_;rw[EY.o];exact HCON0.o);clear HY HL HT jv HS fu HYB HRN0 HCON0 HC20 EY pk;have jv:=mu;obtain⟨k0,k1,k2⟩:=Bd HYX.o;obtain⟨yh,yc,yt,ey⟩:∃a b c,y=⟨a,b,c⟩:=⟨_,_,_,rfl⟩;subst ey;dsimp only at k0 k1 k2
      go_wp2_with (first|(at_builtin;refine wpList_append_own _ rfl (.tmp 70) (.tmp 72) 189 rfl W.heap.size 196 i0 (G #[F false,I 0,ze]) 3 32 underlying189 ye bq E6 E5 rfl qd _ _ _ rfl (HYR.o.alloc _) ⟨wc.heap.size,0,N⟩ 1 1 [F yh,I yc,S yt] rfl rfl (Ou _ _ _ _ _) (by intro u hu;simp at hu;rcases hu with rfl|rfl|rfl<;>rfl) qm qb qh ?_;intro v4 w4 nr ew U6))
      clear k0 k1 k2
      obtain⟨g4,yk,rfl⟩:∃g cp,v4=J (p_ g) (ys.length+1) cp:=by
       exact qmj
      have bu:Bw wc (wc.alloc (O #[F yh,I yc,S yt] 196)):=aN _ _;have Q6:=Ab HYR.o bu;(have A5:Hd (w4.ownsRow W.heap.size 196 3 (J (p_ g4) (ys++[(⟨yh,yc,yt⟩:R3)]).length yk) (ys++[(⟨yh,yc,yt⟩:R3)]).length (Dx (ys++[(⟨yh,yc,yt⟩:R3)]))):=by show World.ownsRow _ _ _ _ _ _ _;rw[List.length_append,List.length_singleton,Od];exact nr);have gw:=Ac ((mj.o.bl bu).gr Q6 ew qd);have xv:=Ac ((oe.o.trans (Cw.of_below bu bj)).gr ew vz (λb q=>(Q6.lt b q).1));have t6:=Ac (Ok (Ab HLX.o bu) ew (apart (Ab HLX.o bu) Q6 qd));have uu:=Ac (Br (Af rv.o bu) ew (Ae Q6 qd (Af rv.o bu)));have li:=Ac (Br (Af jv.o bu) ew (Ae Q6 qd (Af jv.o bu)));have ii:W0.heap.size<=w4.heap.size:=Nat.le_trans vz xv.o.bel.size;have N4:W.heap.size<=w4.heap.size:=xv.o.bel.size;clear bu Q6 nr ew U6;go_wp2_with fail;refine Lt.begin 8 (λw'=>w'.heap[P]?=M (O #[F false,I 0,ze,F true,S nm,I q] 192 (0,0))/\w'.heap[RR]?=M (O #[I dc,S dt,nS] 120 (0,0))) qi ?_;obtain⟨wD,eD⟩:=Aj w4.drew;rw[eD];have ct:Bw w4 wD:=qy;clear eD;replace gw:=Ac (gw.o.bl ct);replace A5:=Ac (Ab A5.o ct);replace t6:=Ac (Ab t6.o ct);replace uu:=Ac (Af uu.o ct);replace xv:=Ac (xv.o.trans (Cw.of_below ct ii));replace li:=Ac (Af li.o ct);replace ii:W0.heap.size<=wD.heap.size:=Nat.le_trans ii ct.size;replace N4:W.heap.size<=wD.heap.size:=Nat.le_trans N4 ct.size;have gp:(λw'=>w'.heap[P]?=M (O #[F false,I 0,ze,F true,S nm,I q] 192 (0,0))/\w'.heap[RR]?=M (O #[I dc,S dt,nS] 120 (0,0))) wD:=⟨uu.o,li.o⟩;change K 0 _
      iterate 4
       refine Lt.ti (v:=?_) gp ?_ ?_;rotate_left 1
       ·exact qjy
       simp only[gX]
      refine Lt.sp (i:=4) (λK hK=>?_);go_simp;refine(HFO.o _).mono ?_;rintro e wF ⟨rfl,hbF⟩;replace gw:=Ac (gw.o.bl hbF);replace A5:=Ac (Ab A5.o hbF);replace t6:=Ac (Ab t6.o hbF);replace uu:=Ac (Af uu.o hbF);replace xv:=Ac (xv.o.trans (Cw.of_below hbF ii));replace li:=Ac (Af li.o hbF);replace ii:W0.heap.size<=wF.heap.size:=Nat.le_trans ii hbF.size;replace N4:W.heap.size<=wF.heap.size:=Nat.le_trans N4 hbF.size;have uq:(λw'=>w'.heap[P]?=M (O #[F false,I 0,ze,F true,S nm,I q] 192 (0,0))/\w'.heap[RR]?=M (O #[I dc,S dt,nS] 120 (0,0))) wF:=⟨uu.o,li.o⟩;refine hK.out _ _ (λ_=>uq) (λ_=>?_);clear hK K hbF
      try simp only[gX]
      refine Lt.ti (i:=5) (v:=?_) uq ?_ ?_;rotate_left 1
      ·exact qjy
      simp only[gX];refine Lt.sp (i:=6) (λK hK=>?_);go_simp;refine Dn (Q:=λx=>K _ x) ?_;intro wL fb O6
      try dsimp only
      obtain⟨dL,edL⟩:=Aj wF.heap.size;rw[edL]at O6 ⊢;replace gw:=Ac (gw.o.bl fb);replace A5:=Ac (Ab A5.o fb);replace t6:=Ac (Ab t6.o fb);replace uu:=Ac (Af uu.o fb);replace xv:=Ac (xv.o.trans (Cw.of_below fb ii));replace li:=Ac (Af li.o fb);replace ii:W0.heap.size<=wL.heap.size:=Nat.le_trans ii fb.size;replace N4:W.heap.size<=wL.heap.size:=Nat.le_trans N4 fb.size;have hS2:(λw'=>w'.heap[P]?=M (O #[F false,I 0,ze,F true,S nm,I q] 192 (0,0))/\w'.heap[RR]?=M (O #[I dc,S dt,nS] 120 (0,0))) wL:=⟨uu.o,li.o⟩;refine hK.out _ _ (λ_=>hS2) (λ_=>?_);clear hK K fb
      try simp only[gX]
      refine Lt.sp (i:=7) (λK hK=>?_);refine Wj rfl qo W.heap.size _ ls.length (Oo ls) qo t6.o dL _ _ _ qo O6.o qcs N4 qb ?_;intro g' ai w7 ah ae;have F3:=t6.o;have D6:=Ac (gw.o.gr F3 ae qd);have HF7:=Ac (xv.o.gr ae vz (λb q=>(F3.lt b q).1));have HY7:=Ac (Ok A5.o ae (apart A5.o F3 qd));have HT7:=Ac (Br uu.o ae (Ae F3 qd uu.o));have HR7:=Ac (Br li.o ae (Ae F3 qd li.o));(have HL7:Hd (w7.ownsRow W.heap.size 199 3 (J (p_ g') (ls++[(⟨nm,true,Bi dc dt⟩:G3)]).length ai) (ls++[(⟨nm,true,Bi dc dt⟩:G3)]).length (Oo (ls++[(⟨nm,true,Bi dc dt⟩:G3)]))):=by show World.ownsRow _ _ _ _ _ _ _;rw[List.length_append,List.length_singleton,gCx_snoc];exact ah);have Do:(λw'=>w'.heap[P]?=M (O #[F false,I 0,ze,F true,S nm,I q] 192 (0,0))/\w'.heap[RR]?=M (O #[I dc,S dt,nS] 120 (0,0))) w7:=⟨HT7.o,HR7.o⟩;refine hK.out _ _ (λ_=>Do) (λ_=>?_);clear hK K ae ah F3 gw xv A5 t6 uu;simp only[gX];refine Lt.sp (i:=8) (λK hK=>?_);go_simp;refine hK.out _ _ (λh=>absurd rfl h) (λ_=>?_);clear hK K;refine Lt.done qi ?_ _;go_wp2_with fail;go_roundw
      case rel=>exact⟨ys++[(⟨yh,yc,yt⟩:R3)],ls++[(⟨nm,true,Bi dc dt⟩:G3)],br,s2,v2,p_ g4,p_ g',yk,ai,qh,qdu,qdu,HRN,HLN,HCN,E0,fs,HC7,HCT2,HY7,HL7,HF7,D6⟩
      case measure=>simp[lenV];omega
end Go.Proofs.YtbkkjodaaijimaaGreatDoor
