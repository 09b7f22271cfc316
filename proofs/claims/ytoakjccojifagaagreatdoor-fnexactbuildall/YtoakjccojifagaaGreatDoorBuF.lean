import Derived.Test.YtoakjccojifagaaGreatDoorBuC
namespace Go.Proofs.YtoakjccojifagaaGreatDoor
open _root_.Go.Proofs.Tryz Go.RowKit Go.Deep
open Value renaming slice->J,string->S,bool->F,agg->G,pointer->D
open Option renaming some->M,none->N
open Obj renaming cells->O
open Go renaming Value->Z,World->E
open _root_ renaming List->L,Nat->X
set_option linter.unusedVariables false
set_option maxHeartbeats 8000000
set_option maxRecDepth 100000
set_option linter.unusedSimpArgs false
variable {a:Option Addr} {B h cap:X} {C:Ga} {sv tv av kv nv:Z} {ss:L S2} {ts:L T2} {ms:Mm} {s:Sb} {st:L By} {r:Rv} {is:L I3} {w w':E} {nm:By} {b:Gl}
section
open Go.Deep
theorem Qs{s x:Operand}{W:E}{ops:Array Oper}{o:Oper}{a:Act}{K:Act->E->Prop}{Q:Exit->Act->E->Prop}{AF:Prop}(ru:o.guard=N)(ho:o.op=.call { callee:=.builtin .append,args:=#[s,x],argTypes:=#[22,22] })(B:X)(sa:Option Addr)(nn cap:X)(xs:L Z)(hs:a.eval s=J sa nn cap)(ah:W.ownsRow B 9 1 (J sa nn cap) nn xs)(d:X)(t:By)(hx:a.eval x=J (p_ d) 1 1)(hc:W.heap[d]?=M (O #[S t] 9 (0,0)))(hB:B<=W.heap.size)(hn:nn<=100000)(h:∀g' ai w',w'.ownsRow B 9 1 (J (p_ g') (nn+1) ai) (nn+1) (xs++[S t])->W.grownBy w' (Value.slice sa nn cap).ownBlock->((Value.slice sa nn cap).ownBlock=M g'\/g'=W.heap.size)->K (a.put o.dst (J (p_ g') (nn+1) ai)) w'):if Region.wanted o (yielded ops a.tmps)=true then Oper.wp prog o a W K Q else AF:=by
 obtain⟨i0,hi,bo,bm,cm⟩:=info_parts Tryz.info9b
 refine step_append_lies (w:=W) ru s x 22 ho B 9 i0 ze 1 16 underlying22 hi bo bm cm rfl qd _ nn xs hs ah ⟨d,0,N⟩ 1 1 [S t] hx rfl
  (World.news_of_block (cs:=#[S t]) (t:=9) (fr:=(0,0)) hc) qaf qb qm qb hB W.heap.size rfl ?_
 exact qgd
def Ou(d:Md)(v:Z):Z:=G #[F false,I d.c,S d.t,nS,ze,v]
theorem An.less{w w1:E}{v v':Z}(h:An w1 v v')(hs:w.heap.size<=w1.heap.size):An w v v':=λb q=>(h b q).imp id (λq=>qb)
end
def Vh(B h mb:X)(C:Ga)(sv tv:Z)(ss:L S2)(ts:L T2)(ms:Mm)(s:Sb)(st:L By)(av kv:Z)(r:Rv)(nm:By)(w:E)(e:Ending)(w':E):Prop:=
 (∃ms1 mk ms' s' d lv av' kv' vs' r',e=.returned (Ou d lv)/\(∃a n c,lv=J a n c)/\BS B h mb 1 C sv tv ss ts w' ms1 mk st (ms'.length+st.length) av' kv' vs' s' r'/\(∀x,x≠nm->(Eg mk x↔Eg st x))/\ms'=ms1++[(nm,d)]/\fd ms1 nm=N/\Ba ss ts C.n ms s st (.make nm) ms' s' (.ok d)/\KQ B h mb C av kv r r' w w'/\An w av av'/\An w kv kv'/\r'.sn+400200*Dh ts ms st<=r.sn+400200*Dh ts ms' st)\/
 (∃b v r' ms' s',e=Lh v/\KQ B h mb C av kv r r' w w'/\Ba ss ts C.n ms s st (.make nm) ms' s' (.bad b)/\Df B C w' b v)
def WorkB(B h mb:X)(C:Ga)(sv tv:Z)(ss:L S2)(ts:L T2)(ms:Mm)(s:Sb)(st:L By)(av kv:Z)(r:Rv)(tn:By)(is:L I3)(w:E)(e:Ending)(w':E):Prop:=
 (∃ms' s' d lv av' kv' vs' r',e=.returned (.tuple #[lv,G #[I d.c,S d.t,nS]])/\(∃a n c,lv=J a n c)/\Ba ss ts C.n ms s st (.work tn is) ms' s' (.ok d)/\Je B h mb C sv tv ss ts w' ms' st av' kv' vs' s' r'/\KQ B h mb C av kv r r' w w'/\An w av av'/\An w kv kv'/\r'.sn+400200*Dh ts ms st<=r.sn+400200+400200*Dh ts ms' st)\/
 (∃b v r' ms' s',e=Lh v/\KQ B h mb C av kv r r' w w'/\Ba ss ts C.n ms s st (.work tn is) ms' s' (.bad b)/\Df B C w' b v)
def Ku(W0:E)(h mb:X)(C:Ga)(sv tv:Z)(ss:L S2)(ts:L T2)(st:L By)(tn:By)(a:Option Addr)(cap:X)(is:L I3):Prop:=
 ∀(w:E)(ms:Mm)(av kv:Z)(vs:By->Z)(s:Sb)(r:Rv),Je W0.heap.size h mb C sv tv ss ts w ms st av kv vs s r->Ff ss ts C.n ms s st r.sn 400200->Bw W0 w->
   Calls prog 85 #[D (p_ C.hb),G #[S tn,J a is.length cap]] w λe w'=>WorkB W0.heap.size h mb C sv tv ss ts ms s st av kv r tn is w e w'
theorem step_work{fi xi:X}{W:E}{ops:Array Oper}{o:Oper}{a:Act}{K:Act->E->Prop}{Q:Exit->Act->E->Prop}{AF:Prop}(ru:o.guard=N)(ho:o.op=.call { callee:=.value (.tmp fi),args:=#[.tmp xi],argTypes:=#[99] }){mb:X}{tn:By}{p:Option Addr}(hf:a.eval (.tmp fi)=fvC C)(hx:a.eval (.tmp xi)=G #[S tn,J p is.length cap])(hc:Calls prog 85 #[D (p_ C.hb),G #[S tn,J p is.length cap]] W λe w'=>WorkB B h mb C sv tv ss ts ms s st av kv r tn is W e w')(fw:∀w' m8 s8 dc dt dls la ln lc av' kv' vs' r',Ba ss ts C.n ms s st (.work tn is) m8 s8 (.ok ⟨dc,dt,dls⟩)->Je B h mb C sv tv ss ts w' m8 st av' kv' vs' s8 r'->KQ B h mb C av kv r r' W w'->An W av av'->An W kv kv'->r'.sn+400200*Dh ts ms st<=r.sn+400200+400200*Dh ts m8 st->K (a.put o.dst (.tuple #[J la ln lc,G #[I dc,S dt,nS]])) w')(hpan:∀w' b v r' m8 s8,KQ B h mb C av kv r r' W w'->Ba ss ts C.n ms s st (.work tn is) m8 s8 (.bad b)->Df B C w' b v->Q (.panic [{ v:=.iface 182 v,recovered:=false }]) a w'):if Region.wanted o (yielded ops a.tmps)=true then Oper.wp prog o a W K Q else AF:=by
 have hw:Region.wanted o (yielded ops a.tmps)=true:=qbh
 have ku:(execOp a.eval o).run prog W=.ok (.enter 85 #[D (p_ C.hb),G #[S tn,J p is.length cap]]) W:=by
  unfold execOp;rw[ho];unfold fvC at hf;simp[Act.eval]at hf hx;simp[go_sem,Act.eval,hf,hx]
 rw[if_pos hw];unfold Oper.wp;rw[ku,Oper.upon_enter];refine hc.mono ?_;rintro e w8 (⟨m8,s8,⟨dc,dt,dls⟩,lv,ry,py,wa,r8,rfl,⟨la,ln,lc,rfl⟩,oy,hs8,mg,Q0,sy,mn⟩|⟨b,v,r8,m8,s8,rfl,mg,oy,hv⟩)
 ·exact fw w8 m8 s8 dc dt dls la ln lc ry py wa r8 oy hs8 mg Q0 sy mn
 ·exact hpan w8 b v r8 m8 s8 mg oy hv
theorem KQ.alloc1{mb k:X}{w8:E}{mk:L By}{al:X}{vs:By->Z}{r':Rv}{o:Obj}(q:BS B h mb k C sv tv ss ts w ms mk st al av kv vs s r)(hk:KQ B h mb C av kv r r' (w.alloc o) w8)(hB:B<=w.heap.size):KQ B h mb C av kv r r' w w8:=(KQ.of_below q (Ai _ _) hB).trans (An.refl _ _) (An.refl _ _) (q.bl (Ai _ _)) hk
structure RXB (B h mb P R:X) (C:Ga) (sv tv:Z) (ss:L S2) (ts:L T2) (w:E) (ms:Mm) (s:Sb) (st:L By) (av kv:Z) (r:Rv) (nm:By) (is:L I3) (m8:Mm) (s8:Sb) (dc:Int) (dt:By) (dls:L G3) (ry:Z) (g8 xe:X) (wa:By->Z) (r8:Rv) (wx:E):Prop where
 ma:Je B h mb C sv tv ss ts wx m8 (st++[nm]) ry (J (p_ g8) (st.length+1) xe) wa s8 r8
 pb:wx.heap[P]?=M (O #[I dc,S dt,nS] 121 (0,0))
 rb:wx.heap[R]?=M (O #[F false,I 0,ze,nS,ze,nS] 156 (0,0))
 kp:KQ B h mb C av kv r r8 w wx
 ra:An w av ry
 rk:An w kv (J (p_ g8) (st.length+1) xe)
 dd:Ba ss ts C.n ms s (st++[nm]) (.work nm is) m8 s8 (.ok ⟨dc,dt,dls⟩)
 sn:r8.sn+400200*Dh ts ms (st++[nm])<=r.sn+400200+400200*Dh ts m8 (st++[nm])
theorem RXB.bl{mb P R:X}{m8:Mm}{s8:Sb}{dc:Int}{dt:By}{dls:L G3}{ry:Z}{g8 xe:X}{wa:By->Z}{r8:Rv}{wx:E}(q:RXB B h mb P R C sv tv ss ts w ms s st av kv r nm is m8 s8 dc dt dls ry g8 xe wa r8 wx)(hb:Bw wx w')(hB:B<=wx.heap.size):RXB B h mb P R C sv tv ss ts w ms s st av kv r nm is m8 s8 dc dt dls ry g8 xe wa r8 w':=
 ⟨q.ma.bl hb,Ab hb q.pb,Ab hb q.rb,q.kp.after q.ra q.rk q.ma hb hB,q.ra,q.rk,q.dd,q.sn⟩
theorem Tc(W0:E)(h mb:X)(C:Ga)(sa ta a:Option Addr)(c1 c2 cap i:X)(ss:L S2)(ts:L T2)(nm:By)(ms:Mm)(s:Sb)(st:L By)(av kv:Z)(vs:By->Z)(r:Rv)(w:E)(hE:He W0 sa ta ss ts)(q:BS W0.heap.size h mb 2 C (J sa ss.length c1) (J ta ts.length c2) ss ts w ms st st (ms.length+st.length+1) av kv vs s r)(hp:Ff ss ts C.n ms s st r.sn 0)(hW:Bw W0 w)(hk:fd ms nm=N)(cw:¬ Eg st nm)(jy:st.length<=60)(de:Ar nm)(hns:¬ Eg (Am ss) nm)(hti:i<ts.length)(htn:(tx ts i).name=nm)(hR:st.length<60->Ku W0 h mb C (J sa ss.length c1) (J ta ts.length c2) ss ts (st++[nm]) nm a cap (tx ts i).code):Calls prog 163 #[D (p_ h),G #[S nm,J a (tx ts i).code.length cap]] w λe w'=>Vh W0.heap.size h mb C (J sa ss.length c1) (J ta ts.length c2) ss ts ms s st av kv r nm w e w':=by
 have hB:=hW.size
 have hth:Eg (Ak ts) nm:=htn▸Iu hti
 obtain⟨is,eis⟩:=Aj ((tx ts i).code)
 obtain⟨W,eW⟩:=Aj (((w.alloc (O #[S nm,J a is.length cap] 99)).alloc (O #[F false,I 0,ze,nS,ze,nS] 156)))
 have bq:Bw w W:=qbs
 have yr:Hd (W.heap[w.heap.size]?=M (O #[S nm,J a is.length cap] 99 (0,0))):=by
  show _=_;rw[<- eW,Lib.alloc_old _ _ _ qg];exact Bg _ _
 have lj:Hd (W.heap[w.heap.size+1]?=M (O #[F false,I 0,ze,nS,ze,nS] 156 (0,0))):=by
  show _=_;rw[<- eW];have h:=Bg (w.alloc (O #[S nm,J a is.length cap] 99)) (O #[F false,I 0,ze,nS,ze,nS] 156);rw[show(w.alloc (O #[S nm,J a is.length cap] 99)).heap.size=w.heap.size+1 from qg]at h;exact h
 have s1:=q.bl bq
 obtain⟨x0,x1,x2,x3,x4,x5,xf⟩:=s1.mkr.cells
 obtain⟨ka,kc,rfl⟩:∃ka kc,kv=J ka st.length kc:=by
  rcases s1.mkr.stk.2 with⟨e,h0⟩|⟨g,cap,cur,e,_⟩
  ·exact qeb
  ·exact⟨_,_,e⟩
 obtain⟨t0,t1⟩:=ck2 yr.o
 have HS:Hd (BS W0.heap.size h mb 2 C (J sa ss.length c1) (J ta ts.length c2) ss ts W ms st st (ms.length+st.length+1) av (J ka st.length kc) vs s r):=s1
 have HK:Hd (KQ W0.heap.size h mb C av (J ka st.length kc) r r w W):=KQ.of_below q bq hB
 have HQ0:=Ad q
 have HF:Hd (Ff ss ts C.n ms s st r.sn 0/\¬ Eg st nm/\Bw W0 w/\fd ms nm=N/\Ar nm/\¬ Eg (Am ss) nm/\Eg (Ak ts) nm):=⟨hp,cw,hW,hk,de,hns,hth⟩
 have Z3:Hd (i<ts.length/\(tx ts i).name=nm/\(tx ts i).code=is):=⟨hti,htn,eis⟩
 rw[eis]at hR ⊢
 have HR:=hR
 have HRA:Hd (st.length<60->Ku W0 h mb C (J sa ss.length c1) (J ta ts.length c2) ss ts (st++[nm]) nm a cap is):=HR
 have ly:=hp.small hE.l2
 have tj:=Ad ly
 have HE:Hd (He W0 sa ta ss ts):=hE
 clear q s1 hp hW hk cw hns hti htn hR HR bq hE eis hth ly
 by_cases hd:st.length=60
 ·have hdI:((st.length:Int) == 60)=true:=qh;have Do:Hd (Ba ss ts C.n ms s st (.make nm) ms s (.bad (.deep nm))):=.deep HF.o.2.2.2.1 HF.o.2.1 HF.o.2.2.2.2.2.1 HF.o.2.2.2.2.2.2 qb;have Z8:Hd (Df W0.heap.size C W (.deep nm) (G #[I 7,S nm,nS])):=⟨by rw[cH HS.o.rs.bd];rfl,by rw[cH HS.o.rs.bd];rfl,rfl⟩;go_enter func163,ntmps163;go_wp2_with fail;exact⟨rfl,Or.inr ⟨_,_,r,_,_,rfl,HK.o,Do.o,Z8.o⟩⟩
 ·have hdI:((st.length:Int) == 60)=false:=qh;go_enter func163,ntmps163
  go_upto_region 3 with fail
  obtain⟨U,eU⟩:=Aj W.drew;have bn:Bw W U:=qax;have sU:=HS.o.bl bn;clear x0 x1 x2 x3 x4 x5 xf;obtain⟨x0,x1,x2,x3,x4,x5,xf⟩:=sU.mkr.cells;have u0:U.cell? ⟨w.heap.size,0,N⟩=M (S nm):=by rw[cH (Ab bn yr.o)];rfl
  obtain⟨n,hn,hm⟩:=sU.mkr.map;obtain⟨w2,ku,rm,wz⟩:=hm.store (k:=nm) (by have:=de.2.1;unfold maxLen;omega) (by have:=tj.o.1;have:=tj.o.2.2.1;unfold maxLen;omega) Hy;have m2:=(sU.mkr.le (k':=1) qb).mark (n:=n+1) qb rm wz (λx=>markB_push HF.o.2.2.2.1 x) sU.mkr.vsl;have kp2:KP W0.heap.size h mb av (J ka st.length kc) U w2:=KP.mapped (KP.old (Below.refl _ _) (by have:=HK.o.bel.size;have:=bn.size;omega)) HS.o.mkr.mB wz (by have:=HK.o.bel.size;have:=bn.size;omega);have s2:BS W0.heap.size h mb 1 C (J sa ss.length c1) (J ta ts.length c2) ss ts w2 ms (st++[nm]) st (ms.length+st.length+1) av (J ka st.length kc) vs s r:=⟨m2,sU.rs.kp sU.mkr kp2⟩;unfold Hy at ku;have gg:Hd (KQ W0.heap.size h mb C av (J ka st.length kc) r r w w2):=(HK.o.after (An.refl _ _) (An.refl _ _) HS.o bn (zo HK.o.bel.size)).trans (An.refl _ _) (An.refl _ _) sU (KQ.of_kp sU kp2);have cu:Hd (BS W0.heap.size h mb 1 C (J sa ss.length c1) (J ta ts.length c2) ss ts w2 ms (st++[nm]) st (ms.length+st.length+1) av (J ka st.length kc) vs s r):=s2;have hmlt:∀b cs T,U.heap[b]?=M (Obj.cells cs T (0,0))->w2.heap[b]?=M (Obj.cells cs T (0,0)):=λb cs T q=>by rw[wz.block b (Ag q) (λe=>hm.notCells (by injection e with e;exact e▸q))];exact q
  have HTB2:Hd (w2.heap[w.heap.size]?=M (O #[S nm,J a is.length cap] 99 (0,0))):=hmlt _ _ _ (Ab bn yr.o);have HRB2:Hd (w2.heap[w.heap.size+1]?=M (O #[F false,I 0,ze,nS,ze,nS] 156 (0,0))):=hmlt _ _ _ (Ab bn lj.o);clear hmlt rm wz s2 m2 kp2 sU bn hm hn t0 t1;go_region;clear eU ku x0 x1 x2 x3 x4 x5 xf u0
  go_upto_region 4 with fail
  obtain⟨U,eU⟩:=Aj w2.drew;have bn:Bw w2 U:=qax;have dw:Hd (BS W0.heap.size h mb 1 C (J sa ss.length c1) (J ta ts.length c2) ss ts U ms (st++[nm]) st (ms.length+st.length+1) av (J ka st.length kc) vs s r):=cu.o.bl bn;have hsz2:=gg.o.bel.size;have ks:Hd (KQ W0.heap.size h mb C av (J ka st.length kc) r r w U):=gg.o.after (An.refl _ _) (An.refl _ _) cu.o bn qb;have HTU:Hd (U.heap[w.heap.size]?=M (O #[S nm,J a is.length cap] 99 (0,0))):=Ab bn HTB2.o;have mw:Hd (U.heap[w.heap.size+1]?=M (O #[F false,I 0,ze,nS,ze,nS] 156 (0,0))):=Ab bn HRB2.o;obtain⟨x0,x1,x2,x3,x4,x5,xf⟩:=dw.o.mkr.cells;have u0:=cK HTU.o 0;have hhu:h<U.heap.size:=Ag dw.o.mkr.blk;have hwu:w.heap.size<U.heap.size:=Ag HTU.o;have C8:Hd (∀o:Obj,(U.alloc o).ownsRow W0.heap.size 9 1 (J ka st.length kc) st.length (Av st)):=λo=>dw.o.mkr.stk.alloc o;clear bn
  go_cut [32] (λp wx=>∃g4 B8,p=J (p_ g4) (st.length+1) B8/\Hd (Je W0.heap.size h mb C (J sa ss.length c1) (J ta ts.length c2) ss ts wx ms (st++[nm]) av (J (p_ g4) (st.length+1) B8) vs s r/\KQ W0.heap.size h mb C av (J ka st.length kc) r r w wx/\An w (J ka st.length kc) (J (p_ g4) (st.length+1) B8)/\wx.heap[w.heap.size]?=M (O #[S nm,J a is.length cap] 99 (0,0))/\wx.heap[w.heap.size+1]?=M (O #[F false,I 0,ze,nS,ze,nS] 156 (0,0))))
  case first=>
   go_region_law (first|(refine Qs rfl rfl W0.heap.size ka st.length kc (Av st) ?_ ?_ U.heap.size nm ?_ ?_ ?_ ?_ ?_;(focus(first|rfl|(simp[Act.eval];done)));(focus(exact C8.o _));(focus(first|rfl|(simp[Act.eval];done)));(focus(exact Bg _ _));(focus(simp;omega));(focus omega);intro g4 B8 w4 ph ff K7;have hh4:w4.heap[h]?=M (O #[J sa ss.length c1,J ta ts.length c2,.map (M mb),av,J ka st.length kc,fvC C] 153 (0,0)):=(by rw[ff.block h qh (λe=>Ae dw.o.mkr.stk qd dw.o.mkr.blk e.symm),Lib.alloc_old _ _ _ hhu];exact dw.o.mkr.blk);obtain⟨⟨y0,y1,y2,y3,y4,y5⟩,yf⟩:=Sf hh4;have HG4:Hd (_/\_):=⟨ph,ff⟩;have vk:Hd (_\/_):=K7;clear ph ff K7 hh4))
   all_goals
    go_wp2_with fail;go_meet;obtain⟨p1,p2,p3⟩:=dw.o.mkr.push (nm:=nm) HG4.o.2 HG4.o.1 (by rcases vk.o with q|q;exact Or.inl q;exact Or.inr (by simpa using q)) qb;have rs1:=(dw.o.rs.kp dw.o.mkr p2).kv' dw.o.rs dw.o.ownA.1 dw.o.ownA.2 p3;have kq:=KQ.of_kp dw.o p2;have mq:ms.length+st.length+1=ms.length+(st++[nm]).length:=qh;rw[mq]at p1;exact⟨g4,B8,rfl,⟨p1,rs1⟩,ks.o.trans (An.refl _ _) (An.refl _ _) dw.o kq,(An.refl _ _).trans qb p3,kq.blk dw.o HTU.o qd,kq.blk dw.o mw.o qd⟩
  case rest=>
   obtain⟨g4,B8,rfl,HX⟩:=hcut;obtain⟨wk,rfl⟩:∃wk,wk=wc:=⟨_,rfl⟩;clear dw ks HTU mw x0 x1 x2 x3 x4 x5 xf u0 hhu hwu C8 eU
   go_upto_region 5 with fail
   obtain⟨U,eU⟩:=Aj wk.drew;have bn:Bw wk U:=qax;have hwk:=HX.o.2.1.bel.size;have dw:Hd (Je W0.heap.size h mb C (J sa ss.length c1) (J ta ts.length c2) ss ts U ms (st++[nm]) av (J (p_ g4) (st.length+1) B8) vs s r):=HX.o.1.bl bn
   have hpre:Ff ss ts C.n ms s (st++[nm]) r.sn 400200:=by
    have q2:Dh ts ms st+1<=Dh ts ms (st++[nm]):=by
     exact qjx
    have e1:=HF.o.1.ml;have e2:=HF.o.1.sl;have e3:=HF.o.1.cn;unfold cntO at e3;exact⟨HF.o.1.inv.push HF.o.2.2.2.1 HF.o.2.2.2.2.2.2,HF.o.1.ok,qb,by unfold cntO;simp only[List.length_append,List.length_singleton];omega,qb⟩
   have F8:Hd (∀V,Bw U V->Calls prog 85 #[D (p_ C.hb),G #[S nm,J a is.length cap]] V λe w'=>WorkB W0.heap.size h mb C (J sa ss.length c1) (J ta ts.length c2) ss ts ms s (st++[nm]) av (J (p_ g4) (st.length+1) B8) r nm is V e w'):=λV hV=>HRA.o qb V _ _ _ _ _ _ (dw.o.bl hV) hpre (HF.o.2.2.1.trans (HX.o.2.1.bel.trans ((bn.mono qb).trans (hV.mono (zo bn.size)))));have HTU:Hd (U.heap[w.heap.size]?=M (O #[S nm,J a is.length cap] 99 (0,0))):=Ab bn HX.o.2.2.2.1;have mw:Hd (U.heap[w.heap.size+1]?=M (O #[F false,I 0,ze,nS,ze,nS] 156 (0,0))):=Ab bn HX.o.2.2.2.2;have ks:Hd (KQ W0.heap.size h mb C av (J ka st.length kc) r r w U/\An w (J ka st.length kc) (J (p_ g4) (st.length+1) B8)):=⟨HX.o.2.1.after (An.refl _ _) HX.o.2.2.1 HX.o.1 bn qb,HX.o.2.2.1⟩;obtain⟨x0,x1,x2,x3,x4,x5,xf⟩:=dw.o.mkr.cells;obtain⟨u0,u1⟩:=ck2 HTU.o;have hhu:h<U.heap.size:=Ag dw.o.mkr.blk;have hwu:w.heap.size<U.heap.size:=Ag HTU.o;clear bn HX hpre
   go_cut [5,6] (λp q wx=>∃(P:X)(la:Option Addr)(ln lc:X)(dc:Int)(dt:By)(dls:L G3)(m8:Mm)(s8:Sb)(ry:Z)(g8 xe:X)(wa:By->Z)(r8:Rv),p=J la ln lc/\q=D (p_ P)/\Hd (RXB W0.heap.size h mb P (w.heap.size+1) C (J sa ss.length c1) (J ta ts.length c2) ss ts w ms s st av (J ka st.length kc) r nm is m8 s8 dc dt dls ry g8 xe wa r8 wx))
   case first=>
    go_region_law (first|(refine step_work rfl rfl ?_ ?_ (F8.o _ ?_) ?_ ?_;(focus(first|rfl|(simp[Act.eval];done)));(focus(first|rfl|(simp[Act.eval];done)));(focus(first|with_reducible exact Below.refl _ _|exact Ai _ _));rotate_left;(focus(intro w8 b v r8 m8 s8 mg oy hv;have M4:Hd (KQ W0.heap.size h mb C av (J (p_ g4) (st.length+1) B8) r r8 U w8):=(by show KQ _ _ _ _ _ _ _ _ _ _;first|with_reducible exact mg|exact KQ.alloc1 dw.o mg qb);have vr:Hd (Ba ss ts C.n ms s (st++[nm]) (.work nm is) m8 s8 (.bad b)/\Df W0.heap.size C w8 b v):=⟨oy,hv⟩;clear mg oy hv;go_wp2_with fail;exact⟨rfl,Or.inr ⟨b,v,r8,m8,s8,rfl,ks.o.1.trans (An.refl _ _) ks.o.2 dw.o M4.o,.fell HF.o.2.2.2.1 HF.o.2.1 HF.o.2.2.2.2.2.1 Z3.o.1 Z3.o.2.1 qb (by rw[Z3.o.2.2];exact vr.o.1),vr.o.2⟩⟩));intro w8 m8 s8 dc dt dls la ln lc ry py wa r8 oy hs8 mg Q0 sy zj;have M4:Hd (KQ W0.heap.size h mb C av (J (p_ g4) (st.length+1) B8) r r8 U w8):=(by show KQ _ _ _ _ _ _ _ _ _ _;first|with_reducible exact mg|exact KQ.alloc1 dw.o mg qb);have HA8:Hd (An U av ry):=(by show An _ _ _;first|with_reducible exact Q0|exact Q0.less qg);have vp:Hd (An U (J (p_ g4) (st.length+1) B8) py):=(by show An _ _ _;first|with_reducible exact sy|exact sy.less qg);have Do:Hd (Ba ss ts C.n ms s (st++[nm]) (.work nm is) m8 s8 (.ok ⟨dc,dt,dls⟩)/\r8.sn+400200*Dh ts ms (st++[nm])<=r.sn+400200+400200*Dh ts m8 (st++[nm])):=⟨oy,zj⟩;have gw:Hd (Je W0.heap.size h mb C (J sa ss.length c1) (J ta ts.length c2) ss ts w8 m8 (st++[nm]) ry py wa s8 r8):=hs8;(first|(have z8:=KQ.blk mg (dw.o.bl (Ai _ _)) (Bg _ _) qd;obtain⟨k0,k1,k2,kf⟩:=Dx z8;have ui:Hd (w8.heap[U.heap.size]?=M (O #[I 0,ze,nS] 121 (0,0))):=z8;clear z8)|skip);clear mg oy hs8 Q0 sy zj))
    all_goals
     go_wp2_with fail;go_meet
     obtain⟨g8,xe,rfl⟩:∃g cp,py=J (p_ g) (st.length+1) cp:=by
      have q:=gw.o.mkr.stk;rw[List.length_append,List.length_singleton]at q
      rcases q.2 with⟨_,h0⟩|⟨g,cp,cur,e,_⟩
      ·omega
      ·exact⟨g,cp,e⟩
     have hsU:=M4.o.bel.size;have hR8:w8.heap[w.heap.size+1]?=M (O #[F false,I 0,ze,nS,ze,nS] 156 (0,0)):=M4.o.blk dw.o mw.o qd;have P3:=ks.o.1.trans (An.refl _ _) ks.o.2 dw.o M4.o;have T0:=ks.o.2.trans qb vp.o;have rn:Hd (RXB W0.heap.size h mb w8.heap.size (w.heap.size+1) C (J sa ss.length c1) (J ta ts.length c2) ss ts w ms s st av (J ka st.length kc) r nm is m8 s8 dc dt dls ry g8 xe wa r8 (w8.alloc (O #[I dc,S dt,nS] 121))):=⟨gw.o.bl (Ai _ _),Bg _ _,Ab (Ai _ _) hR8,P3.after (HA8.o.less qb) T0 gw.o (Ai _ _) qb,HA8.o.less qb,T0,Do.o.1,Do.o.2⟩
     first
      | (with_reducible exact⟨w8.heap.size,la,ln,lc,dc,dt,dls,m8,s8,ry,g8,xe,wa,r8,rfl,rfl,rn⟩;done)
      | (have ro:Hd (RXB W0.heap.size h mb U.heap.size (w.heap.size+1) C (J sa ss.length c1) (J ta ts.length c2) ss ts w ms s st av (J ka st.length kc) r nm is m8 s8 dc dt dls ry g8 xe wa r8 (((w8.setCell ⟨U.heap.size,0,N⟩ (I dc)).setCell ⟨U.heap.size,1,N⟩ (S dt)).setCell ⟨U.heap.size,2,N⟩ nS)):=⟨gw.o.set3 ui.o qd _ _ _,Bp ui.o _ _ _,(Em (show w.heap.size+1≠U.heap.size by have:=Ag mw.o;omega) _ _ _).trans hR8,P3.set3 qb qb _ _ _,HA8.o.less qb,T0,Do.o.1,Do.o.2⟩;with_reducible exact⟨U.heap.size,la,ln,lc,dc,dt,dls,m8,s8,ry,g8,xe,wa,r8,rfl,rfl,ro⟩)
   case rest=>
    obtain⟨P,la,ln,lc,dc,dt,dls,m8,s8,ry,g8,xe,wa,r8,rfl,rfl,HX⟩:=hcut;obtain⟨wj,rfl⟩:∃wj,wj=wc:=⟨_,rfl⟩;clear dw ks HTU mw x0 x1 x2 x3 x4 x5 xf u0 u1 hhu hwu F8 eU
    go_upto_region 6 with fail
    obtain⟨U,eU⟩:=Aj wj.drew;have bn:Bw wj U:=qax;have hwj:=HX.o.kp.bel.size;have HXU:Hd (RXB W0.heap.size h mb P (w.heap.size+1) C (J sa ss.length c1) (J ta ts.length c2) ss ts w ms s st av (J ka st.length kc) r nm is m8 s8 dc dt dls ry g8 xe wa r8 U):=HX.o.bl bn qb;obtain⟨x0,x1,x2,x3,x4,x5,xf⟩:=HXU.o.ma.mkr.cells
    have hcp:st.length<=xe:=by
     have q:=HXU.o.ma.mkr.stk;rw[List.length_append,List.length_singleton]at q
     rcases q.2 with⟨e,_⟩|⟨g,cp,cur,e,_,_,r,_⟩
     ·simp at e
     ·simp only[Value.slice.injEq]at e;omega
    clear bn HX;go_region;clear eU x0 x1 x2 x3 x4 x5 xf;have hx:=HXU.o;have hs:=hx.ma.mkr.pop;have kp9:KP W0.heap.size h mb ry (J (p_ g8) (st.length+1) xe) U (U.setCell ⟨h,4,N⟩ (J (p_ g8) st.length xe)):=(KP.old (Below.refl _ _) (zo hx.kp.bel.size)).setH hx.ma.mkr.hB;have rk9:An U (J (p_ g8) (st.length+1) xe) (J (p_ g8) st.length xe):=λb q=>Or.inl qar;have rs9:=(hx.ma.rs.kp hx.ma.mkr kp9).kv' hx.ma.rs hx.ma.ownA.1 hx.ma.ownA.2 rk9;have S3:=KQ.of_kp hx.ma kp9;have hpb:=S3.blk hx.ma hx.pb qd;have P0:=S3.blk hx.ma hx.rb qd;have P3:=hx.kp.trans hx.ra hx.rk hx.ma S3;obtain⟨AK,eY⟩:=Aj (U.setCell ⟨h,4,N⟩ (J (p_ g8) st.length xe));rw[eY]at hs hpb P0 P3 rs9 ⊢;have HSY:Hd (BS W0.heap.size h mb 1 C (J sa ss.length c1) (J ta ts.length c2) ss ts AK m8 (st++[nm]) st (m8.length+(st++[nm]).length) ry (J (p_ g8) st.length xe) wa s8 r8):=⟨hs,rs9⟩;have HRY:Hd (AK.heap[w.heap.size+1]?=M (O #[F false,I 0,ze,nS,ze,nS] 156 (0,0))):=P0;have HLY:Hd (KQ W0.heap.size h mb C av (J ka st.length kc) r r8 w AK):=P3;obtain⟨b0,b1,b2,bf⟩:=Dx hpb;obtain⟨⟨z0,z1,z2,z3,z4,z5⟩,zf⟩:=Sf P0;clear hx hs hpb P0 P3 eY rs9 kp9 S3 rk9;go_wp2_with fail;have hx:=HXU.o;obtain⟨⟨v0,v1,v2,v3,v4,v5⟩,_⟩:=Sf (Iq HRY.o (F false) (I dc) (S dt) nS ze (J la ln lc));have hpu:=HF.o.1.inv.push HF.o.2.2.2.1 HF.o.2.2.2.2.2.2;(have hjp:Ao is=true:=by rw[<- Z3.o.2.2];exact HE.o.v.pr i Z3.o.1);have n8:=(hx.dd.inv HE.o.v hpu HF.o.1.ok hjp (λb e=>qt)).1;have hfd:fd m8 nm=N:=n8.nst nm (Ee.2 (Or.inr rfl));have zk:=HSY.o.set6 HRY.o qd (F false) (I dc) (S dt) nS ze (J la ln lc);have mq:m8.length+(st++[nm]).length=(m8++[(nm,(⟨dc,dt,dls⟩:Md))]).length+st.length:=qh;rw[mq]at zk;have q1:=tc_pop ts m8 nm ⟨dc,dt,dls⟩ st hfd
    have q2:Dh ts ms st+1<=Dh ts ms (st++[nm]):=by
     exact qjx
    have q3:=hx.sn;exact bR (v:=Ou ⟨dc,dt,dls⟩ (J la ln lc)) (by simp[results,results163,go_sem,Ou,v0,v1,v2,v3,v4,v5]) rfl (Or.inl ⟨m8,st++[nm],m8++[(nm,⟨dc,dt,dls⟩)],s8,⟨dc,dt,dls⟩,J la ln lc,ry,_,wa,r8,rfl,⟨la,ln,lc,rfl⟩,zk,(λx hxn=>by rw[Ee];simp[hxn]),rfl,hfd,.made HF.o.2.2.2.1 HF.o.2.1 HF.o.2.2.2.2.2.1 Z3.o.1 Z3.o.2.1 qb (by rw[Z3.o.2.2];exact hx.dd),HLY.o.set6 qb qb _ _ _ _ _ _,hx.ra,(λb q=>hx.rk b qar),qb⟩)
theorem fd_at{nm:By}:∀ {ms:Mm} {i:X},i<ms.length->(mm ms i).1=nm->(∀j,j<i->(mm ms j).1≠nm)->fd ms nm=M (mm ms i).2
 | [],i,hi,_,_=>qai
 | e::l,0,hi,h,hj=>by
   have h':e.1=nm:=h;unfold fd;rw[List.find?_cons_of_pos (by simp[h'])];rfl
 | e::l,i+1,hi,h,hj=>by
   have h0:e.1≠nm:=hj 0 qb;have hr:=fd_at (ms:=l) (i:=i) (by simpa using hi) h (λj q=>hj (j+1) qb);unfold fd at hr ⊢;rw[List.find?_cons_of_neg (by simp[h0])];exact hr
theorem fd_no{nm:By}:∀ {ms:Mm},(∀j,j<ms.length->(mm ms j).1≠nm)->fd ms nm=N
 | [],_=>rfl
 | e::l,hj=>by
   have h0:e.1≠nm:=hj 0 qg;have hr:=fd_no (ms:=l) (λj q=>hj (j+1) (by simpa using q));unfold fd at hr ⊢;rw[List.find?_cons_of_neg (by simp[h0])];exact hr
theorem Ys{i:X}(h:i<st.length):(Av st)[i]?=M (S (nx st i)):=by
 unfold Av nx;rw[List.getElem?_map,gG,Jr h];rfl
theorem own_pop(h:w.ownsRow B 9 1 (J a (st.length+1) cap) (st.length+1) (Av (st++[nm]))):w.ownsRow B 9 1 (J a st.length cap) st.length (Av st):=by
 refine⟨qah,?_⟩
 rcases h.2 with⟨e,h0⟩|⟨g,c,cur,e,hg,hh,h1,h2,h3,h4⟩
 ·omega
 ·cases e
  refine Or.inr ⟨g,cap,cur,rfl,hg,hh,qb,h2,h3,?_⟩;(have:(cur.toList.take ((st.length+1)*1)).take (st.length*1)=(Av (st++[nm])).take (st.length*1):=by rw[h4]);rw[List.take_take,Nat.min_eq_left qb]at this;rw[this];simp[Av]
theorem Gb.pop{n:X}{v:Hv}(k:Gb B h sv tv n w ms s (st++[nm]) v)(gi:B<=w.heap.size)(e:v.kv=J a (st.length+1) cap):Gb B h sv tv n (w.setCell ⟨h,6,N⟩ (J a st.length cap)) ms s st ⟨v.tx,v.qv,v.mv,J a st.length cap,v.nv,v.ev⟩/\Dc B (Cj h v) (Cj h ⟨v.tx,v.qv,v.mv,J a st.length cap,v.nv,v.ev⟩) w (w.setCell ⟨h,6,N⟩ (J a st.length cap)):=by
 have h0:=k.stk;rw[e]at h0;have h1:w.ownsRow B 9 1 (J a (st.length+1) cap) (st.length+1) (Av (st++[nm])):=by have:=h0;rwa [List.length_append,List.length_singleton]at this
 exact k.growK gi (own_pop h1) ⟨rfl,rfl,rfl,Nat.le_refl _,λ_ _ _=>rfl⟩ (λb q=>Or.inl (by rw[e];cases a<;>exact q))
theorem Fz.less(k:Fz B h (st++[nm]).length nv w b):Fz B h st.length nv w b:=by
 obtain⟨pre,e,hl,hk,he,d1,⟨xs,d2,d4⟩,d3⟩:=k;rw[List.length_append,List.length_singleton]at d4;exact⟨pre,e,hl,hk,he,d1,⟨xs,d2,qb⟩,d3⟩
theorem Fz.grow{m:X}{nw:Z}{xs:L By}(hh:B<=h)(k:Fz B h (m+1) nv w b)(gi:B<=w.heap.size)(hx:w.ownsRow B 9 1 nv xs.length (Av xs))(oq:xs.length+(m+1)<=1000)(ho:w'.ownsRow B 9 1 nw (xs.length+1) (Av xs++[S nm]))(hg:w.grownBy w' nv.ownBlock)(th:nw.ownBlock=nv.ownBlock\/nw.ownBlock=M w.heap.size):Fz B h m nw (w'.setCell ⟨h,7,N⟩ nw) b/\Dc B (Zh h nv) (Zh h nw) w (w'.setCell ⟨h,7,N⟩ nw):=by
 obtain⟨pre,e,hl,hk,he,d1,_,d3⟩:=k;have hne:nv.ownBlock≠M h:=Ae hx qd hk;have hb:=Bx hk hg hne
 have ct:∀b,nw.ownBlock=M b->nv.ownBlock=M b\/w.heap.size<=b:=λb q=>by
  rcases th with r|r
  ·left;rw[←r];exact q
  ·right;rw[r]at q;cases q;exact Nat.le_refl _
 have li:=Er hb 7 nw
 have hlist:((pre++[Value.bool true]++e).toArray).setIfInBounds 7 nw=(pre.set 7 nw++[Value.bool true]++e).toArray:=by
  rw[List.setIfInBounds_toArray,List.set_append_left _ _ qhg,List.set_append_left _ _ qb]
 rw[hlist]at li;refine⟨⟨pre.set 7 nw,e,by rw[List.length_set];exact hl,li,?_,by rw[List.getElem?_set_self qb],⟨xs++[nm],?_,qbt⟩,λu b' q1 q2 q3=>?_⟩,?_⟩
 ·cases b with
  | circle ch=>
    obtain⟨cv,c1,c2⟩:=he;refine⟨cv,Ap (Oz c1 hg (λb q1 q2=>d3 cv b (by rw[c2];rfl) q1 q2)) ⟨_,hb⟩ qd _,c2⟩
  | deep nm=>exact he
  | clash A B=>exact he
  | full=>exact he
 ·have:Av (xs++[nm])=Av xs++[S nm]:=qah
  rw[this,List.length_append,List.length_singleton];exact Ap ho ⟨_,hb⟩ qd _
 ·rcases ct b' q3 with r|r
  ·exact d3 u b' q1 q2 r
  ·cases b with
   | circle ch=>obtain⟨cv,c1,c2⟩:=he;rw[c2]at q1;cases q1;have:=(c1.lt b' q2).2;omega
   | deep nm=>rw[show e=_ from he]at q1;cases q1;cases q2
   | clash A B=>rw[show e=_ from he]at q1;cases q1;cases q2
   | full=>rw[show e=_ from he]at q1;cases q1;cases q2
 ·refine⟨((Below.refl B w).grown hg gi (λj q=>(hx.lt j q).1)).setCell (p:=⟨h,7,N⟩) hh _,λb bu hx'=>?_,λb q=>?_⟩
  ·rw[Dj w' ⟨h,7,N⟩ _ b (λe=>hx' (Or.inl e)),hg.block b bu (λq=>hx' (Or.inr q.symm))]
  ·rcases q with q|q
   ·exact Or.inl (Or.inl q)
   ·rcases ct b q with r|r
    ·exact Or.inl (Or.inr r)
    ·exact Or.inr r
end Go.Proofs.YtoakjccojifagaaGreatDoor
