import Derived.Test.YtnflkpmmfpfhlaaGreatDoorBuE
namespace Go.Proofs.YtnflkpmmfpfhlaaGreatDoor
open _root_.Go.Proofs.Tryz Go.RowKit Go.Deep
open Value renaming slice->J,string->S,bool->F,agg->G,pointer->D,tuple->Y
open Option renaming some->M,none->N
open Obj renaming cells->O
open Go renaming Value->Z,World->E
open Ending renaming returned->H
open _root_ renaming List->L,Nat->X
set_option linter.unusedVariables false
set_option linter.unusedSimpArgs false
set_option maxHeartbeats 8000000
set_option maxRecDepth 100000
variable {B h R:X} {C:Fr} {sv tv av kv:Z} {ss:L S2} {ts:L T2} {ms:Mm} {s:Sb} {st:L By} {r:Rv} {is:L I3} {w:E} {vs:By->Z} {nm:By}
def ThingB(B h mb:X)(C:Fr)(sv tv:Z)(ss:L S2)(ts:L T2)(ms:Mm)(s:Sb)(st:L By)(av kv:Z)(r:Rv)(nm:By)(w:E)(e:Ending)(w':E):Prop:=
 (∃ms1 mk ms' s' d lv av' kv' vs' r',e=H (Pc d lv)/\(∃a n c,lv=J a n c)/\BS B h mb 1 C sv tv ss ts w' ms1 mk st (ms'.length+st.length) av' kv' vs' s' r'/\(∀x,x≠nm->(El mk x↔El st x))/\ms'=ms1++[(nm,d)]/\fd ms1 nm=N/\Az ss ts C.n ms s st (.make nm) ms' s' (.ok d)/\KQ B h mb C av kv r r' w w'/\Am w av av'/\Am w kv kv'/\r'.sn+400200*Dp ts ms st<=r.sn+400200*Dp ts ms' st)\/
 (∃b v r' ms' s',e=Lm v/\KQ B h mb C av kv r r' w w'/\Az ss ts C.n ms s st (.make nm) ms' s' (.bad b)/\Dj B C w' b v)
def WorkB(B h mb:X)(C:Fr)(sv tv:Z)(ss:L S2)(ts:L T2)(ms:Mm)(s:Sb)(st:L By)(av kv:Z)(r:Rv)(tn:By)(is:L I3)(w:E)(e:Ending)(w':E):Prop:=
 (∃ms' s' d lv av' kv' vs' r',e=H (Y #[lv,G #[I d.c,S d.t,nS]])/\(∃a n c,lv=J a n c)/\Az ss ts C.n ms s st (.work tn is) ms' s' (.ok d)/\Lu B h mb C sv tv ss ts w' ms' st av' kv' vs' s' r'/\KQ B h mb C av kv r r' w w'/\Am w av av'/\Am w kv kv'/\r'.sn+400200*Dp ts ms st<=r.sn+400200+400200*Dp ts ms' st)\/
 (∃b v r' ms' s',e=Lm v/\KQ B h mb C av kv r r' w w'/\Az ss ts C.n ms s st (.work tn is) ms' s' (.bad b)/\Dj B C w' b v)
def Rb(W0:E)(h mb:X)(C:Fr)(sv tv:Z)(ss:L S2)(ts:L T2)(st:L By)(tn:By)(a:Option Addr)(cap:X)(is:L I3):Prop:=
 ∀(w:E)(ms:Mm)(av kv:Z)(vs:By->Z)(s:Sb)(r:Rv),Lu W0.heap.size h mb C sv tv ss ts w ms st av kv vs s r->Fq ss ts C.n ms s st r.sn 400200->Bw W0 w->
   Calls prog 98 #[D (p_ C.hb),G #[S tn,J a is.length cap]] w λe w'=>WorkB W0.heap.size h mb C sv tv ss ts ms s st av kv r tn is w e w'
theorem step_work{fi xi:X}{W:E}{ops:Array Oper}{o:Oper}{a:Act}{K:Act->E->Prop}{Q:Exit->Act->E->Prop}{AF:Prop}(uj:o.guard=N)(ho:o.op=.call { callee:=.value (.tmp fi),args:=#[.tmp xi],argTypes:=#[123] }){mb:X}{tn:By}{p:Option Addr}{cap:X}(hf:a.eval (.tmp fi)=fvC C)(hx:a.eval (.tmp xi)=G #[S tn,J p is.length cap])(hc:Calls prog 98 #[D (p_ C.hb),G #[S tn,J p is.length cap]] W λe w'=>WorkB B h mb C sv tv ss ts ms s st av kv r tn is W e w')(fw:∀w' m8 s8 dc dt dls la ln lc av' kv' vs' r',Az ss ts C.n ms s st (.work tn is) m8 s8 (.ok ⟨dc,dt,dls⟩)->Lu B h mb C sv tv ss ts w' m8 st av' kv' vs' s8 r'->KQ B h mb C av kv r r' W w'->Am W av av'->Am W kv kv'->r'.sn+400200*Dp ts ms st<=r.sn+400200+400200*Dp ts m8 st->K (a.put o.dst (Y #[J la ln lc,G #[I dc,S dt,nS]])) w')(hpan:∀w' b v r' m8 s8,KQ B h mb C av kv r r' W w'->Az ss ts C.n ms s st (.work tn is) m8 s8 (.bad b)->Dj B C w' b v->Q (.panic [{ v:=.iface 206 v,recovered:=false }]) a w'):if Region.wanted o (yielded ops a.tmps)=true then Oper.wp prog o a W K Q else AF:=by
 have hw:Region.wanted o (yielded ops a.tmps)=true:=qbm
 have kw:(execOp a.eval o).run prog W=.ok (.enter 98 #[D (p_ C.hb),G #[S tn,J p is.length cap]]) W:=by
  unfold execOp;rw[ho];unfold fvC at hf;simp[Act.eval]at hf hx;simp[go_sem,Act.eval,hf,hx]
 rw[if_pos hw];unfold Oper.wp;rw[kw,Oper.upon_enter];refine hc.mono ?_;rintro e w8 (⟨m8,s8,⟨dc,dt,dls⟩,lv,th,B8,wv,r8,rfl,⟨la,ln,lc,rfl⟩,o8,hs8,n8,R1,ui,mo⟩|⟨b,v,r8,m8,s8,rfl,n8,o8,hv⟩)
 ·exact fw w8 m8 s8 dc dt dls la ln lc th B8 wv r8 o8 hs8 n8 R1 ui mo
 ·exact hpan w8 b v r8 m8 s8 n8 o8 hv
theorem KQ.alloc1{mb k:X}{w8:E}{mk:L By}{al:X}{r':Rv}{o:Obj}(q:BS B h mb k C sv tv ss ts w ms mk st al av kv vs s r)(hk:KQ B h mb C av kv r r' (w.alloc o) w8)(hB:B<=w.heap.size):KQ B h mb C av kv r r' w w8:=(KQ.of_below q (Ai _ _) hB).trans (Am.refl _ _) (Am.refl _ _) (q.bl (Ai _ _)) hk
structure RXB (B h mb P R:X) (C:Fr) (sv tv:Z) (ss:L S2) (ts:L T2) (w:E) (ms:Mm) (s:Sb) (st:L By) (av kv:Z) (r:Rv) (nm:By) (is:L I3) (m8:Mm) (s8:Sb) (dc:Int) (dt:By) (dls:L G3) (th:Z) (g8 yb:X) (wv:By->Z) (r8:Rv) (wx:E):Prop where
 ma:Lu B h mb C sv tv ss ts wx m8 (st++[nm]) th (J (p_ g8) (st.length+1) yb) wv s8 r8
 pb:wx.heap[P]?=M (O #[I dc,S dt,nS] 65 (0,0))
 rb:wx.heap[R]?=M (O #[F false,I 0,ze,nS,ze,nS] 168 (0,0))
 kp:KQ B h mb C av kv r r8 w wx
 ra:Am w av th
 rk:Am w kv (J (p_ g8) (st.length+1) yb)
 dd:Az ss ts C.n ms s (st++[nm]) (.work nm is) m8 s8 (.ok ⟨dc,dt,dls⟩)
 sn:r8.sn+400200*Dp ts ms (st++[nm])<=r.sn+400200+400200*Dp ts m8 (st++[nm])
theorem RXB.bl{mb P:X}{m8:Mm}{s8:Sb}{dc:Int}{dt:By}{dls:L G3}{th:Z}{g8 yb:X}{wv:By->Z}{r8:Rv}{wx w':E}(q:RXB B h mb P R C sv tv ss ts w ms s st av kv r nm is m8 s8 dc dt dls th g8 yb wv r8 wx)(hb:Bw wx w')(hB:B<=wx.heap.size):RXB B h mb P R C sv tv ss ts w ms s st av kv r nm is m8 s8 dc dt dls th g8 yb wv r8 w':=
 ⟨q.ma.bl hb,Ac hb q.pb,Ac hb q.rb,q.kp.after q.ra q.rk q.ma hb hB,q.ra,q.rk,q.dd,q.sn⟩
theorem Tr(W0:E)(h mb:X)(C:Fr)(sa ta a:Option Addr)(c1 c2 cap i:X)(ss:L S2)(ts:L T2)(nm:By)(ms:Mm)(s:Sb)(st:L By)(av kv:Z)(vs:By->Z)(r:Rv)(w:E)(hE:Jf W0 sa ta ss ts)(q:BS W0.heap.size h mb 2 C (J sa ss.length c1) (J ta ts.length c2) ss ts w ms st st (ms.length+st.length+1) av kv vs s r)(hp:Fq ss ts C.n ms s st r.sn 0)(hW:Bw W0 w)(hk:fd ms nm=N)(cr:¬ El st nm)(jv:st.length<=60)(cz:Ao nm)(hns:¬ El (Au ss) nm)(hti:i<ts.length)(htn:(tx ts i).name=nm)(hR:st.length<60->Rb W0 h mb C (J sa ss.length c1) (J ta ts.length c2) ss ts (st++[nm]) nm a cap (tx ts i).code):Calls prog 173 #[D (p_ h),G #[S nm,J a (tx ts i).code.length cap]] w λe w'=>ThingB W0.heap.size h mb C (J sa ss.length c1) (J ta ts.length c2) ss ts ms s st av kv r nm w e w':=by
 have hB:=hW.size
 have hth:El (Aq ts) nm:=htn▸Ir hti
 obtain⟨is,eis⟩:=Aj ((tx ts i).code)
 obtain⟨W,eW⟩:=Aj (((w.alloc (O #[S nm,J a is.length cap] 123)).alloc (O #[F false,I 0,ze,nS,ze,nS] 168)))
 have cj:Bw w W:=qby
 have Do:Hd (W.heap[w.heap.size]?=M (O #[S nm,J a is.length cap] 123 (0,0))):=by
  show _=_;rw[<- eW,Lib.alloc_old _ _ _ qi];exact Bf _ _
 have lm:Hd (W.heap[w.heap.size+1]?=M (O #[F false,I 0,ze,nS,ze,nS] 168 (0,0))):=by
  show _=_;rw[<- eW];have h:=Bf (w.alloc (O #[S nm,J a is.length cap] 123)) (O #[F false,I 0,ze,nS,ze,nS] 168);rw[show(w.alloc (O #[S nm,J a is.length cap] 123)).heap.size=w.heap.size+1 from qi]at h;exact h
 have s1:=q.bl cj
 obtain⟨x0,x1,x2,x3,x4,x5,xf⟩:=s1.mkr.cells
 obtain⟨ka,kc,rfl⟩:∃ka kc,kv=J ka st.length kc:=by
  rcases s1.mkr.stk.2 with⟨e,h0⟩|⟨g,cap,cur,e,_⟩
  ·exact qeb
  ·exact⟨_,_,e⟩
 obtain⟨t0,t1⟩:=ck2 Do.o
 have HS:=Ab s1
 have HK:=Ab (KQ.of_below q cj hB)
 have HQ0:=Ab q
 have HF:Hd (Fq ss ts C.n ms s st r.sn 0/\¬ El st nm/\Bw W0 w/\fd ms nm=N/\Ao nm/\¬ El (Au ss) nm/\El (Aq ts) nm):=⟨hp,cr,hW,hk,cz,hns,hth⟩
 have HTI:Hd (i<ts.length/\(tx ts i).name=nm/\(tx ts i).code=is):=⟨hti,htn,eis⟩
 rw[eis]at hR ⊢
 have HR:=hR
 have HRA:=Ab HR
 have ku:=hp.small hE.l2
 have ph:=Ab ku
 have HE:=Ab hE
 clear q s1 hp hW hk cr hns hti htn hR HR cj hE eis hth ku
 by_cases hd:st.length=60
 ·have hdI:((st.length:Int) == 60)=true:=qj;have D7:Hd (Az ss ts C.n ms s st (.make nm) ms s (.bad (.deep nm))):=.deep HF.o.2.2.2.1 HF.o.2.1 HF.o.2.2.2.2.2.1 HF.o.2.2.2.2.2.2 qg;have HFV:Hd (Dj W0.heap.size C W (.deep nm) (G #[I 7,S nm,nS])):=⟨by rw[cH HS.o.rs.bd];rfl,by rw[cH HS.o.rs.bd];rfl,rfl⟩;go_enter func173,ntmps173;go_wp2_with fail;exact⟨rfl,Or.inr ⟨_,_,r,_,_,rfl,HK.o,D7.o,HFV.o⟩⟩
 ·have hdI:((st.length:Int) == 60)=false:=qj;go_enter func173,ntmps173
  go_upto_region 3 with fail
  obtain⟨U,eU⟩:=Aj W.drew;have be:Bw W U:=qbc;have sU:=HS.o.bl be;clear x0 x1 x2 x3 x4 x5 xf;obtain⟨x0,x1,x2,x3,x4,x5,xf⟩:=sU.mkr.cells;have u0:U.cell? ⟨w.heap.size,0,N⟩=M (S nm):=by rw[cH (Ac be Do.o)];rfl
  obtain⟨n,hn,hm⟩:=sU.mkr.map;obtain⟨w2,kw,td,xy⟩:=hm.store (k:=nm) (by have:=cz.2.1;unfold maxLen;omega) (by have:=ph.o.1;have:=ph.o.2.2.1;unfold maxLen;omega) Hy;have m2:=(sU.mkr.le (k':=1) qg).mark (n:=n+1) qg td xy (λx=>markB_push HF.o.2.2.2.1 x) sU.mkr.vsl;have kp2:KP W0.heap.size h mb av (J ka st.length kc) U w2:=KP.mapped (KP.old (Below.refl _ _) (by have:=HK.o.bel.size;have:=be.size;omega)) HS.o.mkr.mB xy (by have:=HK.o.bel.size;have:=be.size;omega);have s2:BS W0.heap.size h mb 1 C (J sa ss.length c1) (J ta ts.length c2) ss ts w2 ms (st++[nm]) st (ms.length+st.length+1) av (J ka st.length kc) vs s r:=⟨m2,sU.rs.kp sU.mkr kp2⟩;unfold Hy at kw;have ft:Hd (KQ W0.heap.size h mb C av (J ka st.length kc) r r w w2):=(HK.o.after (Am.refl _ _) (Am.refl _ _) HS.o be (zo HK.o.bel.size)).trans (Am.refl _ _) (Am.refl _ _) sU (KQ.of_kp sU kp2);have ct:=Ab s2;have hmlt:∀b cs T,U.heap[b]?=M (Obj.cells cs T (0,0))->w2.heap[b]?=M (Obj.cells cs T (0,0)):=λb cs T q=>by rw[xy.block b (Ag q) (λe=>hm.notCells (by injection e with e;exact e▸q))];exact q
  have HTB2:Hd (w2.heap[w.heap.size]?=M (O #[S nm,J a is.length cap] 123 (0,0))):=hmlt _ _ _ (Ac be Do.o);have HRB2:Hd (w2.heap[w.heap.size+1]?=M (O #[F false,I 0,ze,nS,ze,nS] 168 (0,0))):=hmlt _ _ _ (Ac be lm.o);clear hmlt td xy s2 m2 kp2 sU be hm hn t0 t1;go_region;clear eU kw x0 x1 x2 x3 x4 x5 xf u0
  go_upto_region 4 with fail
  obtain⟨U,eU⟩:=Aj w2.drew;have be:Bw w2 U:=qbc;have br:=Ab (ct.o.bl be);have hsz2:=ft.o.bel.size;have kl:Hd (KQ W0.heap.size h mb C av (J ka st.length kc) r r w U):=ft.o.after (Am.refl _ _) (Am.refl _ _) ct.o be qg;have R7:=Ab (Ac be HTB2.o);have nh:=Ab (Ac be HRB2.o);obtain⟨x0,x1,x2,x3,x4,x5,xf⟩:=br.o.mkr.cells;have u0:=cK R7.o 0;have hhu:=Ag br.o.mkr.blk;have hwu:=Ag R7.o;have D1:Hd (∀o:Obj,(U.alloc o).ownsRow W0.heap.size 9 1 (J ka st.length kc) st.length (Ar st)):=λo=>br.o.mkr.stk.alloc o;clear be
  go_cut [32] (λp wx=>∃g4 F8,p=J (p_ g4) (st.length+1) F8/\Hd (Lu W0.heap.size h mb C (J sa ss.length c1) (J ta ts.length c2) ss ts wx ms (st++[nm]) av (J (p_ g4) (st.length+1) F8) vs s r/\KQ W0.heap.size h mb C av (J ka st.length kc) r r w wx/\Am w (J ka st.length kc) (J (p_ g4) (st.length+1) F8)/\wx.heap[w.heap.size]?=M (O #[S nm,J a is.length cap] 123 (0,0))/\wx.heap[w.heap.size+1]?=M (O #[F false,I 0,ze,nS,ze,nS] 168 (0,0))))
  case first=>
   go_region_law (first|(refine Nz rfl rfl W0.heap.size ka st.length kc (Ar st) ?_ ?_ U.heap.size nm ?_ ?_ ?_ ?_ ?_;(focus(first|rfl|(simp[Act.eval];done)));(focus(exact D1.o _));(focus(first|rfl|(simp[Act.eval];done)));(focus(exact Bf _ _));(focus(simp;omega));(focus omega);intro g4 F8 w4 pq fe M1;have hh4:w4.heap[h]?=M (O #[J sa ss.length c1,J ta ts.length c2,.map (M mb),av,J ka st.length kc,fvC C] 165 (0,0)):=(by rw[fe.block h qj (λe=>Ae br.o.mkr.stk qh br.o.mkr.blk e.symm),Lib.alloc_old _ _ _ hhu];exact br.o.mkr.blk);obtain⟨⟨y0,y1,y2,y3,y4,y5⟩,yf⟩:=Sv hh4;have HG4:Hd (_/\_):=⟨pq,fe⟩;have wi:Hd (_\/_):=M1;clear pq fe M1 hh4))
   all_goals
    go_wp2_with fail;go_meet;obtain⟨p1,p2,p3⟩:=br.o.mkr.push (nm:=nm) HG4.o.2 HG4.o.1 (by rcases wi.o with q|q;exact Or.inl q;exact Or.inr (by simpa using q)) qg;have rs1:=(br.o.rs.kp br.o.mkr p2).kv' br.o.rs br.o.ownA.1 br.o.ownA.2 p3;have kq:=KQ.of_kp br.o p2;have ju:ms.length+st.length+1=ms.length+(st++[nm]).length:=qj;rw[ju]at p1;exact⟨g4,F8,rfl,⟨p1,rs1⟩,kl.o.trans (Am.refl _ _) (Am.refl _ _) br.o kq,(Am.refl _ _).trans qg p3,kq.blk br.o R7.o qh,kq.blk br.o nh.o qh⟩
  case rest=>
   obtain⟨g4,F8,rfl,HX⟩:=hcut;obtain⟨wk,rfl⟩:∃wk,wk=wc:=⟨_,rfl⟩;clear br kl R7 nh x0 x1 x2 x3 x4 x5 xf u0 hhu hwu D1 eU
   go_upto_region 5 with fail
   obtain⟨U,eU⟩:=Aj wk.drew;have be:Bw wk U:=qbc;have hwk:=HX.o.2.1.bel.size;have br:=Ab (HX.o.1.bl be)
   have hpre:Fq ss ts C.n ms s (st++[nm]) r.sn 400200:=by
    have q2:Dp ts ms st+1<=Dp ts ms (st++[nm]):=by
     exact qkk
    have e1:=HF.o.1.ml;have e2:=HF.o.1.sl;have e3:=HF.o.1.cn;unfold cntO at e3;exact⟨HF.o.1.inv.push HF.o.2.2.2.1 HF.o.2.2.2.2.2.2,HF.o.1.ok,qg,by unfold cntO;simp only[List.length_append,List.length_singleton];omega,qg⟩
   have G0:Hd (∀V,Bw U V->Calls prog 98 #[D (p_ C.hb),G #[S nm,J a is.length cap]] V λe w'=>WorkB W0.heap.size h mb C (J sa ss.length c1) (J ta ts.length c2) ss ts ms s (st++[nm]) av (J (p_ g4) (st.length+1) F8) r nm is V e w'):=λV hV=>HRA.o qg V _ _ _ _ _ _ (br.o.bl hV) hpre (HF.o.2.2.1.trans (HX.o.2.1.bel.trans ((be.mono qg).trans (hV.mono (zo be.size)))));have R7:=Ab (Ac be HX.o.2.2.2.1);have nh:=Ab (Ac be HX.o.2.2.2.2);have kl:Hd (KQ W0.heap.size h mb C av (J ka st.length kc) r r w U/\Am w (J ka st.length kc) (J (p_ g4) (st.length+1) F8)):=⟨HX.o.2.1.after (Am.refl _ _) HX.o.2.2.1 HX.o.1 be qg,HX.o.2.2.1⟩;obtain⟨x0,x1,x2,x3,x4,x5,xf⟩:=br.o.mkr.cells;obtain⟨u0,u1⟩:=ck2 R7.o;have hhu:=Ag br.o.mkr.blk;have hwu:=Ag R7.o;clear be HX hpre
   go_cut [5,6] (λp q wx=>∃(P:X)(la:Option Addr)(ln lc:X)(dc:Int)(dt:By)(dls:L G3)(m8:Mm)(s8:Sb)(th:Z)(g8 yb:X)(wv:By->Z)(r8:Rv),p=J la ln lc/\q=D (p_ P)/\Hd (RXB W0.heap.size h mb P (w.heap.size+1) C (J sa ss.length c1) (J ta ts.length c2) ss ts w ms s st av (J ka st.length kc) r nm is m8 s8 dc dt dls th g8 yb wv r8 wx))
   case first=>
    go_region_law (first|(refine step_work rfl rfl ?_ ?_ (G0.o _ ?_) ?_ ?_;(focus(first|rfl|(simp[Act.eval];done)));(focus(first|rfl|(simp[Act.eval];done)));(focus(first|with_reducible exact Below.refl _ _|exact Ai _ _));rotate_left;(focus(intro w8 b v r8 m8 s8 n8 o8 hv;have N8:Hd (KQ W0.heap.size h mb C av (J (p_ g4) (st.length+1) F8) r r8 U w8):=(by show KQ _ _ _ _ _ _ _ _ _ _;first|with_reducible exact n8|exact KQ.alloc1 br.o n8 qg);have ws:Hd (Az ss ts C.n ms s (st++[nm]) (.work nm is) m8 s8 (.bad b)/\Dj W0.heap.size C w8 b v):=⟨o8,hv⟩;clear n8 o8 hv;go_wp2_with fail;exact⟨rfl,Or.inr ⟨b,v,r8,m8,s8,rfl,kl.o.1.trans (Am.refl _ _) kl.o.2 br.o N8.o,.fell HF.o.2.2.2.1 HF.o.2.1 HF.o.2.2.2.2.2.1 HTI.o.1 HTI.o.2.1 qg (by rw[HTI.o.2.2];exact ws.o.1),ws.o.2⟩⟩));intro w8 m8 s8 dc dt dls la ln lc th B8 wv r8 o8 hs8 n8 R1 ui zm;have N8:Hd (KQ W0.heap.size h mb C av (J (p_ g4) (st.length+1) F8) r r8 U w8):=(by show KQ _ _ _ _ _ _ _ _ _ _;first|with_reducible exact n8|exact KQ.alloc1 br.o n8 qg);have HA8:Hd (Am U av th):=(by show Am _ _ _;first|with_reducible exact R1|exact R1.less qi);have wn:Hd (Am U (J (p_ g4) (st.length+1) F8) B8):=(by show Am _ _ _;first|with_reducible exact ui|exact ui.less qi);have D7:Hd (Az ss ts C.n ms s (st++[nm]) (.work nm is) m8 s8 (.ok ⟨dc,dt,dls⟩)/\r8.sn+400200*Dp ts ms (st++[nm])<=r.sn+400200+400200*Dp ts m8 (st++[nm])):=⟨o8,zm⟩;have gk:Hd (Lu W0.heap.size h mb C (J sa ss.length c1) (J ta ts.length c2) ss ts w8 m8 (st++[nm]) th B8 wv s8 r8):=hs8;(first|(have z8:=KQ.blk n8 (br.o.bl (Ai _ _)) (Bf _ _) qh;obtain⟨k0,k1,k2,kf⟩:=Ci z8;have oa:Hd (w8.heap[U.heap.size]?=M (O #[I 0,ze,nS] 65 (0,0))):=z8;clear z8)|skip);clear n8 o8 hs8 R1 ui zm))
    all_goals
     go_wp2_with fail;go_meet
     obtain⟨g8,yb,rfl⟩:∃g cp,B8=J (p_ g) (st.length+1) cp:=by
      have q:=gk.o.mkr.stk;rw[List.length_append,List.length_singleton]at q
      rcases q.2 with⟨_,h0⟩|⟨g,cp,cur,e,_⟩
      ·omega
      ·exact⟨g,cp,e⟩
     have hsU:=N8.o.bel.size;have hR8:w8.heap[w.heap.size+1]?=M (O #[F false,I 0,ze,nS,ze,nS] 168 (0,0)):=N8.o.blk br.o nh.o qh;have Q7:=kl.o.1.trans (Am.refl _ _) kl.o.2 br.o N8.o;have U1:=kl.o.2.trans qg wn.o;have rn:Hd (RXB W0.heap.size h mb w8.heap.size (w.heap.size+1) C (J sa ss.length c1) (J ta ts.length c2) ss ts w ms s st av (J ka st.length kc) r nm is m8 s8 dc dt dls th g8 yb wv r8 (w8.alloc (O #[I dc,S dt,nS] 65))):=⟨gk.o.bl (Ai _ _),Bf _ _,Ac (Ai _ _) hR8,Q7.after (HA8.o.less qg) U1 gk.o (Ai _ _) qg,HA8.o.less qg,U1,D7.o.1,D7.o.2⟩
     first
      | (with_reducible exact⟨w8.heap.size,la,ln,lc,dc,dt,dls,m8,s8,th,g8,yb,wv,r8,rfl,rfl,rn⟩;done)
      | (have ro:Hd (RXB W0.heap.size h mb U.heap.size (w.heap.size+1) C (J sa ss.length c1) (J ta ts.length c2) ss ts w ms s st av (J ka st.length kc) r nm is m8 s8 dc dt dls th g8 yb wv r8 (((w8.setCell ⟨U.heap.size,0,N⟩ (I dc)).setCell ⟨U.heap.size,1,N⟩ (S dt)).setCell ⟨U.heap.size,2,N⟩ nS)):=⟨gk.o.set3 oa.o qh _ _ _,Ba oa.o _ _ _,(Ea (show w.heap.size+1≠U.heap.size by have:=Ag nh.o;omega) _ _ _).trans hR8,Q7.set3 qg qg _ _ _,HA8.o.less qg,U1,D7.o.1,D7.o.2⟩;with_reducible exact⟨U.heap.size,la,ln,lc,dc,dt,dls,m8,s8,th,g8,yb,wv,r8,rfl,rfl,ro⟩)
   case rest=>
    obtain⟨P,la,ln,lc,dc,dt,dls,m8,s8,th,g8,yb,wv,r8,rfl,rfl,HX⟩:=hcut;obtain⟨wj,rfl⟩:∃wj,wj=wc:=⟨_,rfl⟩;clear br kl R7 nh x0 x1 x2 x3 x4 x5 xf u0 u1 hhu hwu G0 eU
    go_upto_region 6 with fail
    obtain⟨U,eU⟩:=Aj wj.drew;have be:Bw wj U:=qbc;have hwj:=HX.o.kp.bel.size;have HXU:Hd (RXB W0.heap.size h mb P (w.heap.size+1) C (J sa ss.length c1) (J ta ts.length c2) ss ts w ms s st av (J ka st.length kc) r nm is m8 s8 dc dt dls th g8 yb wv r8 U):=HX.o.bl be qg;obtain⟨x0,x1,x2,x3,x4,x5,xf⟩:=HXU.o.ma.mkr.cells
    have hcp:st.length<=yb:=by
     have q:=HXU.o.ma.mkr.stk;rw[List.length_append,List.length_singleton]at q
     rcases q.2 with⟨e,_⟩|⟨g,cp,cur,e,_,_,r,_⟩
     ·simp at e
     ·simp only[Value.slice.injEq]at e;omega
    clear be HX;go_region;clear eU x0 x1 x2 x3 x4 x5 xf;have hx:=HXU.o;have hs:=hx.ma.mkr.pop;have kp9:KP W0.heap.size h mb th (J (p_ g8) (st.length+1) yb) U (U.setCell ⟨h,4,N⟩ (J (p_ g8) st.length yb)):=(KP.old (Below.refl _ _) (zo hx.kp.bel.size)).setH hx.ma.mkr.hB;have rk9:Am U (J (p_ g8) (st.length+1) yb) (J (p_ g8) st.length yb):=λb q=>Or.inl qav;have rs9:=(hx.ma.rs.kp hx.ma.mkr kp9).kv' hx.ma.rs hx.ma.ownA.1 hx.ma.ownA.2 rk9;have T0:=KQ.of_kp hx.ma kp9;have hpb:=T0.blk hx.ma hx.pb qh;have H9:=T0.blk hx.ma hx.rb qh;have Q7:=hx.kp.trans hx.ra hx.rk hx.ma T0;obtain⟨AK,eY⟩:=Aj (U.setCell ⟨h,4,N⟩ (J (p_ g8) st.length yb));rw[eY]at hs hpb H9 Q7 rs9 ⊢;have HSY:Hd (BS W0.heap.size h mb 1 C (J sa ss.length c1) (J ta ts.length c2) ss ts AK m8 (st++[nm]) st (m8.length+(st++[nm]).length) th (J (p_ g8) st.length yb) wv s8 r8):=⟨hs,rs9⟩;have HRY:=Ab H9;have HLY:=Ab Q7;obtain⟨b0,b1,b2,bf⟩:=Ci hpb;obtain⟨⟨z0,z1,z2,z3,z4,z5⟩,zf⟩:=Sv H9;clear hx hs hpb H9 Q7 eY rs9 kp9 T0 rk9;go_wp2_with fail;have hx:=HXU.o;obtain⟨⟨v0,v1,v2,v3,v4,v5⟩,_⟩:=Sv (Il HRY.o (F false) (I dc) (S dt) nS ze (J la ln lc));have hpu:=HF.o.1.inv.push HF.o.2.2.2.1 HF.o.2.2.2.2.2.2;(have hjp:Av is=true:=by rw[<- HTI.o.2.2];exact HE.o.v.pr i HTI.o.1);have og:=(hx.dd.inv HE.o.v hpu HF.o.1.ok hjp (λb e=>qw)).1;have hfd:fd m8 nm=N:=og.nst nm (Ei.2 (Or.inr rfl));have xu:=HSY.o.set6 HRY.o qh (F false) (I dc) (S dt) nS ze (J la ln lc);have ju:m8.length+(st++[nm]).length=(m8++[(nm,(⟨dc,dt,dls⟩:Md))]).length+st.length:=qj;rw[ju]at xu;have q1:=tc_pop ts m8 nm ⟨dc,dt,dls⟩ st hfd
    have q2:Dp ts ms st+1<=Dp ts ms (st++[nm]):=by
     exact qkk
    have q3:=hx.sn;exact bR (v:=Pc ⟨dc,dt,dls⟩ (J la ln lc)) (by simp[results,results173,go_sem,Pc,v0,v1,v2,v3,v4,v5]) rfl (Or.inl ⟨m8,st++[nm],m8++[(nm,⟨dc,dt,dls⟩)],s8,⟨dc,dt,dls⟩,J la ln lc,th,_,wv,r8,rfl,⟨la,ln,lc,rfl⟩,xu,(λx P7=>by rw[Ei];simp[P7]),rfl,hfd,.made HF.o.2.2.2.1 HF.o.2.1 HF.o.2.2.2.2.2.1 HTI.o.1 HTI.o.2.1 qg (by rw[HTI.o.2.2];exact hx.dd),HLY.o.set6 qg qg _ _ _ _ _ _,hx.ra,(λb q=>hx.rk b qav),qg⟩)
theorem Zj(B h mb:X)(C:Fr)(sv tv:Z)(ss:L S2)(ts:L T2)(ms:Mm)(s:Sb)(st:L By)(av kv:Z)(vs:By->Z)(r:Rv)(nm:By)(d:Md)(w:E)(q:Lu B h mb C sv tv ss ts w ms st av kv vs s r)(hB:B<=w.heap.size)(hn:nm.size<=60)(hk:fd ms nm=M d):Calls prog 128 #[D (p_ h),S nm] w λe w'=>Nu B h mb C sv tv ss ts ms s st av kv vs r nm (λd vs'=>Ft d (vs' nm)) w e w':=by
 obtain⟨W,eW⟩:=Aj (w.alloc (O #[F false,I 0,ze,nS,ze,nS] 168))
 have cj:Bw w W:=qbe
 have I0:w.heap.size<W.heap.size:=by rw[<- eW];simp
 have hhw:=Ag q.mkr.blk
 have s1:=q.bl cj
 have HR:Hd (W.heap[w.heap.size]?=M (O #[F false,I 0,ze,nS,ze,nS] 168 (0,0))):=by
  exact qbt
 obtain⟨n,L7,nk⟩:=s1.mkr.map
 have ew:=nk.look (k:=nm) qq
 have hmo:Iv ms st vs nm=M (Ft d (vs nm)):=Si hk
 rw[hmo]at ew
 obtain⟨la,ln,lc,hlv⟩:=q.mkr.vsl nm
 unfold Ft at ew
 rw[hlv]at ew
 simp only[Option.getD_some,Option.isSome_some]at ew
 obtain⟨_,_,c2,_⟩:=s1.mkr.cells
 have HD:Hd (Az ss ts C.n ms s st (.make nm) ms s (.ok d)):=.known hk
 have HS:=Ab s1
 have HLV:=Ab hlv
 have HK:=Ab (KQ.of_below q cj hB)
 obtain⟨⟨z0,z1,z2,z3,z4,z5⟩,zf⟩:=Sv HR.o
 obtain⟨dc,dt,dls⟩:=d
 obtain⟨fo,efo⟩:=Aj (Bp dc dt)
 simp only[efo]at ew
 have EF:=Ab efo
 clear efo
 clear hk hmo nk s1 q cj
 go_enter func128,ntmps128
 go_wp2_with fail
 have e6:=Il HR.o (F true) (I dc) (S dt) nS (S fo) (J la ln lc)
 have it:=HK.o.set6 hB (Nat.le_refl _) (F true) (I dc) (S dt) nS (S fo) (J la ln lc)
 have xu:=HS.o.set6 HR.o qh (F true) (I dc) (S dt) nS (S fo) (J la ln lc)
 have e7:=blk_keep' (Ai _ (O #[F true,I dc,S dt,nS,S fo,J la ln lc] 168)) e6
 obtain⟨⟨y0,y1,y2,y3,y4,y5⟩,_⟩:=Sv e7
 exact bR (v:=Ft ⟨dc,dt,dls⟩ (vs nm)) (by simp[results,results128,go_sem,Ft,HLV.o,EF.o,y0,y1,y2,y3,y4,y5]) rfl ⟨ms,s,_,HD.o,Or.inl ⟨_,av,kv,vs,r,rfl,rfl,xu.bl (Ai _ _),it.after (Am.refl _ _) (Am.refl _ _) xu (Ai _ _) (Nat.le_trans hB it.bel.size),Am.refl _ _,Am.refl _ _,Nat.le_refl _⟩⟩
theorem Wt(B h mb:X)(C:Fr)(sv tv:Z)(ss:L S2)(ts:L T2)(ms:Mm)(s:Sb)(st:L By)(av kv:Z)(vs:By->Z)(r:Rv)(nm:By)(i:X)(w:E)(q:Lu B h mb C sv tv ss ts w ms st av kv vs s r)(hB:B<=w.heap.size)(hn:nm.size<=60)(hl:st.length<=60)(hk:fd ms nm=N)(hi:i<st.length)(og:nx st i=nm)(hif:∀j,j<i->nx st j≠nm):Calls prog 128 #[D (p_ h),S nm] w λe w'=>Nu B h mb C sv tv ss ts ms s st av kv vs r nm (λd vs'=>Ft d (vs' nm)) w e w':=by
 obtain⟨W,eW⟩:=Aj ((w.alloc (O #[F false,I 0,ze,nS,ze,nS] 168)))
 have cj:Bw w W:=qbe
 have s1:=q.bl cj
 obtain⟨n,L7,nk⟩:=s1.mkr.map
 have ew:=nk.look (k:=nm) qq
 have hmo:Iv ms st vs nm=M Hy:=Qn hk ⟨i,hi,og⟩
 rw[hmo]at ew
 unfold Hy at ew
 simp only[Option.getD_some,Option.isSome_some]at ew
 obtain⟨V,eV⟩:=Aj (W.alloc (O #[F false,I 0,ze,nS,ze,nS] 168))
 have pw:Bw w V:=by rw[<- eV];exact Ay cj (Ai _ _)
 have s2:=q.bl pw
 obtain⟨a,cap,rfl⟩:∃a cap,kv=J a st.length cap:=by
  rcases s2.mkr.stk.2 with⟨e,h0⟩|⟨g,cap,cur,e,_⟩
  ·exact qeb
  ·exact⟨_,_,e⟩
 obtain⟨g,rfl⟩:∃g,a=p_ g:=by
  rcases s2.mkr.stk.2 with⟨e,h0⟩|⟨g,cap,cur,e,_⟩
  ·omega
  ·simp only[Value.slice.injEq]at e;exact⟨g,e.1⟩
 have ji:∀j,j<st.length->V.cell? ⟨g,0+j,N⟩=M (S (st.getD j ByteArray.empty)):=λj hj=>by
  rw[Nat.zero_add,s2.mkr.stk.cellAt j qg,strV_get' st j hj]
 have HIX:Hd (Calls prog 154 #[J (p_ g) st.length cap,S nm] V λe w'=>e=H (I (i:X))/\w'=V):=by
  have q:=Tryz.slices_Index_string g 0 st.length cap st nm V (Nat.le_refl _) qg ji;rw[Lib.idxOfS_hit st st.length i nm hi (Nat.le_refl _) og hif]at q;exact q
 have HCL:Hd (Calls prog 94 #[J (M ⟨g,i,N⟩) (st.length-i) (cap-i)] V λe w'=>∃v',e=H v'/\w'.ownsRow V.heap.size 9 1 v' (st.length-i) (((st.drop i).take (st.length-i)).map (Value.string))/\v'≠nS/\Bw V w'):=by
  refine Tryz.slices_Clone_string g i (st.length-i) (cap-i) (st.drop i) V (by rw[List.length_drop];exact Nat.le_refl _) qg (λj hj=>?_);rw[List.length_drop]at hj;have:=ji (i+j) qg;rw[Nat.zero_add]at this;rw[this];congr 2;rw[gG,gG,List.getElem?_drop]
 obtain⟨_,_,c2,_,_,_,_⟩:=s1.mkr.cells
 obtain⟨_,_,_,_,d4,_,_⟩:=s2.mkr.cells
 have t0:V.cell? ⟨W.heap.size,0,N⟩=M (F false):=by rw[<- eV];simp[go_sem]
 have hcp:st.length<=cap:=by
  rcases s2.mkr.stk.2 with⟨e,h0⟩|⟨g',aj,cur,e,r⟩
  ·simp at e
  ·simp only[Value.slice.injEq]at e;have:=r.2.2.1;omega
 have HD:Hd (Az ss ts C.n ms s st (.make nm) ms s (.bad (.circle (st.drop i)))):=.circle hk hi og hif
 have bh:=Ab s2
 have HQ:=Ab q
 have HB:=Ab pw
 clear hk hmo nk s1 q s2 cj ji pw og hif
 have EV:=Ab eV
 clear eV
 go_enter func128,ntmps128
 go_upto_region 2 with fail
 rw[EV.o]
 clear EV eW
 go_wp2_with (first|(go_at_call 154;refine HIX.o.mono ?_;rintro e w2 ⟨rfl,rfl⟩))
 refine HCL.o.mono ?_
 rintro e w3 ⟨v',rfl,ah,U3,au⟩
 obtain⟨g3,cp3,rfl⟩:∃g cp,v'=J (p_ g) (st.length-i) cp:=by
  rcases ah.2 with⟨e,_⟩|⟨g,cp,cur,e,_⟩
  ·exact absurd e U3
  ·exact⟨g,cp,e⟩
 have HO:Hd (w3.ownsRow w2.heap.size 9 1 (J (p_ g3) (st.length-i) cp3) (st.length-i) (Ar (st.drop i))):=by
  rw[List.take_of_length_le (by rw[List.length_drop];exact Nat.le_refl _)]at ah;exact ah
 have ia:=Ab au
 clear ah au U3 HIX HCL
 go_wp2_with fail
 have ir:=HB.o.size
 have iz:=Af bh.o.rs.bd ia.o
 refine⟨rfl,ms,s,_,HD.o,Or.inr ⟨_,_,r,rfl,rfl,⟨qes,qes,_,_,_,rfl,?_⟩,KQ.of_below HQ.o (Ay HB.o ia.o) hB⟩⟩
 have:=own_base' HO.o (B':=B) qg
 rw[List.length_drop]
 exact this
theorem Sc{mb:X}{U:E}{u0 u1 u2 u3 u4 u5:Z}{c:Int}{t:By}(q:BS B h mb 2 C sv tv ss ts U ms st st (ms.length+st.length+1) av kv vs s r)(hk:KQ B h mb C av kv r r w U)(hR:U.heap[R]?=M (O #[u0,u1,u2,u3,u4,u5] 168 (0,0)))(hB:B<=R)(hw:w.heap.size<=R)(hl:fd ms nm=N)(hd:Az ss ts C.n ms s st (.make nm) (ms++[(nm,⟨c,t,[]⟩)]) s (.ok ⟨c,t,[]⟩)):ThingB B h mb C sv tv ss ts ms s st av kv r nm w (H (Pc ⟨c,t,[]⟩ nS)) ((((((U.setCell ⟨R,0,N⟩ (F false)).setCell ⟨R,1,N⟩ (I c)).setCell ⟨R,2,N⟩ (S t)).setCell ⟨R,3,N⟩ nS).setCell ⟨R,4,N⟩ ze).setCell ⟨R,5,N⟩ nS):=by
 refine Or.inl ⟨ms,st,ms++[(nm,⟨c,t,[]⟩)],s,⟨c,t,[]⟩,nS,av,kv,vs,r,rfl,⟨N,0,0,rfl⟩,?_,λx _=>Iff.rfl,rfl,hl,hd,hk.set6 hB hw _ _ _ _ _ _,Am.refl _ _,Am.refl _ _,?_⟩
 ·have ju:(ms++[(nm,(⟨c,t,[]⟩:Md))]).length+st.length=ms.length+st.length+1:=qj
  rw[ju];exact(q.le (k':=1) qg).set6 hR qh _ _ _ _ _ _
 ·have:=Us ts ms (nm,⟨c,t,[]⟩) st
  omega
theorem Vm(W0:E)(h mb:X)(C:Fr)(sa ta:Option Addr)(c1 c2:X)(ss:L S2)(ts:L T2)(nm:By)(ms:Mm)(s:Sb)(st:L By)(av kv:Z)(vs:By->Z)(r:Rv)(w:E)(hE:Jf W0 sa ta ss ts)(q:BS W0.heap.size h mb 2 C (J sa ss.length c1) (J ta ts.length c2) ss ts w ms st st (ms.length+st.length+1) av kv vs s r)(hp:Fq ss ts C.n ms s st r.sn 0)(hW:Bw W0 w)(hk:fd ms nm=N)(cr:¬ El st nm)(jv:st.length<=60)(cz:Ao nm)(hR:∀i a cap,i<ts.length->(tx ts i).name=nm->Cn W0 a (tx ts i).code->st.length<60->Rb W0 h mb C (J sa ss.length c1) (J ta ts.length c2) ss ts (st++[nm]) nm a cap (tx ts i).code):Calls prog 153 #[D (p_ h),S nm] w λe w'=>ThingB W0.heap.size h mb C (J sa ss.length c1) (J ta ts.length c2) ss ts ms s st av kv r nm w e w':=by
 have hB:=hW.size
 obtain⟨W,eW⟩:=Aj (w.alloc (O #[F false,I 0,ze,nS,ze,nS] 168))
 have cj:Bw w W:=qbe
 have lm:Hd (W.heap[w.heap.size]?=M (O #[F false,I 0,ze,nS,ze,nS] 168 (0,0))):=by
  exact qbt
 obtain⟨x0,x1,_⟩:=(q.bl cj).mkr.cells
 have uu:=hE.l1
 have M2:=hE.l2
 have HFS:Hd (∀V,Bw w V->Calls prog 171 #[G #[J sa ss.length c1,J ta ts.length c2],S nm] V λe w'=>Bw V w'/\∃(r:X)(b:Bool),e=H (Y #[I r,F b])/\At (Au ss) nm r b):=λV hV=>Np sa ta ss.length ts.length c1 c2 ss nm V (hE.rs.bl (hW.trans (hV.mono hB))) qg hE.v.ascS rfl
 have km:Hd (∀V,Bw w V->Calls prog 172 #[G #[J sa ss.length c1,J ta ts.length c2],S nm] V λe w'=>Bw V w'/\∃(r:X)(b:Bool),e=H (Y #[I r,F b])/\At (Aq ts) nm r b):=λV hV=>Nn sa ta ss.length ts.length c1 c2 ts nm V (hE.rt.bl (hW.trans (hV.mono hB))) qg hE.v.ascT rfl
 have HS:=Ab q
 have HE:=Ab hE
 have HF:Hd (Fq ss ts C.n ms s st r.sn 0/\¬ El st nm/\Bw W0 w/\fd ms nm=N/\Ao nm):=⟨hp,cr,hW,hk,cz⟩
 have HR:=Ab hR
 have HB:=Ab cj
 clear q hp hW hk cr cz hR cj hE
 go_enter func153,ntmps153
 go_wp2_with fail
 refine(HFS.o W HB.o).mono ?_
 rintro e w3 ⟨au,r0,b,rfl,ul⟩
 have ia:=Ab (Ay HB.o au)
 have iy:=Ab (Ac au lm.o)
 have HAT:=Ab ul
 have vg:=Ab (HS.o.bl ia.o)
 clear au ul x0 x1 lm eW
 obtain⟨x0,x1,_⟩:=vg.o.mkr.cells
 obtain⟨⟨z0,z1,z2,z3,z4,z5⟩,zf⟩:=Sv iy.o
 dsimp only
 cases b with
 | true=>
  obtain⟨hr,ym⟩:=at_true HE.o.v.ascS HAT.o;rw[Cd]at hr;rw[Ed]at ym;have hrI:(r0:Int)<(ss.length:Int):=qg;have D7:Az ss ts C.n ms s st (.make nm) (ms++[(nm,⟨0,(sx ss r0).text,[]⟩)]) s (.ok ⟨0,(sx ss r0).text,[]⟩):=.source HF.o.2.2.2.1 HF.o.2.1 hr ym;obtain⟨sb,so,rfl,_,e2⟩:=(HE.o.rs.bl (HF.o.2.2.1.trans (ia.o.mono hB))) r0 hr;generalize (sx ss r0).text=tx0 at D7 e2;have HD:=Ab D7;clear D7 ym HFS km HR;go_wp2_with fail;obtain⟨⟨v0,v1,v2,v3,v4,v5⟩,_⟩:=Sv (Il iy.o (F false) (I 0) (S tx0) nS ze nS);exact bR (v:=Pc ⟨0,tx0,[]⟩ nS) qgq rfl (Sc vg.o (KQ.of_below HS.o ia.o hB) iy.o hB (Nat.le_refl _) HF.o.2.2.2.1 HD.o)
 | false=>
  have HNS:=Ab (at_false HAT.o);go_wp2_with fail;refine(km.o w3 ia.o).mono ?_;rintro e w4 ⟨bp,r4,b4,rfl,hat4⟩;have ox:=Ab (Ay ia.o bp);have lp:=Ab (Ac bp iy.o);have HAT4:=Ab hat4;have gq:=Ab (HS.o.bl ox.o);clear bp hat4 x0 x1 z0 z1 z2 z3 z4 z5 zf iy vg HAT;obtain⟨x0,x1,_⟩:=gq.o.mkr.cells;obtain⟨⟨z0,z1,z2,z3,z4,z5⟩,zf⟩:=Sv lp.o;dsimp only
  cases b4 with
  | true=>
   obtain⟨hr,ym⟩:=at_true HE.o.v.ascT HAT4.o;rw[Ca]at hr;rw[Dt]at ym;have hrI:(r4:Int)<(ts.length:Int):=qg;have V6:=HF.o.2.2.1.trans (ox.o.mono hB);obtain⟨tb,tq,rfl,f1,a',aj,f2,du⟩:=HE.o.rt r4 hr;have e1:w4.cell? ⟨tb,tq+r4*2,N⟩=M (S nm):=by rw[V6.cell (p:=⟨tb,tq+r4*2,N⟩) (World.block_lt_of_cell? _ _ f1),f1,ym]
   have e2:w4.cell? ⟨tb,tq+r4*2+1,N⟩=M (J a' (tx ts r4).code.length aj):=by rw[V6.cell (p:=⟨tb,tq+r4*2+1,N⟩) (World.block_lt_of_cell? _ _ f2),f2]
   have hMT:=Tr W0 h mb C sa (M ⟨tb,tq,N⟩) a' c1 c2 aj r4 ss ts nm ms s st av kv vs r w4 HE.o gq.o HF.o.1 V6 HF.o.2.2.2.1 HF.o.2.1 jv HF.o.2.2.2.2 HNS.o hr ym (HR.o r4 a' aj hr ym du);generalize (tx ts r4).code.length=cl at e2 hMT;have HMT:=Ab hMT;have hwl4:=Ag lp.o;clear hMT du f1 f2 V6 HFS km HR ym z0 z1 z2 z3 z4 z5 zf;go_wp2_with fail;refine HMT.o.mono ?_;rintro e w5 (⟨ms1,mk,ms',s',⟨dc,dt,dls⟩,lv,av5,kv5,vs5,r5,rfl,⟨la,ln,lc,rfl⟩,yl,hmk,hms,hfd,o8,jm,ha5,hkk5,mo⟩|⟨b,v,r5,ms',s',rfl,jm,o8,hv⟩)
   ·have hsz5:=jm.bel.size;have hR5:w5.heap[w.heap.size]?=M (O #[F false,I 0,ze,nS,ze,nS] 168 (0,0)):=jm.blk gq.o lp.o qh;have X8:=Ab hR5;have HK5:Hd (KQ W0.heap.size h mb C av kv r r5 w w5):=(KQ.of_below HS.o ox.o hB).trans (Am.refl _ _) (Am.refl _ _) gq.o jm;have iq:=Ab yl;have tj:Hd ((∀x,x≠nm->(El mk x↔El st x))/\ms'=ms1++[(nm,⟨dc,dt,dls⟩)]/\fd ms1 nm=N/\Az ss ts C.n ms s st (.make nm) ms' s' (.ok ⟨dc,dt,dls⟩)/\Am w av av5/\Am w kv kv5/\r5.sn+400200*Dp ts ms st<=r.sn+400200*Dp ts ms' st):=⟨hmk,hms,hfd,o8,ha5.less qg,hkk5.less qg,mo⟩;obtain⟨⟨z0,z1,z2,z3,z4,z5⟩,zf⟩:=Sv hR5;unfold Pc;dsimp only;clear yl hmk hms hfd o8 ha5 hkk5 mo jm hR5 HMT;go_wp2_with fail;obtain⟨⟨v0,v1,v2,v3,v4,v5⟩,_⟩:=Sv (Il X8.o (F false) (I dc) (S dt) nS ze (J la ln lc));obtain⟨y1,y2,y3,y4,y5,y6,y7⟩:=tj.o;exact bR (v:=Pc ⟨dc,dt,dls⟩ (J la ln lc)) qgq rfl (Or.inl ⟨ms1,mk,ms',s',⟨dc,dt,dls⟩,J la ln lc,av5,kv5,vs5,r5,rfl,⟨la,ln,lc,rfl⟩,iq.o.set6 X8.o qh _ _ _ _ _ _,y1,y2,y3,y4,HK5.o.set6 hB (Nat.le_refl _) _ _ _ _ _ _,y5,y6,y7⟩)
   ·unfold Lm;dsimp only;have HP5:Hd (KQ W0.heap.size h mb C av kv r r5 w w5/\Az ss ts C.n ms s st (.make nm) ms' s' (.bad b)/\Dj W0.heap.size C w5 b v):=⟨(KQ.of_below HS.o ox.o hB).trans (Am.refl _ _) (Am.refl _ _) gq.o jm,o8,hv⟩;clear jm o8 hv HMT;go_wp2_with fail;exact⟨rfl,Or.inr ⟨b,v,r5,ms',s',rfl,HP5.o.1,HP5.o.2.1,HP5.o.2.2⟩⟩
  | false=>
   have HD:Hd (Az ss ts C.n ms s st (.make nm) (ms++[(nm,⟨4,nm,[]⟩)]) s (.ok ⟨4,nm,[]⟩)):=.missing HF.o.2.2.2.1 HF.o.2.1 (λq=>q.elim HNS.o (at_false HAT4.o));clear HFS km HR;go_wp2_with fail;obtain⟨⟨v0,v1,v2,v3,v4,v5⟩,_⟩:=Sv (Il lp.o (F false) (I 4) (S nm) nS ze nS);exact bR (v:=Pc ⟨4,nm,[]⟩ nS) qgq rfl (Sc gq.o (KQ.of_below HS.o ox.o hB) lp.o hB (Nat.le_refl _) HF.o.2.2.2.1 HD.o)
theorem underB_new(W0:E)(h mb:X)(C:Fr)(sa ta:Option Addr)(c1 c2:X)(ss:L S2)(ts:L T2)(nm:By)(ms:Mm)(s:Sb)(st:L By)(av kv:Z)(vs:By->Z)(r:Rv)(w:E)(hE:Jf W0 sa ta ss ts)(q:Lu W0.heap.size h mb C (J sa ss.length c1) (J ta ts.length c2) ss ts w ms st av kv vs s r)(hp:Fq ss ts C.n ms s st r.sn 0)(hW:Bw W0 w)(hk:fd ms nm=N)(cr:¬ El st nm)(jv:st.length<=60)(cz:Ao nm)(hR:∀i a cap,i<ts.length->(tx ts i).name=nm->Cn W0 a (tx ts i).code->st.length<60->Rb W0 h mb C (J sa ss.length c1) (J ta ts.length c2) ss ts (st++[nm]) nm a cap (tx ts i).code):Calls prog 128 #[D (p_ h),S nm] w λe w'=>Nu W0.heap.size h mb C (J sa ss.length c1) (J ta ts.length c2) ss ts ms s st av kv vs r nm (λd vs'=>Ft d (vs' nm)) w e w':=by
 have hB:=hW.size
 have hms:=hp.small hE.l2
 have hn60:=cz.2.1
 obtain⟨W,eW⟩:=Aj (w.alloc (O #[F false,I 0,ze,nS,ze,nS] 168))
 have cj:Bw w W:=qbe
 have I0:w.heap.size<W.heap.size:=by rw[<- eW];simp
 have s1:=q.bl cj
 obtain⟨n,L7,nk⟩:=s1.mkr.map
 have ew:=nk.look (k:=nm) qq
 have hmo:Iv ms st vs nm=N:=Ys hk cr
 rw[hmo]at ew
 unfold Hy at ew
 simp only[Option.getD_none,Option.isSome_none]at ew
 obtain⟨V,eV⟩:=Aj (W.alloc (O #[F false,I 0,ze,nS,ze,nS] 168))
 have pw:Bw w V:=by rw[<- eV];exact Ay cj (Ai _ _)
 have hVs:W.heap.size<V.heap.size:=by rw[<- eV];simp
 have HAB:Hd (V.heap[W.heap.size]?=M (O #[F false,I 0,ze,nS,ze,nS] 168 (0,0))):=by
  show _=_;rw[<- eV];exact Bf _ _
 have HOB:Hd (V.heap[w.heap.size]?=M (O #[F false,I 0,ze,nS,ze,nS] 168 (0,0))):=by
  show _=_;rw[<- eV,Lib.alloc_old _ _ _ I0,<- eW];exact Bf _ _
 have bh:=Ab (q.bl pw)
 obtain⟨xs,exs,wa⟩:=q.mkr.ask
 obtain⟨aa,ac,rfl⟩:∃aa ac,av=J aa (ms.length+st.length) ac:=by
  rcases wa.2 with⟨e,h0⟩|⟨g,cap,cur,e,_⟩
  ·exact qeb
  ·exact⟨_,_,e⟩
 have hnl:ms.length+st.length<=90000000:=qg
 have Y8:=Ab wa
 have HXS:=Ab exs
 obtain⟨_,_,A2,_⟩:=s1.mkr.cells
 have HE:=Ab hE
 have HF:Hd (Fq ss ts C.n ms s st r.sn 0/\¬ El st nm/\Bw W0 w/\fd ms nm=N/\Ao nm):=⟨hp,cr,hW,hk,cz⟩
 have HQ:=Ab q
 have HR:=Ab hR
 have D8:=Ab pw
 have EV:=Ab eV
 have HNL:=Ab hnl
 clear q s1 hp hW hk cr cz hR pw cj hE eV nk hmo hnl L7 hms wa exs
 go_enter func128,ntmps128
 go_upto_region 3 with fail
 rw[EV.o]
 clear EV eW A2 ew
 obtain⟨x0,x1,x2,x3,x4,x5,xf⟩:=bh.o.mkr.cells
 obtain⟨i0,zr,bq,bi,ci⟩:=info_parts Tryz.info9b
 have hhv:=Ag bh.o.mkr.blk
 have HAV:=Ab (Ad Y8.o D8.o)
 have D1:Hd (∀o:Obj,(V.alloc o).ownsRow W0.heap.size 9 1 (J aa (ms.length+st.length) ac) (ms.length+st.length) (Ar xs)):=λo=>HAV.o.alloc o
 have fa:W0.heap.size<=V.heap.size:=qg
 have ju:=HNL.o
 go_upto_region 4 with(at_builtin;refine wpList_append_lies _ rfl (.tmp 23) (.tmp 25) 22 rfl W0.heap.size 9 i0 ze 1 16 underlying22 zr bq bi ci rfl qh _ (ms.length+st.length) (Ar xs) rfl (D1.o _) ⟨V.heap.size,0,N⟩ 1 1 [S nm] rfl rfl (cell_one_new _ _ _) qak qg qq qg qj (V.heap.size+1) qi ?_;intro g3 cp3 w3 fq sf hl3 hlt3;have hh3:w3.heap[h]?=M (O #[J sa ss.length c1,J ta ts.length c2,.map (M mb),J aa (ms.length+st.length) ac,kv,fvC C] 165 (0,0)):=(by rw[sf.block h qj (λe=>Ae HAV.o qh bh.o.mkr.blk e.symm),Lib.alloc_old _ _ _ hhv];exact bh.o.mkr.blk);obtain⟨⟨y0,y1,y2,y3,y4,y5⟩,yf⟩:=Sv hh3)
 obtain⟨q1,q2,q3⟩:=bh.o.mkr.askd (nm:=nm) HXS.o sf fq hl3 fa
 have rs1:=(bh.o.rs.kp bh.o.mkr q2).av' bh.o.rs bh.o.ownA.1 bh.o.ownA.2 q3
 have kq3:=KQ.of_kp bh.o q2
 have a3:=kq3.blk bh.o HAB.o qh
 have o3:=kq3.blk bh.o HOB.o qh
 obtain⟨AK,eY⟩:=Aj (w3.setCell ⟨h,3,N⟩ (J (p_ g3) (ms.length+st.length+1) cp3))
 rw[eY]at q1 q2 a3 o3 rs1 kq3 ⊢
 have hbWY:=HF.o.2.2.1.trans ((D8.o.mono hB).trans q2.bl)
 have HMT:Hd (Calls prog 153 #[D (p_ h),S nm] AK λe w'=>ThingB W0.heap.size h mb C (J sa ss.length c1) (J ta ts.length c2) ss ts ms s st (J (p_ g3) (ms.length+st.length+1) cp3) kv r nm AK e w'):=Vm W0 h mb C sa ta c1 c2 ss ts nm ms s st _ kv vs r AK HE.o ⟨q1.le qg,rs1⟩ HF.o.1 hbWY HF.o.2.2.2.1 HF.o.2.1 jv HF.o.2.2.2.2 HR.o
 have HY:Hd (BS W0.heap.size h mb 2 C (J sa ss.length c1) (J ta ts.length c2) ss ts AK ms st st (ms.length+st.length+1) (J (p_ g3) (ms.length+st.length+1) cp3) kv vs s r/\KQ W0.heap.size h mb C (J aa (ms.length+st.length) ac) kv r r w AK/\Am w (J aa (ms.length+st.length) ac) (J (p_ g3) (ms.length+st.length+1) cp3)):=⟨⟨q1.le qg,rs1⟩,(KQ.of_below HQ.o D8.o hB).trans (Am.refl _ _) (Am.refl _ _) bh.o kq3,q3.less D8.o.size⟩
 have HA3:=Ab a3
 have A6:=Ab o3
 have hWY:=Ag a3
 clear q1 q2 q3 rs1 kq3 eY sf fq hl3 hlt3 hh3 y0 y1 y2 y3 y4 y5 yf x0 x1 x2 x3 x4 x5 xf a3 o3 D1 bh HAB HOB hbWY HR
 go_wp2_with fail
 refine HMT.o.mono ?_
 rintro e w5 (⟨ms1,mk,ms',s',⟨dc,dt,dls⟩,lv,av5,kv5,vs5,r5,rfl,⟨la,ln,lc,rfl⟩,yl,hmk,hms,hfd,o8,jm,ha5,hkk5,mo⟩|⟨b,v,r5,ms',s',rfl,jm,o8,hv⟩)
 ·have a5:=jm.blk HY.o.1 HA3.o qh;have o5:=jm.blk HY.o.1 A6.o qh;have hs5':=jm.bel.size;have S3:=Ab o5;have HA5:=Ab a5;have HK5:Hd (KQ W0.heap.size h mb C (J aa (ms.length+st.length) ac) kv r r5 w w5):=HY.o.2.1.trans HY.o.2.2 (Am.refl _ _) HY.o.1 jm;have iq:=Ab yl;have hwY:w.heap.size<=AK.heap.size:=qg;have tj:Hd ((∀x,x≠nm->(El mk x↔El st x))/\ms'=ms1++[(nm,⟨dc,dt,dls⟩)]/\fd ms1 nm=N/\Az ss ts C.n ms s st (.make nm) ms' s' (.ok ⟨dc,dt,dls⟩)/\Am w (J aa (ms.length+st.length) ac) av5/\Am w kv kv5/\r5.sn+400200*Dp ts ms st<=r.sn+400200*Dp ts ms' st):=⟨hmk,hms,hfd,o8,HY.o.2.2.trans hwY ha5,hkk5.less hwY,mo⟩;have og:=o8.inv HE.o.v HF.o.1.inv HF.o.1.ok HF.o.2.2.2.2 (λb e=>qw);have Q6:=og.1.done nm _ og.2.2.2;have HMD:Hd (0<=dc/\dc<=5/\dt.size<=2000):=⟨Q6.c0,Q6.c5,Q6.t2⟩;obtain⟨⟨z0,z1,z2,z3,z4,z5⟩,zf⟩:=Sv a5;unfold Pc;dsimp only;clear yl hmk hms hfd o8 ha5 hkk5 mo jm a5 o5 Q6 og HMT
  go_upto_region 6 with fail
  obtain⟨AE,eZ⟩:=Aj ((((((((w5.setCell ⟨W.heap.size,0,N⟩ (F false)).setCell ⟨W.heap.size,1,N⟩ (I dc)).setCell ⟨W.heap.size,2,N⟩ (S dt)).setCell ⟨W.heap.size,3,N⟩ nS).setCell ⟨W.heap.size,4,N⟩ ze).setCell ⟨W.heap.size,5,N⟩ (J la ln lc)).setCell ⟨W.heap.size,0,N⟩ (F true)));rw[eZ];have sz:=iq.o.set6 HA5.o qh (F false) (I dc) (S dt) nS ze (J la ln lc);have kz:=HK5.o.set6 (b:=W.heap.size) qg qg (F false) (I dc) (S dt) nS ze (J la ln lc);have az:=Il HA5.o (F false) (I dc) (S dt) nS ze (J la ln lc);have oz:=(Fm (w:=w5) (b:=W.heap.size) (show w.heap.size≠W.heap.size from qg) (F false) (I dc) (S dt) nS ze (J la ln lc)).trans S3.o;replace oz:=(Dm _ ⟨W.heap.size,0,N⟩ (F true) w.heap.size (show w.heap.size≠W.heap.size from qg)).trans oz;replace sz:=sz.set az qh 0 (F true);replace kz:=kz.setX (b:=W.heap.size) (j:=0) (u:=F true) qg qg;replace az:=Qg (j:=0) (u:=F true) (cs':=#[F true,I dc,S dt,nS,ze,J la ln lc]) az rfl;rw[eZ]at sz kz az oz;have HZ:Hd (BS W0.heap.size h mb 1 C (J sa ss.length c1) (J ta ts.length c2) ss ts AE ms1 mk st (ms'.length+st.length) av5 kv5 vs5 s' r5/\KQ W0.heap.size h mb C (J aa (ms.length+st.length) ac) kv r r5 w AE/\AE.heap[w.heap.size]?=M (O #[F false,I 0,ze,nS,ze,nS] 168 (0,0))):=⟨sz,kz,oz⟩;have HAZ:=Ab az;clear z0 z1 z2 z3 z4 z5 zf;obtain⟨⟨z0,z1,z2,z3,z4,z5⟩,zf⟩:=Sv az;obtain⟨fo,efo⟩:=Aj (Bp dc dt);have EF:=Ab efo;have HFO:Hd (Calls prog 151 #[G #[I dc,S dt,nS]] AE λe w'=>e=H (S fo)/\Bw AE w'):=by rw[<- efo];exact Sq dc dt AE HMD.o.1 HMD.o.2.1 HMD.o.2.2
  clear sz kz az oz efo eZ iq HK5 HA5 S3;go_wp2_with fail;refine HFO.o.mono ?_;rintro e w7 ⟨rfl,bo⟩;have hzs:=HZ.o.2.1.bel.size;have s7:=(HZ.o.1.bl bo).set (Ac bo HAZ.o) qh 4 (S fo);have k7:=(HZ.o.2.1.after tj.o.2.2.2.2.1 tj.o.2.2.2.2.2.1 HZ.o.1 bo qg).setX (b:=W.heap.size) (j:=4) (u:=S fo) qg qg;have a7:=Qg (j:=4) (u:=S fo) (cs':=#[F true,I dc,S dt,nS,S fo,J la ln lc]) (Ac bo HAZ.o) rfl;have o7:=(Dm w7 ⟨W.heap.size,4,N⟩ (S fo) w.heap.size (show w.heap.size≠W.heap.size from qg)).trans (Ac bo HZ.o.2.2);clear z0 z1 z2 z3 z4 z5 zf HFO;obtain⟨⟨z0,z1,z2,z3,z4,z5⟩,zf⟩:=Sv (Ac bo HAZ.o);obtain⟨Z7,eZ7⟩:=Aj (w7.setCell ⟨W.heap.size,4,N⟩ (S fo));rw[eZ7]at s7 k7 a7 o7;obtain⟨U,eU⟩:=Aj Z7.drew;have be:Bw Z7 U:=qbc;have hz7:=k7.bel.size;have sU:=s7.bl be;have kU:=k7.after tj.o.2.2.2.2.1 tj.o.2.2.2.2.2.1 s7 be qg;have aU:=Ac be a7;have oU:=Ac be o7;dsimp only
  go_upto_region 7 with fail
  obtain⟨x0,x1,x2,x3,x4,x5,xf⟩:=sU.mkr.cells;obtain⟨⟨y0,y1,y2,y3,y4,y5⟩,yf⟩:=Sv aU;obtain⟨n,hn,hm⟩:=sU.mkr.map;obtain⟨p1,p2,p3,p4,p5,p6,p7⟩:=tj.o
  have hmf:ms'.length+st.length<=90000000:=by
   have hct:=p4.cost HE.o.v HF.o.1.inv HF.o.1.ok HF.o.2.2.2.2 (λb e=>qw);have h1:=Pz ts ms' st;have h2:=HE.o.l2;have h3:=HF.o.1.ml;simp only[Pq]at hct;omega
  obtain⟨w9,kw,hm9,hg9⟩:=hm.store (k:=nm) qq qq (Ft ⟨dc,dt,dls⟩ (J la ln lc))
  classical
  have m9:=(sU.mkr.le (k':=0) qg).mark (n:=n+1) (nm:=nm) (ms':=ms') (mk':=st) (vs':=λx=>if x=nm then J la ln lc else vs5 x) (v:=Ft ⟨dc,dt,dls⟩ (J la ln lc)) qg hm9 hg9 (λx=>by rw[p2];exact markB_end p3 p1 x) (λx=>by
   by_cases hx:x=nm
   ·exact⟨la,ln,lc,by simp[hx]⟩
   ·obtain⟨a1,a2,a3,a4⟩:=sU.mkr.vsl x;exact⟨a1,a2,a3,by simp[hx,a4]⟩)
  have kp9:KP W0.heap.size h mb av5 kv5 U w9:=KP.mapped (KP.old (Below.refl _ _) (zo kU.bel.size)) sU.mkr.mB hg9 (zo kU.bel.size);have s9:Lu W0.heap.size h mb C (J sa ss.length c1) (J ta ts.length c2) ss ts w9 ms' st av5 kv5 (λx=>if x=nm then J la ln lc else vs5 x) s' r5:=⟨m9,(sU.rs.kp sU.mkr kp9).ext ⟨[(nm,⟨dc,dt,dls⟩)],p2⟩⟩;have T0:=KQ.of_kp sU kp9;have k9:=kU.trans p5 p6 sU T0;have a9:=T0.blk sU aU qh;have o9:=T0.blk sU oU qh;unfold Ft at kw;simp only[EF.o]at kw;have mw:=Ab s9;have HK9:=Ab k9;have HO9:=Ab o9;have HXX:Hd (Az ss ts C.n ms s st (.make nm) ms' s' (.ok ⟨dc,dt,dls⟩)/\Am w (J aa (ms.length+st.length) ac) av5/\Am w kv kv5/\r5.sn+400200*Dp ts ms st<=r.sn+400200*Dp ts ms' st):=⟨p4,p5,p6,p7⟩;clear s9 m9 kp9 T0 k9 hm9 hg9 hm hn sU kU aU oU s7 k7 a7 o7 bo be p1 p2 p3 p4 p5 p6 p7 eZ7 hmf z0 z1 z2 z3 z4 z5 zf;go_region;clear eU x0 x1 x2 x3 x4 x5 xf y0 y1 y2 y3 y4 y5 yf kw;obtain⟨⟨y0,y1,y2,y3,y4,y5⟩,yf⟩:=Sv a9;obtain⟨⟨z0,z1,z2,z3,z4,z5⟩,zf⟩:=Sv o9;clear a9 o9;go_wp2_with fail;obtain⟨⟨v0,v1,v2,v3,v4,v5⟩,_⟩:=Sv (Il HO9.o (F true) (I dc) (S dt) nS (S fo) (J la ln lc));refine bR (v:=Ft ⟨dc,dt,dls⟩ ((λx=>if x=nm then (J la ln lc:Z) else vs5 x) nm)) (by simp[results,results128,go_sem,Ft,EF.o,v0,v1,v2,v3,v4,v5]) rfl ⟨ms',s',_,HXX.o.1,Or.inl ⟨_,av5,kv5,_,r5,rfl,rfl,mw.o.set6 HO9.o qh _ _ _ _ _ _,HK9.o.set6 hB (Nat.le_refl _) _ _ _ _ _ _,HXX.o.2.1,HXX.o.2.2.1,HXX.o.2.2.2⟩⟩
 ·unfold Lm;dsimp only;have HP5:Hd (KQ W0.heap.size h mb C (J aa (ms.length+st.length) ac) kv r r5 w w5/\Az ss ts C.n ms s st (.make nm) ms' s' (.bad b)/\Dj W0.heap.size C w5 b v):=⟨HY.o.2.1.trans HY.o.2.2 (Am.refl _ _) HY.o.1 jm,o8,hv⟩;clear jm o8 hv HMT;go_wp2_with fail;exact⟨rfl,ms',s',_,HP5.o.2.1,Or.inr ⟨b,v,r5,rfl,rfl,HP5.o.2.2,HP5.o.1⟩⟩
theorem first_at(h:El st nm):∃i,i<st.length/\nx st i=nm/\∀j,j<i->nx st j≠nm:=by
 obtain⟨i,hi,e⟩:=h
 induction i using Nat.strongRecOn with
 | _ i ih=>
   by_cases q:∃j,j<i/\nx st j=nm
   ·obtain⟨j,hj,ej⟩:=q
    exact ih j hj qg ej
   ·exact⟨i,hi,e,λj hj ej=>q ⟨j,hj,ej⟩⟩
theorem Xy(W0:E)(h mb:X)(C:Fr)(sa ta:Option Addr)(c1 c2:X)(ss:L S2)(ts:L T2)(hE:Jf W0 sa ta ss ts)(st:L By)(jv:st.length<=60)(hR:∀nm,Ao nm->∀i a cap,i<ts.length->(tx ts i).name=nm->Cn W0 a (tx ts i).code->st.length<60->Rb W0 h mb C (J sa ss.length c1) (J ta ts.length c2) ss ts (st++[nm]) nm a cap (tx ts i).code):Ho W0 h mb C (J sa ss.length c1) (J ta ts.length c2) ss ts st:=by
 intro w ms nm av kv vs s r q hp cz hb;have hn60:=cz.2.1
 cases hk:fd ms nm with
 | some d=>exact Zj _ h mb C _ _ ss ts ms s st av kv vs r nm d w q hb.size hn60 hk
 | none=>
   by_cases hs:El st nm
   ·obtain⟨i,q1,q2,q3⟩:=first_at hs
    exact Wt _ h mb C _ _ ss ts ms s st av kv vs r nm i w q hb.size hn60 jv hk q1 q2 q3
   ·exact underB_new W0 h mb C sa ta c1 c2 ss ts nm ms s st av kv vs r w hE q hp hb hk hs jv cz (hR nm cz)
end Go.Proofs.YtnflkpmmfpfhlaaGreatDoor
