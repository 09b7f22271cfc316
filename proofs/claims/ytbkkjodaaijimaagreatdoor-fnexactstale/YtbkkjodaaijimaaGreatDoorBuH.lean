import Derived.Test.YtbkkjodaaijimaaGreatDoorBtB
import Derived.Test.YtbkkjodaaijimaaGreatDoorBuI
namespace Go.Proofs.YtbkkjodaaijimaaGreatDoor
open _root_.Go.Proofs.Tryz Go.RowKit Go.Deep
open Value renaming slice->J,string->S,bool->F,agg->G,pointer->D,tuple->Y
open Option renaming some->M,none->N
open Obj renaming cells->O
open Go renaming Value->Z,World->E
open Ending renaming returned->H
open _root_ renaming List->L,Nat->X
set_option linter.unusedVariables false
set_option linter.unusedSimpArgs false
set_option maxHeartbeats 8000000
set_option maxRecDepth 100000
variable {B h R:X} {C:Gg} {sv tv av kv:Z} {ss:L S2} {ts:L T2} {ms:Mm} {s:Sb} {st:L By} {r:Rv} {is:L I3} {w:E} {vs:By->Z} {nm:By}
def Ul(B h mb:X)(C:Gg)(sv tv:Z)(ss:L S2)(ts:L T2)(ms:Mm)(s:Sb)(st:L By)(av kv:Z)(r:Rv)(nm:By)(w:E)(e:Ending)(w':E):Prop:=
 (∃ms1 mk ms' s' d lv av' kv' vs' r',e=H (Og d lv)/\(∃a n c,lv=J a n c)/\BS B h mb 1 C sv tv ss ts w' ms1 mk st (ms'.length+st.length) av' kv' vs' s' r'/\(∀x,x≠nm->(Ed mk x↔Ed st x))/\ms'=ms1++[(nm,d)]/\fd ms1 nm=N/\Bc ss ts C.n ms s st (.make nm) ms' s' (.ok d)/\KQ B h mb C av kv r r' w w'/\An w av av'/\An w kv kv'/\r'.sn+400200*Db ts ms st<=r.sn+400200*Db ts ms' st)\/
 (∃b v r' ms' s',e=Lb v/\KQ B h mb C av kv r r' w w'/\Bc ss ts C.n ms s st (.make nm) ms' s' (.bad b)/\Cz B C w' b v)
def WorkB(B h mb:X)(C:Gg)(sv tv:Z)(ss:L S2)(ts:L T2)(ms:Mm)(s:Sb)(st:L By)(av kv:Z)(r:Rv)(tn:By)(is:L I3)(w:E)(e:Ending)(w':E):Prop:=
 (∃ms' s' d lv av' kv' vs' r',e=H (Y #[lv,G #[I d.c,S d.t,nS]])/\(∃a n c,lv=J a n c)/\Bc ss ts C.n ms s st (.work tn is) ms' s' (.ok d)/\Iw B h mb C sv tv ss ts w' ms' st av' kv' vs' s' r'/\KQ B h mb C av kv r r' w w'/\An w av av'/\An w kv kv'/\r'.sn+400200*Db ts ms st<=r.sn+400200+400200*Db ts ms' st)\/
 (∃b v r' ms' s',e=Lb v/\KQ B h mb C av kv r r' w w'/\Bc ss ts C.n ms s st (.work tn is) ms' s' (.bad b)/\Cz B C w' b v)
def Kn(W0:E)(h mb:X)(C:Gg)(sv tv:Z)(ss:L S2)(ts:L T2)(st:L By)(tn:By)(a:Option Addr)(cap:X)(is:L I3):Prop:=
 ∀(w:E)(ms:Mm)(av kv:Z)(vs:By->Z)(s:Sb)(r:Rv),Iw W0.heap.size h mb C sv tv ss ts w ms st av kv vs s r->Fd ss ts C.n ms s st r.sn 400200->Bw W0 w->
   Calls prog 128 #[D (p_ C.hb),G #[S tn,J a is.length cap]] w λe w'=>WorkB W0.heap.size h mb C sv tv ss ts ms s st av kv r tn is w e w'
theorem step_work{fi xi:X}{W:E}{ops:Array Oper}{o:Oper}{a:Act}{K:Act->E->Prop}{Q:Exit->Act->E->Prop}{AF:Prop}(ri:o.guard=N)(ho:o.op=.call { callee:=.value (.tmp fi),args:=#[.tmp xi],argTypes:=#[99] }){mb:X}{tn:By}{p:Option Addr}{cap:X}(hf:a.eval (.tmp fi)=fvC C)(hx:a.eval (.tmp xi)=G #[S tn,J p is.length cap])(hc:Calls prog 128 #[D (p_ C.hb),G #[S tn,J p is.length cap]] W λe w'=>WorkB B h mb C sv tv ss ts ms s st av kv r tn is W e w')(ft:∀w' m8 s8 dc dt dls la ln lc av' kv' vs' r',Bc ss ts C.n ms s st (.work tn is) m8 s8 (.ok ⟨dc,dt,dls⟩)->Iw B h mb C sv tv ss ts w' m8 st av' kv' vs' s8 r'->KQ B h mb C av kv r r' W w'->An W av av'->An W kv kv'->r'.sn+400200*Db ts ms st<=r.sn+400200+400200*Db ts m8 st->K (a.put o.dst (Y #[J la ln lc,G #[I dc,S dt,nS]])) w')(hpan:∀w' b v r' m8 s8,KQ B h mb C av kv r r' W w'->Bc ss ts C.n ms s st (.work tn is) m8 s8 (.bad b)->Cz B C w' b v->Q (.panic [{ v:=.iface 231 v,recovered:=false }]) a w'):if Region.wanted o (yielded ops a.tmps)=true then Oper.wp prog o a W K Q else AF:=by
 have hw:Region.wanted o (yielded ops a.tmps)=true:=qby
 have kj:(execOp a.eval o).run prog W=.ok (.enter 128 #[D (p_ C.hb),G #[S tn,J p is.length cap]]) W:=by
  unfold execOp;rw[ho];unfold fvC at hf;simp[Act.eval]at hf hx;simp[go_sem,Act.eval,hf,hx]
 rw[if_pos hw];unfold Oper.wp;rw[kj,Oper.upon_enter];refine hc.mono ?_;rintro e w8 (⟨m8,s8,⟨dc,dt,dls⟩,lv,pc,kv8,ul,r8,rfl,⟨la,ln,lc,rfl⟩,mq,T6,l5,Q5,pp,kw⟩|⟨b,v,r8,m8,s8,rfl,l5,mq,hv⟩)
 ·exact ft w8 m8 s8 dc dt dls la ln lc pc kv8 ul r8 mq T6 l5 Q5 pp kw
 ·exact hpan w8 b v r8 m8 s8 l5 mq hv
theorem KQ.alloc1{mb k:X}{w8:E}{mk:L By}{al:X}{r':Rv}{o:Obj}(q:BS B h mb k C sv tv ss ts w ms mk st al av kv vs s r)(hk:KQ B h mb C av kv r r' (w.alloc o) w8)(hB:B<=w.heap.size):KQ B h mb C av kv r r' w w8:=(KQ.of_below q (Ai _ _) hB).trans (An.refl _ _) (An.refl _ _) (q.bl (Ai _ _)) hk
structure RXB (B h mb P R:X) (C:Gg) (sv tv:Z) (ss:L S2) (ts:L T2) (w:E) (ms:Mm) (s:Sb) (st:L By) (av kv:Z) (r:Rv) (nm:By) (is:L I3) (m8:Mm) (s8:Sb) (dc:Int) (dt:By) (dls:L G3) (pc:Z) (g8 vh:X) (ul:By->Z) (r8:Rv) (wx:E):Prop where
 ma:Iw B h mb C sv tv ss ts wx m8 (st++[nm]) pc (J (p_ g8) (st.length+1) vh) ul s8 r8
 pb:wx.heap[P]?=M (O #[I dc,S dt,nS] 120 (0,0))
 rb:wx.heap[R]?=M (O #[F false,I 0,ze,nS,ze,nS] 213 (0,0))
 kp:KQ B h mb C av kv r r8 w wx
 ra:An w av pc
 rk:An w kv (J (p_ g8) (st.length+1) vh)
 dd:Bc ss ts C.n ms s (st++[nm]) (.work nm is) m8 s8 (.ok ⟨dc,dt,dls⟩)
 sn:r8.sn+400200*Db ts ms (st++[nm])<=r.sn+400200+400200*Db ts m8 (st++[nm])
theorem RXB.bl{mb P:X}{m8:Mm}{s8:Sb}{dc:Int}{dt:By}{dls:L G3}{pc:Z}{g8 vh:X}{ul:By->Z}{r8:Rv}{wx w':E}(q:RXB B h mb P R C sv tv ss ts w ms s st av kv r nm is m8 s8 dc dt dls pc g8 vh ul r8 wx)(hb:Bw wx w')(hB:B<=wx.heap.size):RXB B h mb P R C sv tv ss ts w ms s st av kv r nm is m8 s8 dc dt dls pc g8 vh ul r8 w':=
 ⟨q.ma.bl hb,Ad hb q.pb,Ad hb q.rb,q.kp.after q.ra q.rk q.ma hb hB,q.ra,q.rk,q.dd,q.sn⟩
theorem Sj(W0:E)(h mb:X)(C:Gg)(sa ta a:Option Addr)(c1 c2 cap i:X)(ss:L S2)(ts:L T2)(nm:By)(ms:Mm)(s:Sb)(st:L By)(av kv:Z)(vs:By->Z)(r:Rv)(w:E)(hE:Hn W0 sa ta ss ts)(q:BS W0.heap.size h mb 2 C (J sa ss.length c1) (J ta ts.length c2) ss ts w ms st st (ms.length+st.length+1) av kv vs s r)(hp:Fd ss ts C.n ms s st r.sn 0)(hW:Bw W0 w)(hk:fd ms nm=N)(de:¬ Ed st nm)(jg:st.length<=60)(cm:Ar nm)(hns:¬ Ed (Am ss) nm)(hti:i<ts.length)(htn:(tx ts i).name=nm)(hR:st.length<60->Kn W0 h mb C (J sa ss.length c1) (J ta ts.length c2) ss ts (st++[nm]) nm a cap (tx ts i).code):Calls prog 184 #[D (p_ h),G #[S nm,J a (tx ts i).code.length cap]] w λe w'=>Ul W0.heap.size h mb C (J sa ss.length c1) (J ta ts.length c2) ss ts ms s st av kv r nm w e w':=by
 have hB:=hW.size
 have M6:h<w.heap.size:=Ag q.mkr.blk
 have hth:Ed (Ak ts) nm:=htn▸Il hti
 obtain⟨is,eis⟩:=Aj ((tx ts i).code)
 obtain⟨W,eW⟩:=Aj (((w.alloc (O #[S nm,J a is.length cap] 99)).alloc (O #[F false,I 0,ze,nS,ze,nS] 213)))
 have bn:Bw w W:=qbo
 have A7:Hd (W.heap[w.heap.size]?=M (O #[S nm,J a is.length cap] 99 (0,0))):=by
  show _=_;rw[<- eW,Lib.alloc_old _ _ _ qg];exact Bf _ _
 have jv:Hd (W.heap[w.heap.size+1]?=M (O #[F false,I 0,ze,nS,ze,nS] 213 (0,0))):=by
  show _=_;rw[<- eW];have h:=Bf (w.alloc (O #[S nm,J a is.length cap] 99)) (O #[F false,I 0,ze,nS,ze,nS] 213);rw[show(w.alloc (O #[S nm,J a is.length cap] 99)).heap.size=w.heap.size+1 from qg]at h;exact h
 have s1:=q.bl bn
 obtain⟨x0,x1,x2,x3,x4,x5,xf⟩:=s1.mkr.cells
 obtain⟨ka,kc,rfl⟩:∃ka kc,kv=J ka st.length kc:=by
  rcases s1.mkr.stk.2 with⟨e,h0⟩|⟨g,cap,cur,e,_⟩
  ·exact qdl
  ·exact⟨_,_,e⟩
 obtain⟨t0,t1⟩:=ck2 A7.o
 have HS:Hd (BS W0.heap.size h mb 2 C (J sa ss.length c1) (J ta ts.length c2) ss ts W ms st st (ms.length+st.length+1) av (J ka st.length kc) vs s r):=s1
 have HK:Hd (KQ W0.heap.size h mb C av (J ka st.length kc) r r w W):=KQ.of_below q bn hB
 have HQ0:=Ac q
 have HF:Hd (Fd ss ts C.n ms s st r.sn 0/\¬ Ed st nm/\Bw W0 w/\fd ms nm=N/\Ar nm/\¬ Ed (Am ss) nm/\Ed (Ak ts) nm):=⟨hp,de,hW,hk,cm,hns,hth⟩
 have R0:Hd (i<ts.length/\(tx ts i).name=nm/\(tx ts i).code=is):=⟨hti,htn,eis⟩
 rw[eis]at hR ⊢
 have HR:=hR
 have HRA:Hd (st.length<60->Kn W0 h mb C (J sa ss.length c1) (J ta ts.length c2) ss ts (st++[nm]) nm a cap is):=HR
 have lx:=hp.small hE.l2
 have A8:=Ac lx
 have HE:Hd (Hn W0 sa ta ss ts):=hE
 clear q s1 hp hW hk de hns hti htn hR HR bn hE eis hth lx
 by_cases hd:st.length=60
 ·have hdI:((st.length:Int) == 60)=true:=qh;have yx:Hd (Bc ss ts C.n ms s st (.make nm) ms s (.bad (.deep nm))):=.deep HF.o.2.2.2.1 HF.o.2.1 HF.o.2.2.2.2.2.1 HF.o.2.2.2.2.2.2 qb;have R7:Hd (Cz W0.heap.size C W (.deep nm) (G #[I 7,S nm,nS])):=⟨by rw[cH HS.o.rs.bd];rfl,by rw[cH HS.o.rs.bd];rfl,rfl⟩;go_enter func184,ntmps184;go_wp2_with fail;exact⟨rfl,Or.inr ⟨_,_,r,_,_,rfl,HK.o,yx.o,R7.o⟩⟩
 ·have hdI:((st.length:Int) == 60)=false:=qh;go_enter func184,ntmps184
  go_upto_region 3 with fail
  obtain⟨U,eU⟩:=Aj W.drew;have bm:Bw W U:=qay;have sU:=HS.o.bl bm;clear x0 x1 x2 x3 x4 x5 xf;obtain⟨x0,x1,x2,x3,x4,x5,xf⟩:=sU.mkr.cells;have u0:U.cell? ⟨w.heap.size,0,N⟩=M (S nm):=by rw[cH (Ad bm A7.o)];rfl
  obtain⟨n,hn,hm⟩:=sU.mkr.map;obtain⟨w2,kj,rd,F5⟩:=hm.store (k:=nm) (by have:=cm.2.1;unfold maxLen;omega) (by have:=A8.o.1;have:=A8.o.2.2.1;unfold maxLen;omega) Hr;have m2:=(sU.mkr.le (k':=1) qb).mark (n:=n+1) qb rd F5 (λx=>markB_push HF.o.2.2.2.1 x) sU.mkr.vsl;have kp2:KP W0.heap.size h mb av (J ka st.length kc) U w2:=KP.mapped (KP.old (Below.refl _ _) (by have:=HK.o.bel.size;have:=bm.size;omega)) HS.o.mkr.mB F5 (by have:=HK.o.bel.size;have:=bm.size;omega);have s2:BS W0.heap.size h mb 1 C (J sa ss.length c1) (J ta ts.length c2) ss ts w2 ms (st++[nm]) st (ms.length+st.length+1) av (J ka st.length kc) vs s r:=⟨m2,sU.rs.kp sU.mkr kp2⟩;unfold Hr at kj;have fs:Hd (KQ W0.heap.size h mb C av (J ka st.length kc) r r w w2):=(HK.o.after (An.refl _ _) (An.refl _ _) HS.o bm (zo HK.o.bel.size)).trans (An.refl _ _) (An.refl _ _) sU (KQ.of_kp sU kp2);have cr:Hd (BS W0.heap.size h mb 1 C (J sa ss.length c1) (J ta ts.length c2) ss ts w2 ms (st++[nm]) st (ms.length+st.length+1) av (J ka st.length kc) vs s r):=s2;have hmlt:∀b cs T,U.heap[b]?=M (Obj.cells cs T (0,0))->w2.heap[b]?=M (Obj.cells cs T (0,0)):=λb cs T q=>by rw[F5.block b (Ag q) (λe=>hm.notCells (by injection e with e;exact e▸q))];exact q
  have HTB2:Hd (w2.heap[w.heap.size]?=M (O #[S nm,J a is.length cap] 99 (0,0))):=hmlt _ _ _ (Ad bm A7.o);have HRB2:Hd (w2.heap[w.heap.size+1]?=M (O #[F false,I 0,ze,nS,ze,nS] 213 (0,0))):=hmlt _ _ _ (Ad bm jv.o);clear hmlt rd F5 s2 m2 kp2 sU bm hm hn t0 t1;go_region;clear eU kj x0 x1 x2 x3 x4 x5 xf u0
  go_upto_region 4 with fail
  obtain⟨U,eU⟩:=Aj w2.drew;have bm:Bw w2 U:=qay;have dp:Hd (BS W0.heap.size h mb 1 C (J sa ss.length c1) (J ta ts.length c2) ss ts U ms (st++[nm]) st (ms.length+st.length+1) av (J ka st.length kc) vs s r):=cr.o.bl bm;have hsz2:=fs.o.bel.size;have jo:Hd (KQ W0.heap.size h mb C av (J ka st.length kc) r r w U):=fs.o.after (An.refl _ _) (An.refl _ _) cr.o bm qb;have HTU:Hd (U.heap[w.heap.size]?=M (O #[S nm,J a is.length cap] 99 (0,0))):=Ad bm HTB2.o;have ki:Hd (U.heap[w.heap.size+1]?=M (O #[F false,I 0,ze,nS,ze,nS] 213 (0,0))):=Ad bm HRB2.o;obtain⟨x0,x1,x2,x3,x4,x5,xf⟩:=dp.o.mkr.cells;have u0:=cK HTU.o 0;have hhu:h<U.heap.size:=Ag dp.o.mkr.blk;have hwu:w.heap.size<U.heap.size:=Ag HTU.o;have yv:Hd (∀o:Obj,(U.alloc o).ownsRow W0.heap.size 9 1 (J ka st.length kc) st.length (Aq st)):=λo=>dp.o.mkr.stk.alloc o;clear bm
  go_cut [32] (λp wx=>∃g4 yk,p=J (p_ g4) (st.length+1) yk/\Hd (Iw W0.heap.size h mb C (J sa ss.length c1) (J ta ts.length c2) ss ts wx ms (st++[nm]) av (J (p_ g4) (st.length+1) yk) vs s r/\KQ W0.heap.size h mb C av (J ka st.length kc) r r w wx/\An w (J ka st.length kc) (J (p_ g4) (st.length+1) yk)/\wx.heap[w.heap.size]?=M (O #[S nm,J a is.length cap] 99 (0,0))/\wx.heap[w.heap.size+1]?=M (O #[F false,I 0,ze,nS,ze,nS] 213 (0,0))))
  case first=>
   go_region_law (first|(refine Qb rfl rfl W0.heap.size ka st.length kc (Aq st) ?_ ?_ U.heap.size nm ?_ ?_ ?_ ?_ ?_;(focus(first|rfl|(simp[Act.eval];done)));(focus(exact yv.o _));(focus(first|rfl|(simp[Act.eval];done)));(focus(exact Bf _ _));(focus(simp;omega));(focus omega);intro g4 yk w4 nr ew F3;have hh4:w4.heap[h]?=M (O #[J sa ss.length c1,J ta ts.length c2,.map (M mb),av,J ka st.length kc,fvC C] 211 (0,0)):=(by rw[ew.block h qh (λe=>Ae dp.o.mkr.stk qd dp.o.mkr.blk e.symm),Lib.alloc_old _ _ _ hhu];exact dp.o.mkr.blk);obtain⟨⟨y0,y1,y2,y3,y4,y5⟩,yf⟩:=Rm hh4;have HG4:Hd (_/\_):=⟨nr,ew⟩;have t6:Hd (_\/_):=F3;clear nr ew F3 hh4))
   all_goals
    go_wp2_with fail;go_meet;obtain⟨p1,p2,p3⟩:=dp.o.mkr.push (nm:=nm) HG4.o.2 HG4.o.1 (by rcases t6.o with q|q;exact Or.inl q;exact Or.inr (by simpa using q)) qb;have rs1:=(dp.o.rs.kp dp.o.mkr p2).kv' dp.o.rs dp.o.ownA.1 dp.o.ownA.2 p3;have kq:=KQ.of_kp dp.o p2;have ky:ms.length+st.length+1=ms.length+(st++[nm]).length:=qh;rw[ky]at p1;exact⟨g4,yk,rfl,⟨p1,rs1⟩,jo.o.trans (An.refl _ _) (An.refl _ _) dp.o kq,(An.refl _ _).trans qb p3,kq.blk dp.o HTU.o qd,kq.blk dp.o ki.o qd⟩
  case rest=>
   obtain⟨g4,yk,rfl,HX⟩:=hcut;obtain⟨wk,rfl⟩:∃wk,wk=wc:=⟨_,rfl⟩;clear dp jo HTU ki x0 x1 x2 x3 x4 x5 xf u0 hhu hwu yv eU
   go_upto_region 5 with fail
   obtain⟨U,eU⟩:=Aj wk.drew;have bm:Bw wk U:=qay;have hwk:=HX.o.2.1.bel.size;have dp:Hd (Iw W0.heap.size h mb C (J sa ss.length c1) (J ta ts.length c2) ss ts U ms (st++[nm]) av (J (p_ g4) (st.length+1) yk) vs s r):=HX.o.1.bl bm
   have T8:Fd ss ts C.n ms s (st++[nm]) r.sn 400200:=by
    have q2:Db ts ms st+1<=Db ts ms (st++[nm]):=by
     exact qji
    have e1:=HF.o.1.ml;have e2:=HF.o.1.sl;have e3:=HF.o.1.cn;unfold Ku at e3;exact⟨HF.o.1.inv.push HF.o.2.2.2.1 HF.o.2.2.2.2.2.2,HF.o.1.ok,qb,by unfold Ku;simp only[List.length_append,List.length_singleton];omega,qb⟩
   have B1:Hd (∀V,Bw U V->Calls prog 128 #[D (p_ C.hb),G #[S nm,J a is.length cap]] V λe w'=>WorkB W0.heap.size h mb C (J sa ss.length c1) (J ta ts.length c2) ss ts ms s (st++[nm]) av (J (p_ g4) (st.length+1) yk) r nm is V e w'):=λV hV=>HRA.o qb V _ _ _ _ _ _ (dp.o.bl hV) T8 (HF.o.2.2.1.trans (HX.o.2.1.bel.trans ((bm.mono qb).trans (hV.mono (zo bm.size)))));have HTU:Hd (U.heap[w.heap.size]?=M (O #[S nm,J a is.length cap] 99 (0,0))):=Ad bm HX.o.2.2.2.1;have ki:Hd (U.heap[w.heap.size+1]?=M (O #[F false,I 0,ze,nS,ze,nS] 213 (0,0))):=Ad bm HX.o.2.2.2.2;have jo:Hd (KQ W0.heap.size h mb C av (J ka st.length kc) r r w U/\An w (J ka st.length kc) (J (p_ g4) (st.length+1) yk)):=⟨HX.o.2.1.after (An.refl _ _) HX.o.2.2.1 HX.o.1 bm qb,HX.o.2.2.1⟩;obtain⟨x0,x1,x2,x3,x4,x5,xf⟩:=dp.o.mkr.cells;obtain⟨u0,u1⟩:=ck2 HTU.o;have hhu:h<U.heap.size:=Ag dp.o.mkr.blk;have hwu:w.heap.size<U.heap.size:=Ag HTU.o;clear bm HX T8
   go_cut [5,6] (λp q wx=>∃(P:X)(la:Option Addr)(ln lc:X)(dc:Int)(dt:By)(dls:L G3)(m8:Mm)(s8:Sb)(pc:Z)(g8 vh:X)(ul:By->Z)(r8:Rv),p=J la ln lc/\q=D (p_ P)/\Hd (RXB W0.heap.size h mb P (w.heap.size+1) C (J sa ss.length c1) (J ta ts.length c2) ss ts w ms s st av (J ka st.length kc) r nm is m8 s8 dc dt dls pc g8 vh ul r8 wx))
   case first=>
    go_region_law (first|(refine step_work rfl rfl ?_ ?_ (B1.o _ ?_) ?_ ?_;(focus(first|rfl|(simp[Act.eval];done)));(focus(first|rfl|(simp[Act.eval];done)));(focus(first|with_reducible exact Below.refl _ _|exact Ai _ _));rotate_left;(focus(intro w8 b v r8 m8 s8 l5 mq hv;have G6:Hd (KQ W0.heap.size h mb C av (J (p_ g4) (st.length+1) yk) r r8 U w8):=(by show KQ _ _ _ _ _ _ _ _ _ _;first|with_reducible exact l5|exact KQ.alloc1 dp.o l5 qb);have uf:Hd (Bc ss ts C.n ms s (st++[nm]) (.work nm is) m8 s8 (.bad b)/\Cz W0.heap.size C w8 b v):=⟨mq,hv⟩;clear l5 mq hv;go_wp2_with fail;exact⟨rfl,Or.inr ⟨b,v,r8,m8,s8,rfl,jo.o.1.trans (An.refl _ _) jo.o.2 dp.o G6.o,.fell HF.o.2.2.2.1 HF.o.2.1 HF.o.2.2.2.2.2.1 R0.o.1 R0.o.2.1 qb (by rw[R0.o.2.2];exact uf.o.1),uf.o.2⟩⟩));intro w8 m8 s8 dc dt dls la ln lc pc kv8 ul r8 mq T6 l5 Q5 pp wn;have G6:Hd (KQ W0.heap.size h mb C av (J (p_ g4) (st.length+1) yk) r r8 U w8):=(by show KQ _ _ _ _ _ _ _ _ _ _;first|with_reducible exact l5|exact KQ.alloc1 dp.o l5 qb);have HA8:Hd (An U av pc):=(by show An _ _ _;first|with_reducible exact Q5|exact Q5.less qg);have t8:Hd (An U (J (p_ g4) (st.length+1) yk) kv8):=(by show An _ _ _;first|with_reducible exact pp|exact pp.less qg);have yx:Hd (Bc ss ts C.n ms s (st++[nm]) (.work nm is) m8 s8 (.ok ⟨dc,dt,dls⟩)/\r8.sn+400200*Db ts ms (st++[nm])<=r.sn+400200+400200*Db ts m8 (st++[nm])):=⟨mq,wn⟩;have gi:Hd (Iw W0.heap.size h mb C (J sa ss.length c1) (J ta ts.length c2) ss ts w8 m8 (st++[nm]) pc kv8 ul s8 r8):=T6;(first|(have z8:=KQ.blk l5 (dp.o.bl (Ai _ _)) (Bf _ _) qd;obtain⟨k0,k1,k2,kf⟩:=Dw z8;have G4:Hd (w8.heap[U.heap.size]?=M (O #[I 0,ze,nS] 120 (0,0))):=z8;clear z8)|skip);clear l5 mq T6 Q5 pp wn))
    all_goals
     go_wp2_with fail;go_meet
     obtain⟨g8,vh,rfl⟩:∃g cp,kv8=J (p_ g) (st.length+1) cp:=by
      have q:=gi.o.mkr.stk;rw[List.length_append,List.length_singleton]at q
      rcases q.2 with⟨_,h0⟩|⟨g,cp,cur,e,_⟩
      ·omega
      ·exact⟨g,cp,e⟩
     have hsU:=G6.o.bel.size;have hR8:w8.heap[w.heap.size+1]?=M (O #[F false,I 0,ze,nS,ze,nS] 213 (0,0)):=G6.o.blk dp.o ki.o qd;have J2:=jo.o.1.trans (An.refl _ _) jo.o.2 dp.o G6.o;have M2:=jo.o.2.trans qb t8.o;have rn:Hd (RXB W0.heap.size h mb w8.heap.size (w.heap.size+1) C (J sa ss.length c1) (J ta ts.length c2) ss ts w ms s st av (J ka st.length kc) r nm is m8 s8 dc dt dls pc g8 vh ul r8 (w8.alloc (O #[I dc,S dt,nS] 120))):=⟨gi.o.bl (Ai _ _),Bf _ _,Ad (Ai _ _) hR8,J2.after (HA8.o.less qb) M2 gi.o (Ai _ _) qb,HA8.o.less qb,M2,yx.o.1,yx.o.2⟩
     first
      | (with_reducible exact⟨w8.heap.size,la,ln,lc,dc,dt,dls,m8,s8,pc,g8,vh,ul,r8,rfl,rfl,rn⟩;done)
      | (have ro:Hd (RXB W0.heap.size h mb U.heap.size (w.heap.size+1) C (J sa ss.length c1) (J ta ts.length c2) ss ts w ms s st av (J ka st.length kc) r nm is m8 s8 dc dt dls pc g8 vh ul r8 (((w8.setCell ⟨U.heap.size,0,N⟩ (I dc)).setCell ⟨U.heap.size,1,N⟩ (S dt)).setCell ⟨U.heap.size,2,N⟩ nS)):=⟨gi.o.set3 G4.o qd _ _ _,Bn G4.o _ _ _,(Fg (show w.heap.size+1≠U.heap.size by have:=Ag ki.o;omega) _ _ _).trans hR8,J2.set3 qb qb _ _ _,HA8.o.less qb,M2,yx.o.1,yx.o.2⟩;with_reducible exact⟨U.heap.size,la,ln,lc,dc,dt,dls,m8,s8,pc,g8,vh,ul,r8,rfl,rfl,ro⟩)
   case rest=>
    obtain⟨P,la,ln,lc,dc,dt,dls,m8,s8,pc,g8,vh,ul,r8,rfl,rfl,HX⟩:=hcut;obtain⟨wj,rfl⟩:∃wj,wj=wc:=⟨_,rfl⟩;clear dp jo HTU ki x0 x1 x2 x3 x4 x5 xf u0 u1 hhu hwu B1 eU
    go_upto_region 6 with fail
    obtain⟨U,eU⟩:=Aj wj.drew;have bm:Bw wj U:=qay;have hwj:=HX.o.kp.bel.size;have HXU:Hd (RXB W0.heap.size h mb P (w.heap.size+1) C (J sa ss.length c1) (J ta ts.length c2) ss ts w ms s st av (J ka st.length kc) r nm is m8 s8 dc dt dls pc g8 vh ul r8 U):=HX.o.bl bm qb;obtain⟨x0,x1,x2,x3,x4,x5,xf⟩:=HXU.o.ma.mkr.cells
    have W9:st.length<=vh:=by
     have q:=HXU.o.ma.mkr.stk;rw[List.length_append,List.length_singleton]at q
     rcases q.2 with⟨e,_⟩|⟨g,cp,cur,e,_,_,r,_⟩
     ·simp at e
     ·simp only[Value.slice.injEq]at e;omega
    clear bm HX;go_region;clear eU x0 x1 x2 x3 x4 x5 xf;have hx:=HXU.o;have hs:=hx.ma.mkr.pop;have kp9:KP W0.heap.size h mb pc (J (p_ g8) (st.length+1) vh) U (U.setCell ⟨h,4,N⟩ (J (p_ g8) st.length vh)):=(KP.old (Below.refl _ _) (zo hx.kp.bel.size)).setH hx.ma.mkr.hB;have rk9:An U (J (p_ g8) (st.length+1) vh) (J (p_ g8) st.length vh):=λb q=>Or.inl qaq;have rs9:=(hx.ma.rs.kp hx.ma.mkr kp9).kv' hx.ma.rs hx.ma.ownA.1 hx.ma.ownA.2 rk9;have L1:=KQ.of_kp hx.ma kp9;have hpb:=L1.blk hx.ma hx.pb qd;have B9:=L1.blk hx.ma hx.rb qd;have J2:=hx.kp.trans hx.ra hx.rk hx.ma L1;obtain⟨AK,eY⟩:=Aj (U.setCell ⟨h,4,N⟩ (J (p_ g8) st.length vh));rw[eY]at hs hpb B9 J2 rs9 ⊢;have HSY:Hd (BS W0.heap.size h mb 1 C (J sa ss.length c1) (J ta ts.length c2) ss ts AK m8 (st++[nm]) st (m8.length+(st++[nm]).length) pc (J (p_ g8) st.length vh) ul s8 r8):=⟨hs,rs9⟩;have HPY:Hd (AK.heap[P]?=M (O #[I dc,S dt,nS] 120 (0,0))):=hpb;have HRY:Hd (AK.heap[w.heap.size+1]?=M (O #[F false,I 0,ze,nS,ze,nS] 213 (0,0))):=B9;have HLY:Hd (KQ W0.heap.size h mb C av (J ka st.length kc) r r8 w AK):=J2;obtain⟨b0,b1,b2,bf⟩:=Dw hpb;obtain⟨⟨z0,z1,z2,z3,z4,z5⟩,zf⟩:=Rm B9;clear hx hs hpb B9 J2 eY rs9 kp9 L1 rk9;go_wp2_with fail;have hx:=HXU.o;obtain⟨⟨v0,v1,v2,v3,v4,v5⟩,_⟩:=Rm (Ii HRY.o (F false) (I dc) (S dt) nS ze (J la ln lc));have hpu:=HF.o.1.inv.push HF.o.2.2.2.1 HF.o.2.2.2.2.2.2;(have hjp:Au is=true:=by rw[<- R0.o.2.2];exact HE.o.v.pr i R0.o.1);have l7:=(hx.dd.inv HE.o.v hpu HF.o.1.ok hjp (λb e=>qu)).1;have M9:fd m8 nm=N:=l7.nst nm (Eb.2 (Or.inr rfl));have xz:=HSY.o.set6 HRY.o qd (F false) (I dc) (S dt) nS ze (J la ln lc);have ky:m8.length+(st++[nm]).length=(m8++[(nm,(⟨dc,dt,dls⟩:Md))]).length+st.length:=qh;rw[ky]at xz;have q1:=tc_pop ts m8 nm ⟨dc,dt,dls⟩ st M9
    have q2:Db ts ms st+1<=Db ts ms (st++[nm]):=by
     exact qji
    have q3:=hx.sn;exact bR (v:=Og ⟨dc,dt,dls⟩ (J la ln lc)) (by simp[results,results184,go_sem,Og,v0,v1,v2,v3,v4,v5]) rfl (Or.inl ⟨m8,st++[nm],m8++[(nm,⟨dc,dt,dls⟩)],s8,⟨dc,dt,dls⟩,J la ln lc,pc,_,ul,r8,rfl,⟨la,ln,lc,rfl⟩,xz,(λx hxn=>by rw[Eb];simp[hxn]),rfl,M9,.made HF.o.2.2.2.1 HF.o.2.1 HF.o.2.2.2.2.2.1 R0.o.1 R0.o.2.1 qb (by rw[R0.o.2.2];exact hx.dd),HLY.o.set6 qb qb _ _ _ _ _ _,hx.ra,(λb q=>hx.rk b qaq),qb⟩)
theorem Xk(B h mb:X)(C:Gg)(sv tv:Z)(ss:L S2)(ts:L T2)(ms:Mm)(s:Sb)(st:L By)(av kv:Z)(vs:By->Z)(r:Rv)(nm:By)(d:Md)(w:E)(q:Iw B h mb C sv tv ss ts w ms st av kv vs s r)(hB:B<=w.heap.size)(hn:nm.size<=60)(hk:fd ms nm=M d):Calls prog 149 #[D (p_ h),S nm] w λe w'=>Nl B h mb C sv tv ss ts ms s st av kv vs r nm (λd vs'=>Fh d (vs' nm)) w e w':=by
 obtain⟨W,eW⟩:=Aj (w.alloc (O #[F false,I 0,ze,nS,ze,nS] 213))
 have bn:Bw w W:=qba
 have vg:w.heap.size<W.heap.size:=qcw
 have M6:h<w.heap.size:=Ag q.mkr.blk
 have s1:=q.bl bn
 have HR:Hd (W.heap[w.heap.size]?=M (O #[F false,I 0,ze,nS,ze,nS] 213 (0,0))):=by
  exact qbk
 obtain⟨n,M5,lj⟩:=s1.mkr.map
 have dy:=lj.look (k:=nm) qm
 have hmo:He ms st vs nm=M (Fh d (vs nm)):=Ra hk
 rw[hmo]at dy
 obtain⟨la,ln,lc,hlv⟩:=q.mkr.vsl nm
 unfold Fh at dy
 rw[hlv]at dy
 simp only[Option.getD_some,Option.isSome_some]at dy
 obtain⟨_,_,c2,_⟩:=s1.mkr.cells
 have HD:Hd (Bc ss ts C.n ms s st (.make nm) ms s (.ok d)):=.known hk
 have HS:Hd (Iw B h mb C sv tv ss ts W ms st av kv vs s r):=s1
 have HLV:Hd (vs nm=J la ln lc):=hlv
 have HK:Hd (KQ B h mb C av kv r r w W):=KQ.of_below q bn hB
 obtain⟨⟨z0,z1,z2,z3,z4,z5⟩,zf⟩:=Rm HR.o
 obtain⟨dc,dt,dls⟩:=d
 obtain⟨fo,efo⟩:=Aj (Bi dc dt)
 simp only[efo]at dy
 have EF:Hd (Bi dc dt=fo):=efo
 clear efo
 clear hk hmo lj s1 q bn
 go_enter func149,ntmps149
 go_wp2_with fail
 have hne:w.heap.size≠h:=qb
 have e6:=Ii HR.o (F true) (I dc) (S dt) nS (S fo) (J la ln lc)
 have ip:=HK.o.set6 hB (Nat.le_refl _) (F true) (I dc) (S dt) nS (S fo) (J la ln lc)
 have xz:=HS.o.set6 HR.o qd (F true) (I dc) (S dt) nS (S fo) (J la ln lc)
 have e7:=blk_keep' (Ai _ (O #[F true,I dc,S dt,nS,S fo,J la ln lc] 213)) e6
 obtain⟨⟨y0,y1,y2,y3,y4,y5⟩,_⟩:=Rm e7
 exact bR (v:=Fh ⟨dc,dt,dls⟩ (vs nm)) (by simp[results,results149,go_sem,Fh,HLV.o,EF.o,y0,y1,y2,y3,y4,y5]) rfl ⟨ms,s,_,HD.o,Or.inl ⟨_,av,kv,vs,r,rfl,rfl,xz.bl (Ai _ _),ip.after (An.refl _ _) (An.refl _ _) xz (Ai _ _) (Nat.le_trans hB ip.bel.size),An.refl _ _,An.refl _ _,Nat.le_refl _⟩⟩
theorem Uy(B h mb:X)(C:Gg)(sv tv:Z)(ss:L S2)(ts:L T2)(ms:Mm)(s:Sb)(st:L By)(av kv:Z)(vs:By->Z)(r:Rv)(nm:By)(i:X)(w:E)(q:Iw B h mb C sv tv ss ts w ms st av kv vs s r)(hB:B<=w.heap.size)(hn:nm.size<=60)(hl:st.length<=60)(hk:fd ms nm=N)(hi:i<st.length)(l7:nx st i=nm)(hif:∀j,j<i->nx st j≠nm):Calls prog 149 #[D (p_ h),S nm] w λe w'=>Nl B h mb C sv tv ss ts ms s st av kv vs r nm (λd vs'=>Fh d (vs' nm)) w e w':=by
 obtain⟨W,eW⟩:=Aj ((w.alloc (O #[F false,I 0,ze,nS,ze,nS] 213)))
 have bn:Bw w W:=qba
 have s1:=q.bl bn
 obtain⟨n,M5,lj⟩:=s1.mkr.map
 have dy:=lj.look (k:=nm) qm
 have hmo:He ms st vs nm=M Hr:=Pk hk ⟨i,hi,l7⟩
 rw[hmo]at dy
 unfold Hr at dy
 simp only[Option.getD_some,Option.isSome_some]at dy
 obtain⟨V,eV⟩:=Aj (W.alloc (O #[F false,I 0,ze,nS,ze,nS] 213))
 have ll:Bw w V:=by rw[<- eV];exact Ba bn (Ai _ _)
 have s2:=q.bl ll
 obtain⟨a,cap,rfl⟩:∃a cap,kv=J a st.length cap:=by
  rcases s2.mkr.stk.2 with⟨e,h0⟩|⟨g,cap,cur,e,_⟩
  ·exact qdl
  ·exact⟨_,_,e⟩
 obtain⟨g,rfl⟩:∃g,a=p_ g:=by
  rcases s2.mkr.stk.2 with⟨e,h0⟩|⟨g,cap,cur,e,_⟩
  ·omega
  ·simp only[Value.slice.injEq]at e;exact⟨g,e.1⟩
 have iz:∀j,j<st.length->V.cell? ⟨g,0+j,N⟩=M (S (st.getD j ByteArray.empty)):=λj hj=>by
  rw[Nat.zero_add,s2.mkr.stk.cellAt j qb,strV_get' st j hj]
 have HIX:Hd (Calls prog 170 #[J (p_ g) st.length cap,S nm] V λe w'=>e=H (I (i:X))/\w'=V):=by
  have q:=Tryz.slices_Index_string g 0 st.length cap st nm V (Nat.le_refl _) qb iz;rw[Lib.idxOfS_hit st st.length i nm hi (Nat.le_refl _) l7 hif]at q;exact q
 have HCL:Hd (Calls prog 124 #[J (M ⟨g,i,N⟩) (st.length-i) (cap-i)] V λe w'=>∃v',e=H v'/\w'.ownsRow V.heap.size 9 1 v' (st.length-i) (((st.drop i).take (st.length-i)).map (Value.string))/\v'≠nS/\Bw V w'):=by
  refine Tryz.slices_Clone_string g i (st.length-i) (cap-i) (st.drop i) V (by rw[List.length_drop];exact Nat.le_refl _) qb (λj hj=>?_);rw[List.length_drop]at hj;have:=iz (i+j) qb;rw[Nat.zero_add]at this;rw[this];congr 2;rw[gG,gG,List.getElem?_drop]
 obtain⟨_,_,c2,_,_,_,_⟩:=s1.mkr.cells
 obtain⟨_,_,_,_,d4,_,_⟩:=s2.mkr.cells
 have t0:V.cell? ⟨W.heap.size,0,N⟩=M (F false):=by rw[<- eV];simp[go_sem]
 have W9:st.length<=cap:=by
  rcases s2.mkr.stk.2 with⟨e,h0⟩|⟨g',ai,cur,e,r⟩
  ·simp at e
  ·simp only[Value.slice.injEq]at e;have:=r.2.2.1;omega
 have HD:Hd (Bc ss ts C.n ms s st (.make nm) ms s (.bad (.circle (st.drop i)))):=.circle hk hi l7 hif
 have dm:Hd (Iw B h mb C sv tv ss ts V ms st av _ vs s r):=s2
 have HQ:=Ac q
 have HB:Hd (Bw w V):=ll
 clear hk hmo lj s1 q s2 bn iz ll l7 hif
 have EV:Hd (W.alloc (O #[F false,I 0,ze,nS,ze,nS] 213)=V):=eV
 clear eV
 go_enter func149,ntmps149
 go_upto_region 2 with fail
 rw[EV.o]
 clear EV eW
 go_wp2_with (first|(go_at_call 170;refine HIX.o.mono ?_;rintro e w2 ⟨rfl,rfl⟩))
 refine HCL.o.mono ?_
 rintro e w3 ⟨v',rfl,ah,U4,ba⟩
 obtain⟨g3,cp3,rfl⟩:∃g cp,v'=J (p_ g) (st.length-i) cp:=by
  rcases ah.2 with⟨e,_⟩|⟨g,cp,cur,e,_⟩
  ·exact absurd e U4
  ·exact⟨g,cp,e⟩
 have HO:Hd (w3.ownsRow w2.heap.size 9 1 (J (p_ g3) (st.length-i) cp3) (st.length-i) (Aq (st.drop i))):=by
  rw[List.take_of_length_le (by rw[List.length_drop];exact Nat.le_refl _)]at ah;exact ah
 have d7:Hd (Bw w2 w3):=ba
 clear ah ba U4 HIX HCL
 go_wp2_with fail
 have gj:=HB.o.size
 have f9:=Af dm.o.rs.bd d7.o
 refine⟨rfl,ms,s,_,HD.o,Or.inr ⟨_,_,r,rfl,rfl,⟨qdx,qdx,_,_,_,rfl,?_⟩,KQ.of_below HQ.o (Ba HB.o d7.o) hB⟩⟩
 have:=own_base' HO.o (B':=B) qb
 rw[List.length_drop]
 exact this
theorem Qv{mb:X}{U:E}{u0 u1 u2 u3 u4 u5:Z}{c:Int}{t:By}(q:BS B h mb 2 C sv tv ss ts U ms st st (ms.length+st.length+1) av kv vs s r)(hk:KQ B h mb C av kv r r w U)(hR:U.heap[R]?=M (O #[u0,u1,u2,u3,u4,u5] 213 (0,0)))(hB:B<=R)(hw:w.heap.size<=R)(hl:fd ms nm=N)(hd:Bc ss ts C.n ms s st (.make nm) (ms++[(nm,⟨c,t,[]⟩)]) s (.ok ⟨c,t,[]⟩)):Ul B h mb C sv tv ss ts ms s st av kv r nm w (H (Og ⟨c,t,[]⟩ nS)) ((((((U.setCell ⟨R,0,N⟩ (F false)).setCell ⟨R,1,N⟩ (I c)).setCell ⟨R,2,N⟩ (S t)).setCell ⟨R,3,N⟩ nS).setCell ⟨R,4,N⟩ ze).setCell ⟨R,5,N⟩ nS):=by
 refine Or.inl ⟨ms,st,ms++[(nm,⟨c,t,[]⟩)],s,⟨c,t,[]⟩,nS,av,kv,vs,r,rfl,⟨N,0,0,rfl⟩,?_,λx _=>Iff.rfl,rfl,hl,hd,hk.set6 hB hw _ _ _ _ _ _,An.refl _ _,An.refl _ _,?_⟩
 ·have ky:(ms++[(nm,(⟨c,t,[]⟩:Md))]).length+st.length=ms.length+st.length+1:=qh
  rw[ky];exact(q.le (k':=1) qb).set6 hR qd _ _ _ _ _ _
 ·have:=Tf ts ms (nm,⟨c,t,[]⟩) st
  omega
theorem Ts(W0:E)(h mb:X)(C:Gg)(sa ta:Option Addr)(c1 c2:X)(ss:L S2)(ts:L T2)(nm:By)(ms:Mm)(s:Sb)(st:L By)(av kv:Z)(vs:By->Z)(r:Rv)(w:E)(hE:Hn W0 sa ta ss ts)(q:BS W0.heap.size h mb 2 C (J sa ss.length c1) (J ta ts.length c2) ss ts w ms st st (ms.length+st.length+1) av kv vs s r)(hp:Fd ss ts C.n ms s st r.sn 0)(hW:Bw W0 w)(hk:fd ms nm=N)(de:¬ Ed st nm)(jg:st.length<=60)(cm:Ar nm)(hR:∀i a cap,i<ts.length->(tx ts i).name=nm->Bu W0 a (tx ts i).code->st.length<60->Kn W0 h mb C (J sa ss.length c1) (J ta ts.length c2) ss ts (st++[nm]) nm a cap (tx ts i).code):Calls prog 169 #[D (p_ h),S nm] w λe w'=>Ul W0.heap.size h mb C (J sa ss.length c1) (J ta ts.length c2) ss ts ms s st av kv r nm w e w':=by
 have hB:=hW.size
 have M6:h<w.heap.size:=Ag q.mkr.blk
 obtain⟨W,eW⟩:=Aj (w.alloc (O #[F false,I 0,ze,nS,ze,nS] 213))
 have bn:Bw w W:=qba
 have jv:Hd (W.heap[w.heap.size]?=M (O #[F false,I 0,ze,nS,ze,nS] 213 (0,0))):=by
  exact qbk
 obtain⟨x0,x1,_⟩:=(q.bl bn).mkr.cells
 have ws:=hE.l1
 have V7:=hE.l2
 have HFS:Hd (∀V,Bw w V->Calls prog 182 #[G #[J sa ss.length c1,J ta ts.length c2],S nm] V λe w'=>Bw V w'/\∃(r:X)(b:Bool),e=H (Y #[I r,F b])/\At (Am ss) nm r b):=λV hV=>Ng sa ta ss.length ts.length c1 c2 ss nm V (hE.rs.bl (hW.trans (hV.mono hB))) qb hE.v.ascS rfl
 have jp:Hd (∀V,Bw w V->Calls prog 183 #[G #[J sa ss.length c1,J ta ts.length c2],S nm] V λe w'=>Bw V w'/\∃(r:X)(b:Bool),e=H (Y #[I r,F b])/\At (Ak ts) nm r b):=λV hV=>Nf sa ta ss.length ts.length c1 c2 ts nm V (hE.rt.bl (hW.trans (hV.mono hB))) qb hE.v.ascT rfl
 have HS:Hd (BS W0.heap.size h mb 2 C (J sa ss.length c1) (J ta ts.length c2) ss ts w ms st st (ms.length+st.length+1) av kv vs s r):=q
 have HE:Hd (Hn W0 sa ta ss ts):=hE
 have HF:Hd (Fd ss ts C.n ms s st r.sn 0/\¬ Ed st nm/\Bw W0 w/\fd ms nm=N/\Ar nm):=⟨hp,de,hW,hk,cm⟩
 have HR:Hd (∀i a cap,i<ts.length->(tx ts i).name=nm->Bu W0 a (tx ts i).code->st.length<60->Kn W0 h mb C (J sa ss.length c1) (J ta ts.length c2) ss ts (st++[nm]) nm a cap (tx ts i).code):=hR
 have HB:Hd (Bw w W):=bn
 clear q hp hW hk de cm hR bn hE
 go_enter func169,ntmps169
 go_wp2_with fail
 refine(HFS.o W HB.o).mono ?_
 rintro e w3 ⟨ba,r0,b,rfl,pw⟩
 have d7:Hd (Bw w w3):=Ba HB.o ba
 have gz:Hd (w3.heap[w.heap.size]?=M (O #[F false,I 0,ze,nS,ze,nS] 213 (0,0))):=Ad ba jv.o
 have HAT:Hd (At (Am ss) nm r0 b):=pw
 have ks:Hd (BS W0.heap.size h mb 2 C (J sa ss.length c1) (J ta ts.length c2) ss ts w3 ms st st (ms.length+st.length+1) av kv vs s r):=HS.o.bl d7.o
 clear ba pw x0 x1 jv eW
 obtain⟨x0,x1,_⟩:=ks.o.mkr.cells
 obtain⟨⟨z0,z1,z2,z3,z4,z5⟩,zf⟩:=Rm gz.o
 dsimp only
 cases b with
 | true=>
  obtain⟨hr,zj⟩:=at_true HE.o.v.ascS HAT.o;rw[Bs]at hr;rw[Dv]at zj;have hrI:(r0:Int)<(ss.length:Int):=qb;have yx:Bc ss ts C.n ms s st (.make nm) (ms++[(nm,⟨0,(sx ss r0).text,[]⟩)]) s (.ok ⟨0,(sx ss r0).text,[]⟩):=.source HF.o.2.2.2.1 HF.o.2.1 hr zj;obtain⟨sb,so,rfl,_,e2⟩:=(HE.o.rs.bl (HF.o.2.2.1.trans (d7.o.mono hB))) r0 hr;generalize (sx ss r0).text=tx0 at yx e2;have HD:Hd (Bc ss ts C.n ms s st (.make nm) (ms++[(nm,⟨0,tx0,[]⟩)]) s (.ok ⟨0,tx0,[]⟩)):=yx;clear yx zj HFS jp HR;go_wp2_with fail;obtain⟨⟨v0,v1,v2,v3,v4,v5⟩,_⟩:=Rm (Ii gz.o (F false) (I 0) (S tx0) nS ze nS);exact bR (v:=Og ⟨0,tx0,[]⟩ nS) qfq rfl (Qv ks.o (KQ.of_below HS.o d7.o hB) gz.o hB (Nat.le_refl _) HF.o.2.2.2.1 HD.o)
 | false=>
  have HNS:Hd (¬ Ed (Am ss) nm):=at_false HAT.o;go_wp2_with fail;refine(jp.o w3 d7.o).mono ?_;rintro e w4 ⟨co,r4,b4,rfl,hat4⟩;have wh:Hd (Bw w w4):=Ba d7.o co;have li:Hd (w4.heap[w.heap.size]?=M (O #[F false,I 0,ze,nS,ze,nS] 213 (0,0))):=Ad co gz.o;have HAT4:Hd (At (Ak ts) nm r4 b4):=hat4;have gw:Hd (BS W0.heap.size h mb 2 C (J sa ss.length c1) (J ta ts.length c2) ss ts w4 ms st st (ms.length+st.length+1) av kv vs s r):=HS.o.bl wh.o;clear co hat4 x0 x1 z0 z1 z2 z3 z4 z5 zf gz ks HAT;obtain⟨x0,x1,_⟩:=gw.o.mkr.cells;obtain⟨⟨z0,z1,z2,z3,z4,z5⟩,zf⟩:=Rm li.o;dsimp only
  cases b4 with
  | true=>
   obtain⟨hr,zj⟩:=at_true HE.o.v.ascT HAT4.o;rw[Bp]at hr;rw[Dk]at zj;have hrI:(r4:Int)<(ts.length:Int):=qb;have No:=HF.o.2.2.1.trans (wh.o.mono hB);obtain⟨tb,tq,rfl,f1,a',ai,f2,fg⟩:=HE.o.rt r4 hr;have e1:w4.cell? ⟨tb,tq+r4*2,N⟩=M (S nm):=by rw[No.cell (p:=⟨tb,tq+r4*2,N⟩) (World.block_lt_of_cell? _ _ f1),f1,zj]
   have e2:w4.cell? ⟨tb,tq+r4*2+1,N⟩=M (J a' (tx ts r4).code.length ai):=by rw[No.cell (p:=⟨tb,tq+r4*2+1,N⟩) (World.block_lt_of_cell? _ _ f2),f2]
   have hMT:=Sj W0 h mb C sa (M ⟨tb,tq,N⟩) a' c1 c2 ai r4 ss ts nm ms s st av kv vs r w4 HE.o gw.o HF.o.1 No HF.o.2.2.2.1 HF.o.2.1 jg HF.o.2.2.2.2 HNS.o hr zj (HR.o r4 a' ai hr zj fg);generalize (tx ts r4).code.length=cl at e2 hMT;have HMT:Hd (Calls prog 184 #[D (p_ h),G #[S nm,J a' cl ai]] w4 λe w'=>Ul W0.heap.size h mb C (J sa ss.length c1) (J (M ⟨tb,tq,N⟩) ts.length c2) ss ts ms s st av kv r nm w4 e w'):=hMT;have hwl4:w.heap.size<w4.heap.size:=Ag li.o;clear hMT fg f1 f2 No HFS jp HR zj z0 z1 z2 z3 z4 z5 zf;go_wp2_with fail;refine HMT.o.mono ?_;rintro e w5 (⟨ms1,mk,ms',s',⟨dc,dt,dls⟩,lv,Q9,P7,vs5,r5,rfl,⟨la,ln,lc,rfl⟩,vp,V1,hms,M9,mq,jb,ha5,V8,kw⟩|⟨b,v,r5,ms',s',rfl,jb,mq,hv⟩)
   ·have hsz5:=jb.bel.size;have hR5:w5.heap[w.heap.size]?=M (O #[F false,I 0,ze,nS,ze,nS] 213 (0,0)):=jb.blk gw.o li.o qd;have HR5:Hd _:=hR5;have HK5:Hd (KQ W0.heap.size h mb C av kv r r5 w w5):=(KQ.of_below HS.o wh.o hB).trans (An.refl _ _) (An.refl _ _) gw.o jb;have ie:Hd (BS W0.heap.size h mb 1 C (J sa ss.length c1) (J (M ⟨tb,tq,N⟩) ts.length c2) ss ts w5 ms1 mk st (ms'.length+st.length) Q9 P7 vs5 s' r5):=vp;have HX5:Hd ((∀x,x≠nm->(Ed mk x↔Ed st x))/\ms'=ms1++[(nm,⟨dc,dt,dls⟩)]/\fd ms1 nm=N/\Bc ss ts C.n ms s st (.make nm) ms' s' (.ok ⟨dc,dt,dls⟩)/\An w av Q9/\An w kv P7/\r5.sn+400200*Db ts ms st<=r.sn+400200*Db ts ms' st):=⟨V1,hms,M9,mq,ha5.less qb,V8.less qb,kw⟩;obtain⟨⟨z0,z1,z2,z3,z4,z5⟩,zf⟩:=Rm hR5;unfold Og;dsimp only;clear vp V1 hms M9 mq ha5 V8 kw jb hR5 HMT;go_wp2_with fail;obtain⟨⟨v0,v1,v2,v3,v4,v5⟩,_⟩:=Rm (Ii HR5.o (F false) (I dc) (S dt) nS ze (J la ln lc));obtain⟨y1,y2,y3,y4,y5,y6,y7⟩:=HX5.o;exact bR (v:=Og ⟨dc,dt,dls⟩ (J la ln lc)) qfq rfl (Or.inl ⟨ms1,mk,ms',s',⟨dc,dt,dls⟩,J la ln lc,Q9,P7,vs5,r5,rfl,⟨la,ln,lc,rfl⟩,ie.o.set6 HR5.o qd _ _ _ _ _ _,y1,y2,y3,y4,HK5.o.set6 hB (Nat.le_refl _) _ _ _ _ _ _,y5,y6,y7⟩)
   ·unfold Lb;dsimp only;have Z2:Hd (KQ W0.heap.size h mb C av kv r r5 w w5/\Bc ss ts C.n ms s st (.make nm) ms' s' (.bad b)/\Cz W0.heap.size C w5 b v):=⟨(KQ.of_below HS.o wh.o hB).trans (An.refl _ _) (An.refl _ _) gw.o jb,mq,hv⟩;clear jb mq hv HMT;go_wp2_with fail;exact⟨rfl,Or.inr ⟨b,v,r5,ms',s',rfl,Z2.o.1,Z2.o.2.1,Z2.o.2.2⟩⟩
  | false=>
   have HD:Hd (Bc ss ts C.n ms s st (.make nm) (ms++[(nm,⟨4,nm,[]⟩)]) s (.ok ⟨4,nm,[]⟩)):=.missing HF.o.2.2.2.1 HF.o.2.1 (λq=>q.elim HNS.o (at_false HAT4.o));clear HFS jp HR;go_wp2_with fail;obtain⟨⟨v0,v1,v2,v3,v4,v5⟩,_⟩:=Rm (Ii li.o (F false) (I 4) (S nm) nS ze nS);exact bR (v:=Og ⟨4,nm,[]⟩ nS) qfq rfl (Qv gw.o (KQ.of_below HS.o wh.o hB) li.o hB (Nat.le_refl _) HF.o.2.2.2.1 HD.o)
theorem underB_new(W0:E)(h mb:X)(C:Gg)(sa ta:Option Addr)(c1 c2:X)(ss:L S2)(ts:L T2)(nm:By)(ms:Mm)(s:Sb)(st:L By)(av kv:Z)(vs:By->Z)(r:Rv)(w:E)(hE:Hn W0 sa ta ss ts)(q:Iw W0.heap.size h mb C (J sa ss.length c1) (J ta ts.length c2) ss ts w ms st av kv vs s r)(hp:Fd ss ts C.n ms s st r.sn 0)(hW:Bw W0 w)(hk:fd ms nm=N)(de:¬ Ed st nm)(jg:st.length<=60)(cm:Ar nm)(hR:∀i a cap,i<ts.length->(tx ts i).name=nm->Bu W0 a (tx ts i).code->st.length<60->Kn W0 h mb C (J sa ss.length c1) (J ta ts.length c2) ss ts (st++[nm]) nm a cap (tx ts i).code):Calls prog 149 #[D (p_ h),S nm] w λe w'=>Nl W0.heap.size h mb C (J sa ss.length c1) (J ta ts.length c2) ss ts ms s st av kv vs r nm (λd vs'=>Fh d (vs' nm)) w e w':=by
 have hB:=hW.size
 have M6:h<w.heap.size:=Ag q.mkr.blk
 have hms:=hp.small hE.l2
 have hn60:nm.size<=60:=cm.2.1
 obtain⟨W,eW⟩:=Aj (w.alloc (O #[F false,I 0,ze,nS,ze,nS] 213))
 have bn:Bw w W:=qba
 have vg:w.heap.size<W.heap.size:=qcw
 have s1:=q.bl bn
 obtain⟨n,M5,lj⟩:=s1.mkr.map
 have dy:=lj.look (k:=nm) qm
 have hmo:He ms st vs nm=N:=Wt hk de
 rw[hmo]at dy
 unfold Hr at dy
 simp only[Option.getD_none,Option.isSome_none]at dy
 obtain⟨V,eV⟩:=Aj (W.alloc (O #[F false,I 0,ze,nS,ze,nS] 213))
 have ll:Bw w V:=by rw[<- eV];exact Ba bn (Ai _ _)
 have hVs:W.heap.size<V.heap.size:=by rw[<- eV];simp
 have HAB:Hd (V.heap[W.heap.size]?=M (O #[F false,I 0,ze,nS,ze,nS] 213 (0,0))):=by
  show _=_;rw[<- eV];exact Bf _ _
 have G8:Hd (V.heap[w.heap.size]?=M (O #[F false,I 0,ze,nS,ze,nS] 213 (0,0))):=by
  show _=_;rw[<- eV,Lib.alloc_old _ _ _ vg,<- eW];exact Bf _ _
 have dm:Hd (Iw W0.heap.size h mb C (J sa ss.length c1) (J ta ts.length c2) ss ts V ms st av kv vs s r):=q.bl ll
 obtain⟨xs,exs,tg⟩:=q.mkr.ask
 obtain⟨aa,ac,rfl⟩:∃aa ac,av=J aa (ms.length+st.length) ac:=by
  rcases tg.2 with⟨e,h0⟩|⟨g,cap,cur,e,_⟩
  ·exact qdl
  ·exact⟨_,_,e⟩
 have hnl:ms.length+st.length<=90000000:=qb
 have P1:Hd (w.ownsRow W0.heap.size 9 1 (J aa (ms.length+st.length) ac) (ms.length+st.length) (Aq xs)):=tg
 have HXS:=Ac exs
 obtain⟨_,_,yl,_⟩:=s1.mkr.cells
 have HE:Hd (Hn W0 sa ta ss ts):=hE
 have HF:Hd (Fd ss ts C.n ms s st r.sn 0/\¬ Ed st nm/\Bw W0 w/\fd ms nm=N/\Ar nm):=⟨hp,de,hW,hk,cm⟩
 have HQ:=Ac q
 have A8:=Ac hms
 have HR:Hd (∀i a cap,i<ts.length->(tx ts i).name=nm->Bu W0 a (tx ts i).code->st.length<60->Kn W0 h mb C (J sa ss.length c1) (J ta ts.length c2) ss ts (st++[nm]) nm a cap (tx ts i).code):=hR
 have ui:Hd (Bw w V):=ll
 have EV:Hd (W.alloc (O #[F false,I 0,ze,nS,ze,nS] 213)=V):=eV
 have HNL:Hd (ms.length+st.length<=90000000):=hnl
 clear q s1 hp hW hk de cm hR ll bn hE eV lj hmo hnl M5 hms tg exs
 go_enter func149,ntmps149
 go_upto_region 3 with fail
 rw[EV.o]
 clear EV eW yl dy
 obtain⟨x0,x1,x2,x3,x4,x5,xf⟩:=dm.o.mkr.cells
 obtain⟨i0,ye,bq,bg,bv⟩:=info_parts Tryz.info9b
 have hhv:h<V.heap.size:=Ag dm.o.mkr.blk
 have HAV:Hd (V.ownsRow W0.heap.size 9 1 (J aa (ms.length+st.length) ac) (ms.length+st.length) (Aq xs)):=Ab P1.o ui.o
 have yv:Hd (∀o:Obj,(V.alloc o).ownsRow W0.heap.size 9 1 (J aa (ms.length+st.length) ac) (ms.length+st.length) (Aq xs)):=λo=>HAV.o.alloc o
 have gu:W0.heap.size<=V.heap.size:=qb
 have ky:=HNL.o
 go_upto_region 4 with(at_builtin;refine wpList_append_lies _ rfl (.tmp 23) (.tmp 25) 22 rfl W0.heap.size 9 i0 ze 1 16 underlying22 ye bq bg bv rfl qd _ (ms.length+st.length) (Aq xs) rfl (yv.o _) ⟨V.heap.size,0,N⟩ 1 1 [S nm] rfl rfl (cell_one_new _ _ _) qae qb qm qb qh (V.heap.size+1) qg ?_;intro g3 cp3 w3 fj ol Q1 hlt3;have hh3:w3.heap[h]?=M (O #[J sa ss.length c1,J ta ts.length c2,.map (M mb),J aa (ms.length+st.length) ac,kv,fvC C] 211 (0,0)):=(by rw[ol.block h qh (λe=>Ae HAV.o qd dm.o.mkr.blk e.symm),Lib.alloc_old _ _ _ hhv];exact dm.o.mkr.blk);obtain⟨⟨y0,y1,y2,y3,y4,y5⟩,yf⟩:=Rm hh3)
 obtain⟨q1,q2,q3⟩:=dm.o.mkr.askd (nm:=nm) HXS.o ol fj Q1 gu
 have rs1:=(dm.o.rs.kp dm.o.mkr q2).av' dm.o.rs dm.o.ownA.1 dm.o.ownA.2 q3
 have kq3:=KQ.of_kp dm.o q2
 have a3:=kq3.blk dm.o HAB.o qd
 have o3:=kq3.blk dm.o G8.o qd
 obtain⟨AK,eY⟩:=Aj (w3.setCell ⟨h,3,N⟩ (J (p_ g3) (ms.length+st.length+1) cp3))
 rw[eY]at q1 q2 a3 o3 rs1 kq3 ⊢
 have hsY:=q2.bl.size
 have hbWY:Bw W0 AK:=HF.o.2.2.1.trans ((ui.o.mono hB).trans q2.bl)
 have HMT:Hd (Calls prog 169 #[D (p_ h),S nm] AK λe w'=>Ul W0.heap.size h mb C (J sa ss.length c1) (J ta ts.length c2) ss ts ms s st (J (p_ g3) (ms.length+st.length+1) cp3) kv r nm AK e w'):=Ts W0 h mb C sa ta c1 c2 ss ts nm ms s st _ kv vs r AK HE.o ⟨q1.le qb,rs1⟩ HF.o.1 hbWY HF.o.2.2.2.1 HF.o.2.1 jg HF.o.2.2.2.2 HR.o
 have HY:Hd (BS W0.heap.size h mb 2 C (J sa ss.length c1) (J ta ts.length c2) ss ts AK ms st st (ms.length+st.length+1) (J (p_ g3) (ms.length+st.length+1) cp3) kv vs s r/\KQ W0.heap.size h mb C (J aa (ms.length+st.length) ac) kv r r w AK/\An w (J aa (ms.length+st.length) ac) (J (p_ g3) (ms.length+st.length+1) cp3)):=⟨⟨q1.le qb,rs1⟩,(KQ.of_below HQ.o ui.o hB).trans (An.refl _ _) (An.refl _ _) dm.o kq3,q3.less ui.o.size⟩
 have og:Hd (AK.heap[W.heap.size]?=M (O #[F false,I 0,ze,nS,ze,nS] 213 (0,0))):=a3
 have G9:Hd (AK.heap[w.heap.size]?=M (O #[F false,I 0,ze,nS,ze,nS] 213 (0,0))):=o3
 have hWY:W.heap.size<AK.heap.size:=Ag a3
 clear q1 q2 q3 rs1 kq3 eY ol fj Q1 hlt3 hh3 y0 y1 y2 y3 y4 y5 yf x0 x1 x2 x3 x4 x5 xf a3 o3 yv dm HAB G8 hbWY HR
 go_wp2_with fail
 refine HMT.o.mono ?_
 rintro e w5 (⟨ms1,mk,ms',s',⟨dc,dt,dls⟩,lv,Q9,P7,vs5,r5,rfl,⟨la,ln,lc,rfl⟩,vp,V1,hms,M9,mq,jb,ha5,V8,kw⟩|⟨b,v,r5,ms',s',rfl,jb,mq,hv⟩)
 ·have a5:=jb.blk HY.o.1 og.o qd;have o5:=jb.blk HY.o.1 G9.o qd;have hs5':=jb.bel.size;have K6:Hd (w5.heap[w.heap.size]?=M (O #[F false,I 0,ze,nS,ze,nS] 213 (0,0))):=o5;have HA5:Hd (w5.heap[W.heap.size]?=M (O #[F false,I 0,ze,nS,ze,nS] 213 (0,0))):=a5;have HK5:Hd (KQ W0.heap.size h mb C (J aa (ms.length+st.length) ac) kv r r5 w w5):=HY.o.2.1.trans HY.o.2.2 (An.refl _ _) HY.o.1 jb;have ie:Hd (BS W0.heap.size h mb 1 C (J sa ss.length c1) (J ta ts.length c2) ss ts w5 ms1 mk st (ms'.length+st.length) Q9 P7 vs5 s' r5):=vp;have hwY:w.heap.size<=AK.heap.size:=qb;have HX5:Hd ((∀x,x≠nm->(Ed mk x↔Ed st x))/\ms'=ms1++[(nm,⟨dc,dt,dls⟩)]/\fd ms1 nm=N/\Bc ss ts C.n ms s st (.make nm) ms' s' (.ok ⟨dc,dt,dls⟩)/\An w (J aa (ms.length+st.length) ac) Q9/\An w kv P7/\r5.sn+400200*Db ts ms st<=r.sn+400200*Db ts ms' st):=⟨V1,hms,M9,mq,HY.o.2.2.trans hwY ha5,V8.less hwY,kw⟩;have l7:=mq.inv HE.o.v HF.o.1.inv HF.o.1.ok HF.o.2.2.2.2 (λb e=>qu);have J1:=l7.1.done nm _ l7.2.2.2;have HMD:Hd (0<=dc/\dc<=5/\dt.size<=2000):=⟨J1.c0,J1.c5,J1.t2⟩;have hwW5:W.heap.size<w5.heap.size:=qb;obtain⟨⟨z0,z1,z2,z3,z4,z5⟩,zf⟩:=Rm a5;unfold Og;dsimp only;clear vp V1 hms M9 mq ha5 V8 kw jb a5 o5 J1 l7 HMT
  go_upto_region 6 with fail
  obtain⟨AE,eZ⟩:=Aj ((((((((w5.setCell ⟨W.heap.size,0,N⟩ (F false)).setCell ⟨W.heap.size,1,N⟩ (I dc)).setCell ⟨W.heap.size,2,N⟩ (S dt)).setCell ⟨W.heap.size,3,N⟩ nS).setCell ⟨W.heap.size,4,N⟩ ze).setCell ⟨W.heap.size,5,N⟩ (J la ln lc)).setCell ⟨W.heap.size,0,N⟩ (F true)));rw[eZ];have sz:=ie.o.set6 HA5.o qd (F false) (I dc) (S dt) nS ze (J la ln lc);have kz:=HK5.o.set6 (b:=W.heap.size) qb qb (F false) (I dc) (S dt) nS ze (J la ln lc);have az:=Ii HA5.o (F false) (I dc) (S dt) nS ze (J la ln lc);have oz:=(Er (w:=w5) (b:=W.heap.size) (show w.heap.size≠W.heap.size from qb) (F false) (I dc) (S dt) nS ze (J la ln lc)).trans K6.o;replace oz:=(hC _ ⟨W.heap.size,0,N⟩ (F true) w.heap.size (show w.heap.size≠W.heap.size from qb)).trans oz;replace sz:=sz.set az qd 0 (F true);replace kz:=kz.setX (b:=W.heap.size) (j:=0) (u:=F true) qb qb;replace az:=Pe (j:=0) (u:=F true) (cs':=#[F true,I dc,S dt,nS,ze,J la ln lc]) az rfl;rw[eZ]at sz kz az oz;have HZ:Hd (BS W0.heap.size h mb 1 C (J sa ss.length c1) (J ta ts.length c2) ss ts AE ms1 mk st (ms'.length+st.length) Q9 P7 vs5 s' r5/\KQ W0.heap.size h mb C (J aa (ms.length+st.length) ac) kv r r5 w AE/\AE.heap[w.heap.size]?=M (O #[F false,I 0,ze,nS,ze,nS] 213 (0,0))):=⟨sz,kz,oz⟩;have HAZ:Hd (AE.heap[W.heap.size]?=M (O #[F true,I dc,S dt,nS,ze,J la ln lc] 213 (0,0))):=az;clear z0 z1 z2 z3 z4 z5 zf;obtain⟨⟨z0,z1,z2,z3,z4,z5⟩,zf⟩:=Rm az;obtain⟨fo,efo⟩:=Aj (Bi dc dt);have EF:Hd (Bi dc dt=fo):=efo;have HFO:Hd (Calls prog 167 #[G #[I dc,S dt,nS]] AE λe w'=>e=H (S fo)/\Bw AE w'):=by rw[<- efo];exact Rh dc dt AE HMD.o.1 HMD.o.2.1 HMD.o.2.2
  clear sz kz az oz efo eZ ie HK5 HA5 K6;go_wp2_with fail;refine HFO.o.mono ?_;rintro e w7 ⟨rfl,ce⟩;have hzs:=HZ.o.2.1.bel.size;have s7:=(HZ.o.1.bl ce).set (Ad ce HAZ.o) qd 4 (S fo);have k7:=(HZ.o.2.1.after HX5.o.2.2.2.2.1 HX5.o.2.2.2.2.2.1 HZ.o.1 ce qb).setX (b:=W.heap.size) (j:=4) (u:=S fo) qb qb;have a7:=Pe (j:=4) (u:=S fo) (cs':=#[F true,I dc,S dt,nS,S fo,J la ln lc]) (Ad ce HAZ.o) rfl;have o7:=(hC w7 ⟨W.heap.size,4,N⟩ (S fo) w.heap.size (show w.heap.size≠W.heap.size from qb)).trans (Ad ce HZ.o.2.2);clear z0 z1 z2 z3 z4 z5 zf HFO;obtain⟨⟨z0,z1,z2,z3,z4,z5⟩,zf⟩:=Rm (Ad ce HAZ.o);obtain⟨Z7,eZ7⟩:=Aj (w7.setCell ⟨W.heap.size,4,N⟩ (S fo));rw[eZ7]at s7 k7 a7 o7;obtain⟨U,eU⟩:=Aj Z7.drew;have bm:Bw Z7 U:=qay;have hz7:=k7.bel.size;have sU:=s7.bl bm;have kU:=k7.after HX5.o.2.2.2.2.1 HX5.o.2.2.2.2.2.1 s7 bm qb;have aU:=Ad bm a7;have oU:=Ad bm o7;dsimp only
  go_upto_region 7 with fail
  obtain⟨x0,x1,x2,x3,x4,x5,xf⟩:=sU.mkr.cells;obtain⟨⟨y0,y1,y2,y3,y4,y5⟩,yf⟩:=Rm aU;obtain⟨n,hn,hm⟩:=sU.mkr.map;obtain⟨p1,p2,p3,p4,p5,p6,p7⟩:=HX5.o
  have hmf:ms'.length+st.length<=90000000:=by
   have hct:=p4.cost HE.o.v HF.o.1.inv HF.o.1.ok HF.o.2.2.2.2 (λb e=>qu);have h1:=Mq ts ms' st;have h2:=HE.o.l2;have h3:=HF.o.1.ml;simp only[Ot]at hct;omega
  obtain⟨w9,kj,hm9,hg9⟩:=hm.store (k:=nm) qm qm (Fh ⟨dc,dt,dls⟩ (J la ln lc))
  classical
  have m9:=(sU.mkr.le (k':=0) qb).mark (n:=n+1) (nm:=nm) (ms':=ms') (mk':=st) (vs':=λx=>if x=nm then J la ln lc else vs5 x) (v:=Fh ⟨dc,dt,dls⟩ (J la ln lc)) qb hm9 hg9 (λx=>by rw[p2];exact markB_end p3 p1 x) (λx=>by
   by_cases hx:x=nm
   ·exact⟨la,ln,lc,by simp[hx]⟩
   ·obtain⟨a1,a2,a3,a4⟩:=sU.mkr.vsl x;exact⟨a1,a2,a3,by simp[hx,a4]⟩)
  have kp9:KP W0.heap.size h mb Q9 P7 U w9:=KP.mapped (KP.old (Below.refl _ _) (zo kU.bel.size)) sU.mkr.mB hg9 (zo kU.bel.size);have s9:Iw W0.heap.size h mb C (J sa ss.length c1) (J ta ts.length c2) ss ts w9 ms' st Q9 P7 (λx=>if x=nm then J la ln lc else vs5 x) s' r5:=⟨m9,(sU.rs.kp sU.mkr kp9).ext ⟨[(nm,⟨dc,dt,dls⟩)],p2⟩⟩;have L1:=KQ.of_kp sU kp9;have k9:KQ W0.heap.size h mb C (J aa (ms.length+st.length) ac) kv r r5 w w9:=kU.trans p5 p6 sU L1;have a9:=L1.blk sU aU qd;have o9:=L1.blk sU oU qd;unfold Fh at kj;simp only[EF.o]at kj;have A9:Hd (Iw W0.heap.size h mb C (J sa ss.length c1) (J ta ts.length c2) ss ts w9 ms' st Q9 P7 (λx=>if x=nm then J la ln lc else vs5 x) s' r5):=s9;have HK9:Hd (KQ W0.heap.size h mb C (J aa (ms.length+st.length) ac) kv r r5 w w9):=k9;have HO9:Hd (w9.heap[w.heap.size]?=M (O #[F false,I 0,ze,nS,ze,nS] 213 (0,0))):=o9;have HXX:Hd (Bc ss ts C.n ms s st (.make nm) ms' s' (.ok ⟨dc,dt,dls⟩)/\An w (J aa (ms.length+st.length) ac) Q9/\An w kv P7/\r5.sn+400200*Db ts ms st<=r.sn+400200*Db ts ms' st):=⟨p4,p5,p6,p7⟩;clear s9 m9 kp9 L1 k9 hm9 hg9 hm hn sU kU aU oU s7 k7 a7 o7 ce bm p1 p2 p3 p4 p5 p6 p7 eZ7 hmf z0 z1 z2 z3 z4 z5 zf;go_region;clear eU x0 x1 x2 x3 x4 x5 xf y0 y1 y2 y3 y4 y5 yf kj;obtain⟨⟨y0,y1,y2,y3,y4,y5⟩,yf⟩:=Rm a9;obtain⟨⟨z0,z1,z2,z3,z4,z5⟩,zf⟩:=Rm o9;clear a9 o9;have hOA:¬ w.heap.size=W.heap.size:=qb;go_wp2_with fail;obtain⟨⟨v0,v1,v2,v3,v4,v5⟩,_⟩:=Rm (Ii HO9.o (F true) (I dc) (S dt) nS (S fo) (J la ln lc));refine bR (v:=Fh ⟨dc,dt,dls⟩ ((λx=>if x=nm then (J la ln lc:Z) else vs5 x) nm)) (by simp[results,results149,go_sem,Fh,EF.o,v0,v1,v2,v3,v4,v5]) rfl ⟨ms',s',_,HXX.o.1,Or.inl ⟨_,Q9,P7,_,r5,rfl,rfl,A9.o.set6 HO9.o qd _ _ _ _ _ _,HK9.o.set6 hB (Nat.le_refl _) _ _ _ _ _ _,HXX.o.2.1,HXX.o.2.2.1,HXX.o.2.2.2⟩⟩
 ·unfold Lb;dsimp only;have Z2:Hd (KQ W0.heap.size h mb C (J aa (ms.length+st.length) ac) kv r r5 w w5/\Bc ss ts C.n ms s st (.make nm) ms' s' (.bad b)/\Cz W0.heap.size C w5 b v):=⟨HY.o.2.1.trans HY.o.2.2 (An.refl _ _) HY.o.1 jb,mq,hv⟩;clear jb mq hv HMT;go_wp2_with fail;exact⟨rfl,ms',s',_,Z2.o.2.1,Or.inr ⟨b,v,r5,rfl,rfl,Z2.o.2.2,Z2.o.1⟩⟩
theorem first_at(h:Ed st nm):∃i,i<st.length/\nx st i=nm/\∀j,j<i->nx st j≠nm:=by
 obtain⟨i,hi,e⟩:=h
 induction i using Nat.strongRecOn with
 | _ i ih=>
   by_cases q:∃j,j<i/\nx st j=nm
   ·obtain⟨j,hj,ej⟩:=q
    exact ih j hj qb ej
   ·exact⟨i,hi,e,λj hj ej=>q ⟨j,hj,ej⟩⟩
theorem Wf(W0:E)(h mb:X)(C:Gg)(sa ta:Option Addr)(c1 c2:X)(ss:L S2)(ts:L T2)(hE:Hn W0 sa ta ss ts)(st:L By)(jg:st.length<=60)(hR:∀nm,Ar nm->∀i a cap,i<ts.length->(tx ts i).name=nm->Bu W0 a (tx ts i).code->st.length<60->Kn W0 h mb C (J sa ss.length c1) (J ta ts.length c2) ss ts (st++[nm]) nm a cap (tx ts i).code):Gb W0 h mb C (J sa ss.length c1) (J ta ts.length c2) ss ts st:=by
 intro w ms nm av kv vs s r q hp cm hb;have hn60:nm.size<=60:=cm.2.1
 cases hk:fd ms nm with
 | some d=>exact Xk _ h mb C _ _ ss ts ms s st av kv vs r nm d w q hb.size hn60 hk
 | none=>
   by_cases hs:Ed st nm
   ·obtain⟨i,q1,q2,q3⟩:=first_at hs
    exact Uy _ h mb C _ _ ss ts ms s st av kv vs r nm i w q hb.size hn60 jg hk q1 q2 q3
   ·exact underB_new W0 h mb C sa ta c1 c2 ss ts nm ms s st av kv vs r w hE q hp hb hk hs jg cm (hR nm cm)
end Go.Proofs.YtbkkjodaaijimaaGreatDoor
