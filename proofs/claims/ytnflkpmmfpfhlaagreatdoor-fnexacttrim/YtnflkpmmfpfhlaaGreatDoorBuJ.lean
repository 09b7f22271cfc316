import Derived.Test.YtnflkpmmfpfhlaaGreatDoorBuE
namespace Go.Proofs.YtnflkpmmfpfhlaaGreatDoor
open _root_.Go.Proofs.Tryz Go.RowKit Go.Deep
open Value renaming slice->J,string->S,bool->F,pointer->D
open Option renaming some->M
open Obj renaming cells->O
open Go renaming Value->Z
set_option linter.unusedVariables false
set_option linter.unusedSimpArgs false
set_option maxHeartbeats 8000000
set_option maxRecDepth 100000
theorem sumAt_any(W0:World)(h mb:Nat)(C:Fr)(sa ta:Option Addr)(c1 c2:Nat)(ss:List S2)(ts:List T2)(ms:Mm)(st:List By)(av kv:Z)(vs:By->Z)(s:Sb)(r:Rv)(x:By)(y:Bool)(w:World)(hE:Jf W0 sa ta ss ts)(q:Lu W0.heap.size h mb C (J sa ss.length c1) (J ta ts.length c2) ss ts w ms st av kv vs s r)(hW:Bw W0 w)(hU:Ho W0 h mb C (J sa ss.length c1) (J ta ts.length c2) ss ts st)(hP:Fq ss ts C.n ms s st r.sn 0)(cz:Ao x):Calls prog 147 #[D (p_ C.hb),.agg #[S x,F y]] w λe w'=>SeeB W0.heap.size h mb C (J sa ss.length c1) (J ta ts.length c2) ss ts ms s st av kv r x y 1 (λf v=>v=S (Ap C.n f)) w e w':=by
 have hB:=hW.size;have hn60:=cz.2.1;obtain⟨W,eW⟩:=Aj (w.alloc (O #[S x,F y] 225));have cj:Bw w W:=qbe
 have HA:Hd (W.heap[w.heap.size]?=M (O #[S x,F y] 225 (0,0))):=by
  exact qbt
 obtain⟨U,eU⟩:=Aj W.drew;have be:Bw W U:=qbc;have kh:=Ab (Ay cj be);have HAU:=Ab (Ac be HA.o);have br:=Ab (q.bl kh.o);obtain⟨g,nk,hsee⟩:=br.o.rs.sn;have ew:=nk.look (x:=x) (y:=y) qq;have HMP:=Ab nk;have HSEE:=Ab hsee;obtain⟨K0,eK⟩:=Aj U.heap.size;have hK0:w.heap.size<K0:=by rw[←eK];exact Ag HAU.o
 obtain⟨V,eV⟩:=Aj (U.alloc (O #[ze] 246));have pw:Bw U V:=by rw[<- eV];exact Ai _ _
 have D8:=Ab pw
 have oc:Hd (V.heap[K0]?=M (O #[ze] 246 (0,0))):=by
  show _=_;rw[<- eV,<- eK];exact Bf _ _
 have bh:=Ab (br.o.bl pw);have HAV:=Ab (Ac pw HAU.o);have mi:=(nk.same (w':=V) (pw.block _ nk.lt)).look (x:=x) (y:=y) qq;have HMV:Hd (Kq V C.sb r.sn g):=nk.same (pw.block _ nk.lt);obtain⟨_,_,_,_,_,y5,_,_⟩:=br.o.rs.cellsB;obtain⟨_,_,_,_,_,y5v,_,_⟩:=bh.o.rs.cellsB;obtain⟨a0,a1,_⟩:=Lg HAU.o;obtain⟨a0v,a1v,_⟩:=Lg HAV.o;have k0v:=Jh oc.o;have kfv:=fZ oc.o;have HQ:=Ab q;have HE:=Ab hE;have HW:=Ab hW;have HU:=Ab hU;have HP:=Ab hP;have pn:=Ab cz;clear q hE hW hU hP cz nk hsee cj be HA pw
 cases hg:g x y with
 | some v=>
   obtain⟨f,C0,te⟩:=HSEE.o x y v hg;have HY:Hd (Wg ss ts C.n st ms s x y ms s f/\v=Ap C.n f):=⟨Wg.of_said C0,te⟩;rw[hg]at ew mi;simp only[Option.getD_some,Option.isSome_some]at ew mi;unfold kL sgV at ew mi;clear C0 te hg;go_enter func147,ntmps147
   go_upto_region 1 with fail
   go_region;clear eW eU eV ew mi;have hz:=Qg (j:=0) (u:=S v) (cs':=#[S v]) oc.o rfl;have kz:=Jh hz;clear a0 a1 a0v a1v y5 y5v k0v kfv hz;go_wp2_with fail;go_ret;refine Or.inl ⟨_,rfl,ms,s,f,av,kv,vs,r,by rw[HY.o.2];rfl,HY.o.1,bh.o.set oc.o qh 0 _,((KQ.of_below HQ.o kh.o hB).after (Am.refl _ _) (Am.refl _ _) br.o D8.o (zo kh.o.size)).setX (zo kh.o.size) (zo kh.o.size),Am.refl _ _,Am.refl _ _,qg⟩
 | none=>
   rw[hg]at ew mi;simp only[Option.getD_none,Option.isSome_none]at ew mi;unfold kL sgV at ew mi;clear hg;go_enter func147,ntmps147
   go_upto_region 1 with fail
   go_region;clear eW eU eV ew mi;have hz:=Qg (j:=0) (u:=ze) (cs':=#[ze]) oc.o rfl;have sz:=bh.o.set oc.o qh 0 ze;have az:=(Dm V ⟨K0,0,none⟩ ze w.heap.size (show w.heap.size≠K0 from qg)).trans HAV.o;have kqz:=((KQ.of_below HQ.o kh.o hB).after (Am.refl _ _) (Am.refl _ _) br.o D8.o (zo kh.o.size)).setX (b:=K0) (j:=0) (u:=ze) (zo kh.o.size) (zo kh.o.size);obtain⟨AE,eZ⟩:=Aj (V.setCell ⟨K0,0,none⟩ ze);rw[eZ]at hz sz az kqz ⊢;clear a0 a1 a0v a1v y5 y5v k0v kfv bh HAV oc HMV br HAU HMP D8;obtain⟨U2,eU2⟩:=Aj AE.drew;(have af:Bw AE U2:=by rw[<- eU2];exact(Below.refl _ _).drew);have de:=kqz.bel.size;have ft:Hd (KQ W0.heap.size h mb C av kv r r w U2):=kqz.after (Am.refl _ _) (Am.refl _ _) sz af qg;have ct:=Ab (sz.bl af);have HA2:=Ab (Ac af az);have pg:=Ab (Ac af hz);have ir:=af.size;obtain⟨V2,eV2⟩:=Aj (U2.alloc (O #[F false,I 0,ze] 191));have hbV2:Bw U2 V2:=by rw[<- eV2];exact Ai _ _
   have HV2:Hd (V2.heap[U2.heap.size]?=M (O #[F false,I 0,ze] 191 (0,0))):=by
    show _=_;rw[<- eV2];exact Bf _ _
   have B5:=Ab hbV2;obtain⟨_,_,_,_,y4,_⟩:=ct.o.rs.cellsB;obtain⟨_,_,_,_,y4v,_⟩:=(ct.o.bl hbV2).rs.cellsB;obtain⟨a0,a1,_⟩:=Lg HA2.o;obtain⟨a0v,a1v,_⟩:=Lg (Ac hbV2 HA2.o);have HLK:Hd (∀V',Bw U2 V'->Calls prog 149 #[D (p_ h),S x,F y] V' λe w'=>SeeB W0.heap.size h mb C (J sa ss.length c1) (J ta ts.length c2) ss ts ms s st av kv r x y 0 (λf v=>∃b c t,v=.tuple #[.agg #[F b,I c,S t],S f]) V' e w'):=λV' hV'=>lookB_see W0 h mb C sa ta c1 c2 ss ts ms st av kv vs s r x y V' HE.o (ct.o.bl hV') (HW.o.trans (ft.o.bel.trans (hV'.mono qg))) HU.o HP.o pn.o;have ib:=Ag pg.o;have hBU2:W0.heap.size<=U2.heap.size:=qg;clear hbV2 af hz sz az kqz eZ
   go_upto_region 3 with fail
   go_cut [7,8] (λp z wx=>∃(P:Nat)(f:By)(ms':Mm)(s':Sb)(av' kv':Z)(vs':By->Z)(r':Rv),p=D (p_ P)/\z=S f/\Hd (Wg ss ts C.n st ms s x y ms' s' f/\Lu W0.heap.size h mb C (J sa ss.length c1) (J ta ts.length c2) ss ts wx ms' st av' kv' vs' s' r'/\KQ W0.heap.size h mb C av kv r r' w wx/\Am w av av'/\Am w kv kv'/\r'.sn+400200*Dp ts ms st<=r.sn+0+400200*Dp ts ms' st/\wx.heap[w.heap.size]?=M (O #[S x,F y] 225 (0,0))/\wx.heap[K0]?=M (O #[ze] 246 (0,0))))
   case first=>
    go_region_law (first|(refine step_call3P (f:=149) rfl rfl (D (p_ h)) (S x) (F y) ?_ ?_ ?_ (HLK.o _ ?_) (λW=>qo) ?_ ?_;(focus(first|rfl|(simp[Act.eval];done)));(focus(first|rfl|(simp[Act.eval];done)));(focus(first|rfl|(simp[Act.eval];done)));(focus(first|with_reducible exact Below.refl _ _|exact B5.o));rotate_left;(focus(rintro v w8 ⟨b,r8,m8,s8,n8,hy8,hf8⟩;have N8:Hd (KQ W0.heap.size h mb C av kv r r8 U2 w8):=(by show KQ _ _ _ _ _ _ _ _ _ _;first|with_reducible exact n8|exact(KQ.of_below ct.o B5.o hBU2).trans (Am.refl _ _) (Am.refl _ _) (ct.o.bl B5.o) n8);have ws:Hd ((y=true/\Az ss ts C.n ms s st (.make x) m8 s8 (.bad b))/\Dj W0.heap.size C w8 b v):=⟨hy8,hf8⟩;clear n8 hy8 hf8;go_wp2_with fail;exact⟨rfl,Or.inr ⟨v,rfl,b,r8,m8,s8,ft.o.trans (Am.refl _ _) (Am.refl _ _) ct.o N8.o,ws.o.1,ws.o.2⟩⟩));rintro v w8 ⟨m8,s8,f8,th,B8,wv,r8,⟨rb,rc,rt,rfl⟩,hse,hs8,n8,R1,ui,zm⟩;have N8:Hd (KQ W0.heap.size h mb C av kv r r8 U2 w8):=(by show KQ _ _ _ _ _ _ _ _ _ _;first|with_reducible exact n8|exact(KQ.of_below ct.o B5.o hBU2).trans (Am.refl _ _) (Am.refl _ _) (ct.o.bl B5.o) n8);have HA8:Hd (Am U2 av th):=(by show Am _ _ _;first|with_reducible exact R1|exact R1.less B5.o.size);have wn:Hd (Am U2 kv B8):=(by show Am _ _ _;first|with_reducible exact ui|exact ui.less B5.o.size);have C8:Hd (Wg ss ts C.n st ms s x y m8 s8 f8/\Lu W0.heap.size h mb C (J sa ss.length c1) (J ta ts.length c2) ss ts w8 m8 st th B8 wv s8 r8/\r8.sn+400200*Dp ts ms st<=r.sn+0+400200*Dp ts m8 st):=⟨hse,hs8,zm⟩;(first|(have z8:=KQ.blk n8 (ct.o.bl B5.o) HV2.o qh;obtain⟨k0,k1,k2,kf⟩:=Ci z8;have oa:Hd (w8.heap[U2.heap.size]?=M (O #[F false,I 0,ze] 191 (0,0))):=z8;clear z8)|skip);clear n8 hse hs8 R1 ui zm))
    all_goals
     go_wp2_with fail;go_meet;have hsU:=N8.o.bel.size;have hA8:=N8.o.blk ct.o HA2.o qh;have hZ8:=N8.o.blk ct.o pg.o qh;have xx:=ft.o.trans (Am.refl _ _) (Am.refl _ _) ct.o N8.o;have Q0:=ft.o.bel.size
     first
      | (with_reducible exact⟨w8.heap.size,f8,m8,s8,th,B8,wv,r8,rfl,rfl,Ab ⟨C8.o.1,C8.o.2.1.bl (Ai _ _),xx.after (HA8.o.less Q0) (wn.o.less Q0) C8.o.2.1 (Ai _ _) qg,HA8.o.less Q0,wn.o.less Q0,C8.o.2.2,Ac (Ai _ _) hA8,Ac (Ai _ _) hZ8⟩⟩;done)
      | (with_reducible exact⟨U2.heap.size,f8,m8,s8,th,B8,wv,r8,rfl,rfl,Ab ⟨C8.o.1,C8.o.2.1.set3 oa.o qh _ _ _,xx.set3 qg qg _ _ _,HA8.o.less Q0,wn.o.less Q0,C8.o.2.2,(Ea (show w.heap.size≠U2.heap.size from qg) _ _ _).trans hA8,(Ea (show K0≠U2.heap.size from qg) _ _ _).trans hZ8⟩⟩;done)
   case rest=>
    obtain⟨P,f,ms',s',av',kv',vs',r',rfl,rfl,HX⟩:=hcut;obtain⟨wk,rfl⟩:∃wk,wk=wc:=⟨_,rfl⟩;clear ct HA2 pg HV2 B5 y4 y4v a0 a1 a0v a1v HLK eU2 eV2 ib hBU2 ir de;obtain⟨Q2,If,hfs⟩:=HX.o.1.said HE.o.v HP.o.inv HP.o.ok pn.o;have HSD:=Ab Q2;have uf:=HX.o.2.1.rs.wd;obtain⟨sm,esm⟩:=Aj (Ap C.n f);have ESM:=Ab esm;(have ph:Hd (∀V:World,Calls prog 36 #[S f,I C.n] V λe w'=>e=.returned (S sm)/\Bw V w'):=λV=>by rw[←esm];exact Hc f C.n V qg uf.1 uf.2);have hwk:=HX.o.2.2.1.bel.size;obtain⟨y0,_,_,_,_,_,_,_,z0,_⟩:=HX.o.2.1.rs.cellsB;have k0:=Jh HX.o.2.2.2.2.2.2.2;clear Q2 If hfs esm uf;go_wp2_with fail;refine(ph.o _).mono ?_;rintro e w5 ⟨rfl,co⟩;clear y0 z0 k0;have hz5:=Ac co HX.o.2.2.2.2.2.2.2;have s5:=(HX.o.2.1.bl co).set hz5 qh 0 (S sm);have k5:=(HX.o.2.2.1.after HX.o.2.2.2.1 HX.o.2.2.2.2.1 HX.o.2.1 co qg).setX (b:=K0) (j:=0) (u:=S sm) qg qg;have a5:=(Dm w5 ⟨K0,0,none⟩ (S sm) w.heap.size (show w.heap.size≠K0 from qg)).trans (Ac co HX.o.2.2.2.2.2.2.1);have c5:=Qg (j:=0) (u:=S sm) (cs':=#[S sm]) hz5 rfl;have k0:=Jh hz5;have kf:=fZ hz5;obtain⟨Z5,eZ5⟩:=Aj (w5.setCell ⟨K0,0,none⟩ (S sm));rw[eZ5]at s5 k5 a5 c5;obtain⟨U5,eU5⟩:=Aj Z5.drew;(have hbU5:Bw Z5 U5:=by rw[<- eU5];exact(Below.refl _ _).drew);have hz5s:=k5.bel.size;have sU:=s5.bl hbU5;have kU:=k5.after HX.o.2.2.2.1 HX.o.2.2.2.2.1 s5 hbU5 qg;have aU:=Ac hbU5 a5;have cU:=Ac hbU5 c5;obtain⟨g5,hm5,hg5⟩:=sU.rs.sn
    have hsnb:r'.sn<maxLen:=by
     have h1:=HX.o.2.2.2.2.2.1;have h2:=HP.o.sl;have h3:=Pz ts ms' st;have h4:=HE.o.l2;unfold maxLen;omega
    obtain⟨w9,kw,hm9,hg9⟩:=hm5.store (x:=x) (y:=y) qq hsnb sm;rw[←ESM.o]at hm9;obtain⟨s9,T0⟩:=sU.seen (zo kU.bel.size) hg5 HSD.o hm9 hg9;have k9:=kU.trans HX.o.2.2.2.1 HX.o.2.2.2.2.1 sU T0;have c9:=T0.blk sU cU qh;have mw:=Ab s9;have HK9:=Ab k9;unfold kL sgV at kw;obtain⟨_,_,_,_,_,y5,_⟩:=sU.rs.cellsB;obtain⟨a0,a1,_⟩:=Lg aU;have c0:=Jh cU;have d0:=Jh c9;clear s9 k9 T0 hm9 hg9 hm5 hg5 sU kU aU cU s5 k5 a5 c5 hbU5 hz5 co c9
    go_upto_region 5 with fail
    go_region;clear eU5 eZ5 kw y5 a0 a1 c0 k0 kf;go_wp2_with fail;go_ret;have h1:=HX.o.2.2.2.2.2.1;exact Or.inl ⟨_,rfl,ms',s',f,av',kv',vs',_,(by show Value.string sm=Value.string (Ap C.n f);rw[ESM.o]),HX.o.1,mw.o,HK9.o,HX.o.2.2.2.1,HX.o.2.2.2.2.1,by show r'.sn+1+_<=_;omega⟩
end Go.Proofs.YtnflkpmmfpfhlaaGreatDoor
