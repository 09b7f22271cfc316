import Derived.Test.YtnflkpmmfpfhlaaGreatDoorBuH
import Derived.Test.YtnflkpmmfpfhlaaGreatDoorBuJ
import Derived.Test.YtnflkpmmfpfhlaaGreatDoorBuL
import Derived.Test.YtnflkpmmfpfhlaaGreatDoorBuQ
namespace Go.Proofs.YtnflkpmmfpfhlaaGreatDoor
open _root_.Go.Proofs.Tryz Go.RowKit Go.Deep
open Value renaming slice->J,string->S,bool->F,agg->G,pointer->D,tuple->Y
open Option renaming some->M,none->N
open Obj renaming cells->O
open Go renaming Value->Z,World->E
open Ending renaming returned->H
open _root_ renaming List->L,Nat->X
set_option linter.unusedVariables false
set_option linter.unusedSimpArgs false
set_option maxHeartbeats 8000000
set_option maxRecDepth 100000
variable {W0 w wr w':E} {h cap i B:X} {C:Fr} {sv tv av kv v:Z} {ss:L S2} {ts:L T2} {ms ms1:Mm} {s s1:Sb} {st:L By} {r:Rv} {is:L I3} {a:Option Addr} {b:Gi}
structure TkI (W0:E) (h mb:X) (C:Fr) (sv tv:Z) (ss:L S2) (ts:L T2) (w:E) (ms:Mm) (s:Sb) (st:L By) (av kv:Z) (r:Rv) (is:L I3) (a:Option Addr) (cap i:X) (wr:E) (ms1:Mm) (s1:Sb) (av1 kv1:Z) (vs1:By->Z) (r1:Rv):Prop where
 dd:∀ce s2 b,Az ss ts C.n ms1 s1 st (.tri is i s.R.length) ce s2 b->Az ss ts C.n ms s st (.tri is 0 s.R.length) ce s2 b
 pre:Fq ss ts C.n ms1 s1 st r1.sn (200*(s.R.length-i))
 sn:r1.sn+400200*Dp ts ms st<=r.sn+200*i+400200*Dp ts ms1 st
 bs:Lu W0.heap.size h mb C sv tv ss ts wr ms1 st av1 kv1 vs1 s1 r1
 kq:KQ W0.heap.size h mb C av kv r r1 w wr
 ra:Am w av av1
 rk:Am w kv kv1
 rx:∃rr,s1.R=s.R++rr
 ab:wr.heap[w.heap.size]?=M (O #[J a is.length cap] 70 (0,0))
 rb:wr.heap[w.heap.size+1]?=M (O #[I 0,ze,nS] 65 (0,0))
theorem TkI.bl{mb:X}{av1 kv1:Z}{vs1:By->Z}{r1:Rv}(q:TkI W0 h mb C sv tv ss ts w ms s st av kv r is a cap i wr ms1 s1 av1 kv1 vs1 r1)(hb:Bw wr w')(hB:W0.heap.size<=wr.heap.size):TkI W0 h mb C sv tv ss ts w ms s st av kv r is a cap i w' ms1 s1 av1 kv1 vs1 r1:=
 ⟨q.dd,q.pre,q.sn,q.bs.bl hb,q.kq.after q.ra q.rk q.bs hb hB,q.ra,q.rk,q.rx,Ac hb q.ab,Ac hb q.rb⟩
theorem qx_ext{R rr:L T3}(h:i<R.length):qx (R++rr) i=qx R i:=by
 exact qmt
structure HoI (W0:E) (h mb:X) (C:Fr) (sv tv:Z) (ss:L S2) (ts:L T2) (w:E) (ms:Mm) (s:Sb) (st:L By) (av kv:Z) (r:Rv) (is:L I3) (a:Option Addr) (cap i:X) (ms1:Mm) (s1:Sb) (ls:L G3) (P AM ml:X) (pv lv:Z) (ot:By) (rc:Int) (rt:By) (zs:L Z) (k:X) (wr:E) (ce:Mm) (s2:Sb) (av2 kv2:Z) (vs2:By->Z) (r2:Rv):Prop where
 dd:∀l5 s3 b,Az ss ts C.n ce s2 st (.holds ls k) l5 s3 b->Az ss ts C.n ms1 s1 st (.holds ls 0) l5 s3 b
 eq:Eqs ss ts C.n ce ls k
 pre:Fq ss ts C.n ce s2 st r2.sn (200*(s.R.length-i)-k)
 sn:r2.sn+400200*Dp ts ms st<=r.sn+200*i+k+400200*Dp ts ce st
 bs:Lu W0.heap.size h mb C sv tv ss ts wr ce st av2 kv2 vs2 s2 r2
 kq:KQ W0.heap.size h mb C av kv r r2 w wr
 ra:Am w av av2
 rk:Am w kv kv2
 rx:∃rr,s2.R=s.R++rr
 ab:wr.heap[w.heap.size]?=M (O #[J a is.length cap] 70 (0,0))
 rb:wr.heap[w.heap.size+1]?=M (O #[I 0,ze,nS] 65 (0,0))
 pb:wr.heap[P]?=M (O #[pv,lv,S ot] 73 (0,0))
 fp:Fre h mb C av2 kv2 r2 P
 xb:wr.heap[AM]?=M (O #[I rc,S rt,nS] 65 (0,0))
 lr:wr.ownsRow W0.heap.size 115 3 lv ml zs
theorem HoI.kq2{mb:X}{ls:L G3}{P AM ml:X}{pv lv:Z}{ot:By}{rc:Int}{rt:By}{zs:L Z}{k k':X}{ce l5:Mm}{s2 s3:Sb}{av2 kv2 av3 kv3:Z}{vs2 vs3:By->Z}{r2 r3:Rv}(q:HoI W0 h mb C sv tv ss ts w ms s st av kv r is a cap i ms1 s1 ls P AM ml pv lv ot rc rt zs k wr ce s2 av2 kv2 vs2 r2)(K:KQ W0.heap.size h mb C av2 kv2 r2 r3 wr w')(ha:Am wr av2 av3)(hk:Am wr kv2 kv3)(b3:Lu W0.heap.size h mb C sv tv ss ts w' l5 st av3 kv3 vs3 s3 r3)(dd:∀ms4 s4 b,Az ss ts C.n l5 s3 st (.holds ls k') ms4 s4 b->Az ss ts C.n ms1 s1 st (.holds ls 0) ms4 s4 b)(eq:Eqs ss ts C.n l5 ls k')(pre:Fq ss ts C.n l5 s3 st r3.sn (200*(s.R.length-i)-k'))(sn:r3.sn+400200*Dp ts ms st<=r.sn+200*i+k'+400200*Dp ts l5 st)(rx:∃rr,s3.R=s.R++rr):HoI W0 h mb C sv tv ss ts w ms s st av kv r is a cap i ms1 s1 ls P AM ml pv lv ot rc rt zs k' w' l5 s3 av3 kv3 vs3 r3:=
 ⟨dd,eq,pre,sn,b3,q.kq.trans q.ra q.rk q.bs K,q.ra.trans q.kq.bel.size ha,q.rk.trans q.kq.bel.size hk,rx,K.blk q.bs q.ab qh,K.blk q.bs q.rb qh,K.keepF q.pb q.fp,K.fre ha hk (Ag q.pb) q.fp,K.blk q.bs q.xb qh,K.ownK q.bs q.lr qh⟩
theorem take_any(W0:E)(h mb:X)(C:Fr)(sa ta:Option Addr)(c1 c2:X)(ss:L S2)(ts:L T2)(hE:Jf W0 sa ta ss ts)(st:L By)(hU:Ho W0 h mb C (J sa ss.length c1) (J ta ts.length c2) ss ts st)(ms:Mm)(s:Sb)(av kv:Z)(vs:By->Z)(r:Rv)(a:Option Addr)(cap:X)(is:L I3)(w:E)(q:Lu W0.heap.size h mb C (J sa ss.length c1) (J ta ts.length c2) ss ts w ms st av kv vs s r)(hp:Fq ss ts C.n ms s st r.sn (200*s.R.length))(hW:Bw W0 w)(hr:Cn W0 a is)(E8:is.length<=200):Calls prog 124 #[D (p_ C.hb),G #[J a is.length cap]] w λe w'=>TakeB W0.heap.size h mb C (J sa ss.length c1) (J ta ts.length c2) ss ts ms s st av kv r is w e w':=by
 have gh:=hW.size;obtain⟨W,eW⟩:=Aj ((w.alloc (O #[J a is.length cap] 70)).alloc (O #[I 0,ze,nS] 65))
 have cj:Bw w W:=qby
 have HAB:Hd (W.heap[w.heap.size]?=M (O #[J a is.length cap] 70 (0,0))):=by
  exact qea
 have lm:Hd (W.heap[w.heap.size+1]?=M (O #[I 0,ze,nS] 65 (0,0))):=by
  show _=_;rw[<- eW];have:=Fg (w.alloc (O #[J a is.length cap] 70)) (O #[I 0,ze,nS] 65)
  rwa [show(w.alloc (O #[J a is.length cap] 70)).heap.size=w.heap.size+1 from qi]at this
 have HQ:=Ab q;have up:=Ab (q.bl cj);have HI0:Hd (TkI W0 h mb C (J sa ss.length c1) (J ta ts.length c2) ss ts w ms s st av kv r is a cap 0 W ms s av kv vs r):=⟨λ_ _ _ k=>k,hp,qg,up.o,KQ.of_below q cj gh,Am.refl _ _,Am.refl _ _,⟨[],qi⟩,HAB.o,lm.o⟩;obtain⟨zs,cv,lv,qr⟩:=q.rs.qs;obtain⟨qa,qc,eqv⟩:=Al qr.row;obtain⟨y0,-,-,-,-,-,-,-,-,-,y2,-⟩:=up.o.rs.cellsB;rw[eqv]at y2;obtain⟨m,em⟩:=Aj s.R.length;rw[em]at y2 eqv;have EQV:=Ab eqv;have EM:=Ab em;have td:m<=2000:=by rw[←em];exact hp.ok.2.1
 have HE:=Ab hE;have HW:=Ab hW;have HU:=Ab hU;have HRW:=Ab hr;clear q hp hW hr hE hU cj qr eqv up em;go_enter func124,ntmps124;go_wp2_with fail;refine wp_scope_straight (wp_seq (wp_label ?_));simp only[Exit.then];go_wp2_with fail;clear eW y0 y2
 go_loopw [23] (λv wr=>∃(i:X)(ms1:Mm)(s1:Sb)(av1 kv1:Z)(vs1:By->Z)(r1:Rv),i<=m/\v=I i/\Hd (TkI W0 h mb C (J sa ss.length c1) (J ta ts.length c2) ss ts w ms s st av kv r is a cap i wr ms1 s1 av1 kv1 vs1 r1)) (λi _=>m-(intOf i).toNat)
 case atStart=>exact⟨0,ms,s,av,kv,vs,r,Nat.zero_le _,rfl,HI0⟩
 case round=>
  clear HI0 HAB lm;obtain⟨i,ms1,s1,av1,kv1,vs1,r1,hi,rfl,HI⟩:=hrel;have H7:=HI.o.kq.bel.size
  by_cases ai:i<m
  rotate_left 1
  ·have fs:¬ (i:Int)<(m:Int):=qg
   have HY:=Ab (HI.o.dd _ _ _ (.tend (ss:=ss) (ts:=ts) (n:=C.n) (ms:=ms1) (s:=s1) (st:=st) (is:=is) (i:=i) (m:=s.R.length) qaw));obtain⟨z0,z1,z2,zf⟩:=Ci HI.o.rb;go_wp2_with fail;obtain⟨y0,y1,y2,_⟩:=Ci (Ba HI.o.rb (I 0) ze nS);refine bR (v:=Y #[G #[I 0,ze,nS],F false]) (by simp[results,results124,go_sem,y0,y1,y2]) rfl (Or.inl ⟨ms1,s1,av1,kv1,vs1,r1,Or.inr ⟨HY.o,rfl⟩,HI.o.bs.set3 HI.o.rb qh _ _ _,HI.o.kq.set3 qg qg _ _ _,HI.o.ra,HI.o.rk,?_⟩);have:=HI.o.sn;have:=EM.o;omega
  have fs:(i:Int)<(m:Int):=qg;have jn:(0:Int)<=(i:Int):=qg;have hiR:i<s.R.length:=qah;obtain⟨rr,err⟩:=HI.o.rx;(have hqx:qx s1.R i=qx s.R i:=by rw[err];exact qx_ext hiR);(have hi1:i<s1.R.length:=by rw[err,List.length_append];omega);obtain⟨g,cp,ca,cc,la,lc,eq2,g1,g2,g3,xv,zs,l1,l2⟩:=HI.o.kq.recAt HQ.o hiR;rw[EQV.o,EM.o]at eq2
  obtain⟨rfl,rfl⟩:qa=p_ g/\qc=cp:=by
   simp only[Value.slice.injEq,true_and]at eq2;exact eq2
  have pi:=Ab (HI.o.pre.ok.2.2 i hi1);have oy:Hd (Wn C.n s1 is i↔((qx s1.R i).code=is/\rrB (Mc C.n s1.T (qx s1.R i).out))):=Iff.rfl;have HOTH:Hd (¬ Wn C.n s1 is i->∀ce s2 b,Az ss ts C.n ms1 s1 st (.tri is (i+1) s.R.length) ce s2 b->Az ss ts C.n ms s st (.tri is 0 s.R.length) ce s2 b):=λq1 ce s2 b q2=>HI.o.dd _ _ _ (.tother hiR q1 q2);have wo:Hd (Wn C.n s1 is i->∀ce s2,Az ss ts C.n ms1 s1 st (.holds (qx s1.R i).looks 0) ce s2 .yes->Az ss ts C.n ms s st (.tri is 0 s.R.length) ce ⟨s2.T,s2.R,s2.ran,s2.held,s2.us++[i]⟩ (.hit (rdC (Mc C.n s1.T (qx s1.R i).out)) (rdT (Mc C.n s1.T (qx s1.R i).out)))):=λq1 ce s2 q2=>HI.o.dd _ _ _ (.thit hiR q1 q2);have je:Hd (Wn C.n s1 is i->∀ce s2,Az ss ts C.n ms1 s1 st (.holds (qx s1.R i).looks 0) ce s2 .no->∀l5 s3 b,Az ss ts C.n ce s2 st (.tri is (i+1) s.R.length) l5 s3 b->Az ss ts C.n ms s st (.tri is 0 s.R.length) l5 s3 b):=λq1 ce s2 q2 l5 s3 b q3=>HI.o.dd _ _ _ (.tno hiR q1 q2 q3);have wu:Hd (Wn C.n s1 is i->∀ce s2 b,Az ss ts C.n ms1 s1 st (.holds (qx s1.R i).looks 0) ce s2 (.bad b)->Az ss ts C.n ms s st (.tri is 0 s.R.length) ce s2 (.bad b)):=λq1 ce s2 b q2=>HI.o.dd _ _ _ (.tbad hiR q1 q2);obtain⟨dg,dcp,db,edv,hdc,hdn,hdf⟩:=HI.o.bs.dfAt hi1;have HDN:=Ab hdn
  have A8:Hd (∀V:E,Bw wr V->¬ Wn C.n s1 is i\/NoH ss ts C.n ms1 (qx s1.R i).looks->TkI W0 h mb C (J sa ss.length c1) (J ta ts.length c2) ss ts w ms s st av kv r is a cap (i+1) V ms1 s1 av1 kv1 vs1 r1):=λV hV hA=>by
   have q:=HI.o.bl hV qg;refine⟨λce s2 b k=>?_,q.pre.le qg,by have:=q.sn;omega,q.bs,q.kq,q.ra,q.rk,q.rx,q.ab,q.rb⟩
   by_cases Is:Wn C.n s1 is i
   ·rcases hA with hA|hA
    ·exact absurd Is hA
    ·exact je.o Is ms1 s1 (hA.bld s1 st) _ _ _ k
   ·exact HOTH.o Is _ _ _ k
  rw[←hqx]at g1 g2 g3 xv l1 l2;obtain⟨cd,ls,ot,erx⟩:∃x y z,qx s1.R i=⟨x,y,z⟩:=⟨_,_,_,rfl⟩;rw[erx]at g1 g2 g3 xv l1 l2 pi oy wo je wu HDN A8;dsimp only at g1 g2 g3 xv l1 l2 pi oy wo je wu HDN A8;have HL1:=Ab l1;have S6:=Ab l2;have iy:=Ab xv;have HQX:=Ab erx;have hcdl:=(Gz pi.o.1).2;clear l1 l2 xv erx hqx err hdn HOTH;obtain⟨P,eP⟩:=Aj wr.heap.size;obtain⟨wC,eWC⟩:=Aj (wr.alloc (O #[J ca cd.length cc,J la ls.length lc,S ot] 73));have jo:=aB eWC;have HBC:=Ab jo;have I8:=Ab (nW eWC eP);have HIC:=Ab (HI.o.bl jo qg);have HFP:Hd (Fre h mb C av1 kv1 r1 P):=HI.o.bs.fresh qg;(have hPw:w.heap.size+1<P:=by rw[←eP];exact Ag HI.o.rb);obtain⟨d0,d1,d2⟩:=Bb I8.o;obtain⟨y0,-,-,-,-,-,y6,-⟩:=HIC.o.bs.rs.cellsB;rw[edv]at y6;have p0:=Jh HIC.o.ab;have hdc':=Aa jo hdc;have hiI:(i:Int)<(s1.R.length:Int):=qg;clear jo hdc hdf edv;have HDC:=Ab hdc'
  cases db with
  | true=>
    have re:=Ab (A8.o wC HBC.o (Or.inr (HDN.o rfl)))
    go_upto_region 4 with fail
    clear eWC g1 g2 g3 A8 oy wo je wu HDN pi HL1 S6 iy HQX I8 HIC HFP d0 d1 d2 p0
    go_upto_region 16 with fail
    clear y0 y6 hdc';go_wp2_with fail;exact⟨⟨i+1,ms1,s1,av1,kv1,vs1,r1,qg,qm,re.o⟩,qap⟩
  | false=>
    go_upto_region 4 with fail
    clear eWC g1 g2 g3;go_wp2_with fail;clear d0 d1 d2 p0 y0 y6 hdc';refine(equal_any ca a cc cap cd is wC (iy.o.bl HBC.o) (HRW.o.bl (HW.o.trans HIC.o.kq.bel)) qg qg).mono ?_;rintro e w1 ⟨ag,bb,rfl,hbb⟩;have HBI:=Ab hbb;have d6:=Ab (Ay HBC.o ag);have HI1C:=Ab (HIC.o.bl ag (zo HBC.o.size));have jk:=Ab (Ac ag I8.o);have hP1:=Ag jk.o;clear ag hbb iy
    cases bb with
    | false=>
      (have HNA:Hd (¬ Wn C.n s1 is i):=λq=>by have:=HBI.o.2 (oy.o.1 q).1;cases this);have re:=Ab (A8.o w1 d6.o (Or.inl HNA.o));clear HBI A8 oy wo je wu HDN pi HL1 S6 HQX I8 HIC HFP HI1C jk HNA;exact qkz
    | true=>
      have S0:Hd (cd=is):=HBI.o.1 rfl;clear HBI;obtain⟨U,eU⟩:=Aj w1.drew;have be:Bw w1 U:=qbc;have kh:=Ab (Ay d6.o be);have HIU:=Ab (HI1C.o.bl be (zo d6.o.size));have HPU:=Ab (Ac be jk.o);obtain⟨-,-,d2⟩:=Bb HPU.o;obtain⟨y0,-⟩:=HIU.o.bs.rs.cellsB;have HG:=Ab (HIU.o.bs.get HIU.o.pre.ok ot);clear be HI1C jk
      go_upto_region 5 with fail
      refine Lt.begin 99 (λw'=>w'=U) qk ?_;rw[eU];clear eU;have hS:U=U:=rfl;change K 0 _
      iterate 6
       refine Lt.ti (v:=?_) hS ?_ ?_;rotate_left 1
       ·rintro w rfl
        exact qae
       simp only[gX]
      refine Lt.sp (i:=6) (λK hK=>?_);go_simp;refine HG.o.mono ?_;rintro e w2 ⟨Q0,A,ok,rfl,hA,hAs⟩;subst Q0;have EA:=Ab hA;clear hA;refine hK.out _ _ (λ_=>hS) (λ_=>?_);clear hK K 
      try simp only[gX]
      change K 7 _
      iterate 5
       refine Lt.ti (v:=?_) hS ?_ ?_;rotate_left 1
       ·rintro w rfl
        exact qae
       simp only[gX]
      refine Lt.done qk ?_ _;clear y0 d2 HG hS;go_wp2_with fail;refine(implRead_any A _ hAs).mono ?_;rintro e w3 ⟨au,⟨zn,rfl⟩|⟨zn,rfl⟩⟩;rotate_left 1
      ·have HNA:Hd (¬ Wn C.n s1 is i):=λq=>zn (by rw[EA.o];exact(oy.o.1 q).2)
       have re:=Ab (A8.o _ (Ay kh.o (Ay au (Ai w3 (O #[I 0,ze,nS] 65)))) (Or.inl HNA.o));clear A8 oy wo je wu HDN pi HL1 S6 HQX I8 HIC HFP HIU HPU HNA zn au EA;exact qkz
      have HAP:Hd (Wn C.n s1 is i):=oy.o.2 ⟨S0.o,by rw[←EA.o];exact zn⟩;obtain⟨rc,erc⟩:=Aj (rdC A);obtain⟨rt,ert⟩:=Aj (rdT A);have EA2:Hd (Mc C.n s1.T ot=A/\rdC A=rc/\rdT A=rt):=⟨EA.o.symm,erc,ert⟩;rw[erc,ert];clear erc ert hAs EA
      go_upto_region 8 with fail
      obtain⟨w4,e4⟩:=Aj (w3.alloc (O #[I rc,S rt,nS] 65));rw[e4];have bp:Bw w3 w4:=qep;(have HXB:Hd (w4.heap[w3.heap.size]?=M (O #[I rc,S rt,nS] 65 (0,0))):=by show _=_;rw[←e4];exact Fg _ _);have hb34:=Ay au bp;have ox:=Ab (Ay kh.o hb34);have HI4:=Ab (HIU.o.bl hb34 (zo kh.o.size));have HP4:=Ab (Ac hb34 HPU.o);have wi:=Ab (Ad HL1.o ox.o);(have hPX:P<w3.heap.size:=by have:=Ag HPU.o;have:=au.size;omega);obtain⟨-,d1,-⟩:=Bb HP4.o;have HHIT2:=Ab (wo.o HAP.o);have Y3:=Ab (je.o HAP.o);have HBAD2:=Ab (wu.o HAP.o);rw[EA2.o.1,EA2.o.2.1,EA2.o.2.2]at HHIT2;clear zn au bp hb34 EA2 wo je wu oy HPU HIU I8 HIC HL1 kh d6 HBC S0 HDN e4;obtain⟨ml,eml⟩:=Aj ls.length;have EML:=Ab eml;(have zq:ml<=200:=by rw[←eml];exact pi.o.2.2.1);rw[eml]at d1 HP4 wi ⊢;clear eml;obtain⟨AM,eX⟩:=Aj w3.heap.size;rw[eX]at HXB hPX ⊢;clear eX;go_wp2_with fail;clear d1;have HH0:Hd (HoI W0 h mb C (J sa ss.length c1) (J ta ts.length c2) ss ts w ms s st av kv r is a cap i ms1 s1 ls P AM ml (J ca cd.length cc) (J la ml lc) ot rc rt zs 0 w4 ms1 s1 av1 kv1 vs1 r1):=⟨λ_ _ _ k=>k,(λj hj=>qg),HI4.o.pre,by have:=HI4.o.sn;omega,HI4.o.bs,HI4.o.kq,HI4.o.ra,HI4.o.rk,HI4.o.rx,HI4.o.ab,HI4.o.rb,HP4.o,HFP.o,HXB.o,wi.o⟩;have HGS:Hd (GsOk ls):=⟨pi.o.2.2.1,λj hj=>(pi.o.2.2.2 j hj).1⟩;clear HI4 HP4 wi HXB HFP pi ox A8 HAP
      go_loopw [64] (λv wx=>∃(k:X)(ce:Mm)(s2:Sb)(av2 kv2:Z)(vs2:By->Z)(r2:Rv),k<=ml/\v=I k/\Hd (HoI W0 h mb C (J sa ss.length c1) (J ta ts.length c2) ss ts w ms s st av kv r is a cap i ms1 s1 ls P AM ml (J ca cd.length cc) (J la ml lc) ot rc rt zs k wx ce s2 av2 kv2 vs2 r2)) (λv _=>ml-(intOf v).toNat)
      case atStart=>exact⟨0,ms1,s1,av1,kv1,vs1,r1,Nat.zero_le _,rfl,HH0⟩
      case round=>
       clear HH0;obtain⟨k,ce,s2,av2,kv2,vs2,r2,hk,rfl,HH⟩:=hrel;have hwx:=HH.o.kq.bel.size;obtain⟨rr2,err2⟩:=HH.o.rx;(have hi2:i<s2.R.length:=by rw[err2,List.length_append];have:=EM.o;omega);have J0:=Ab hi2
       by_cases se:k<ml
       rotate_left 1
       ·have hkJ:¬ (k:Int)<(ml:Int):=qg
        have HY:=Ab (HHIT2.o _ _ (HH.o.dd _ _ _ (.hend (ss:=ss) (ts:=ts) (n:=C.n) (ms:=ce) (s:=s2) (st:=st) (gs:=ls) (k:=k) (by rw[EML.o];omega))));obtain⟨ug,ucp,ub,eu,hu,huf⟩:=HH.o.bs.usAt hi2;obtain⟨-,-,-,y3,-⟩:=HH.o.bs.rs.cellsB;rw[eu]at y3;have hiI2:(i:Int)<(s2.R.length:Int):=qg;obtain⟨sU,kU⟩:=HH.o.bs.setUs eu hi2;have xU:=kU.blk HH.o.bs HH.o.xb qh;have rU:=kU.blk HH.o.bs HH.o.rb qh;have kqU:=HH.o.kq.trans HH.o.ra HH.o.rk HH.o.bs kU;have HZ:Hd (Lu W0.heap.size h mb C (J sa ss.length c1) (J ta ts.length c2) ss ts (wr.setCell ⟨ug,i,N⟩ (F true)) ce st av2 kv2 vs2 ⟨s2.T,s2.R,s2.ran,s2.held,s2.us++[i]⟩ r2/\KQ W0.heap.size h mb C av kv r r2 w (wr.setCell ⟨ug,i,N⟩ (F true))/\(wr.setCell ⟨ug,i,N⟩ (F true)).heap[w.heap.size+1]?=M (O #[I 0,ze,nS] 65 (0,0))):=⟨sU,kqU,rU⟩;obtain⟨x0,x1,x2,-⟩:=Ci xU;obtain⟨q0,q1,q2,qf⟩:=Ci rU;clear sU kU xU rU kqU eu err2;go_wp2_with fail;obtain⟨v0,v1,v2,_⟩:=Ci (Ba HZ.o.2.2 (I rc) (S rt) nS);refine bR (v:=Y #[G #[I rc,S rt,nS],F true]) (by simp[results,results124,go_sem,v0,v1,v2]) rfl (Or.inl ⟨ce,⟨s2.T,s2.R,s2.ran,s2.held,s2.us++[i]⟩,av2,kv2,vs2,r2,Or.inl ⟨rc,rt,HY.o,rfl⟩,HZ.o.1.set3 HZ.o.2.2 qh _ _ _,HZ.o.2.1.set3 qg qg _ _ _,HH.o.ra,HH.o.rk,?_⟩);have h1:=HH.o.sn;have h2:=EM.o;omega
       have hkJ:(k:Int)<(ml:Int):=qg;have hkJ0:(0:Int)<=(k:Int):=qg;have E6:k<ls.length:=qcx;obtain⟨a2,cc2,e2,L6⟩:=Gl (by rw[EML.o];exact HH.o.lr) S6.o;rw[EML.o]at e2;cases e2;obtain⟨gb,goff,rfl,g1,g2,g3⟩:=L6 k E6;have HNMk:=Ab (HGS.o.2 k E6);obtain⟨x,ex⟩:=Aj ((gx ls k).name);obtain⟨y,ey⟩:=Aj ((gx ls k).ask);obtain⟨z,ez⟩:=Aj ((gx ls k).sum);have EG:Hd ((gx ls k).name=x/\(gx ls k).ask=y/\(gx ls k).sum=z):=⟨ex,ey,ez⟩;(have pn:Hd (Ao x):=by show Ao x;rw[←ex];exact HNMk.o);rw[ex]at g1;rw[ey]at g2;rw[ez]at g3;clear ex ey ez L6 HNMk err2;obtain⟨AH,eG⟩:=Aj wr.heap.size;obtain⟨wG,eWG⟩:=Aj (wr.alloc (O #[S x,F y,S z] 115));have zy:=aB eWG;have Y6:=Ab (nW eWG eG);obtain⟨U,eU⟩:=Aj wG.drew;(have be:Bw wr U:=by rw[←eU];exact zy.drew);(have HGU:Hd (U.heap[AH]?=M (O #[S x,F y,S z] 115 (0,0))):=by show _=_;rw[←eU];exact Y6.o);have br:=Ab (HH.o.bs.bl be);have kl:=Ab (HH.o.kq.after HH.o.ra HH.o.rk HH.o.bs be qg);have S7:=Ab (HH.o.kq2 (KQ.of_below HH.o.bs be qg) (Am.refl _ _) (Am.refl _ _) br.o HH.o.dd HH.o.eq HH.o.pre HH.o.sn HH.o.rx);have HSA:=Ab (sumAt_any W0 h mb C sa ta c1 c2 ss ts ce st av2 kv2 vs2 s2 r2 x y U HE.o br.o (HW.o.trans kl.o.bel) HU.o (HH.o.pre.le qg) pn.o)
       go_upto_region 11 with fail
       clear eWG g1 g2 g3 zy Y6 be;refine Lt.begin 99 (λw'=>w'.heap[AH]?=M (O #[S x,F y,S z] 115 (0,0))) qk ?_;rw[eU];clear eU;change K 0 _
       iterate 6
        refine Lt.ti (v:=?_) HGU.o ?_ ?_;rotate_left 1
        ·exact qdk
        simp only[gX]
       change K 7 _
       iterate 2
        refine Lt.ti (v:=?_) HGU.o ?_ ?_;rotate_left 1
        ·exact qdk
        simp only[gX]
       refine Lt.sp (i:=6) (λK hK=>?_);go_simp;refine HSA.o.mono ?_;rintro e w8 (⟨v,rfl,l5,s3,f,av3,kv3,vs3,r3,rfl,hse,hs8,n8,R1,ui,zm⟩|⟨v,rfl,b,r3,l5,s3,n8,hy8,hf8⟩);rotate_left 1
       ·have ws:Hd (KQ W0.heap.size h mb C av kv r r3 w w8/\Az ss ts C.n ms s st (.tri is 0 s.R.length) l5 s3 (.bad b)/\Dj W0.heap.size C w8 b v):=⟨kl.o.trans HH.o.ra HH.o.rk br.o n8,HBAD2.o _ _ _ (HH.o.dd _ _ _ (.haskbad qcx (EG.o.2.1.trans hy8.1) (by rw[EG.o.1];exact hy8.2))),hf8⟩
        clear n8 hy8 hf8;unfold Lm;go_wp2_with fail;exact⟨rfl,Or.inr ⟨b,v,r3,l5,s3,rfl,ws.o.1,ws.o.2.1,ws.o.2.2⟩⟩
       have HG8:Hd (w8.heap[AH]?=M (O #[S x,F y,S z] 115 (0,0))):=n8.blkK br.o HGU.o qh;obtain⟨Q2,If,hfs⟩:=hse.said HE.o.v HH.o.pre.inv HH.o.pre.ok pn.o;have HSD:Hd (Kb ss ts l5 (gx ls k).name (gx ls k).ask=M f/\Ext ce l5):=⟨by rw[EG.o.1,EG.o.2.1];exact Q2,If⟩;have we:=Ab (hse.pre HE.o.v HH.o.pre pn.o (zo EM.o) zm);have HSE:=Ab hse;have gk:Hd (Lu W0.heap.size h mb C (J sa ss.length c1) (J ta ts.length c2) ss ts w8 l5 st av3 kv3 vs3 s3 r3/\KQ W0.heap.size h mb C av2 kv2 r2 r3 U w8/\Am U av2 av3/\Am U kv2 kv3/\r3.sn+400200*Dp ts ce st<=r2.sn+1+400200*Dp ts l5 st):=⟨hs8,n8,R1,ui,zm⟩
       have HRX3:Hd (∃rr,s3.R=s.R++rr):=by
        show ∃rr,_
        rcases HSE.o with⟨_,_,e3,_⟩|⟨_,d,hb,_⟩
        ·rw[e3];exact HH.o.rx
        ·obtain⟨q1,e1⟩:=(hb.inv HE.o.v HH.o.pre.inv HH.o.pre.ok pn.o (λb e=>qw)).2.2.1.recs
         obtain⟨q2,e2⟩:=HH.o.rx;exact⟨q2++q1,by rw[e1,e2,List.append_assoc]⟩
       obtain⟨sm,esm⟩:=Aj (Ap C.n f);have ESM:=Ab esm;rw[esm];clear Q2 If hfs hse hs8 n8 R1 ui zm esm;refine hK.out _ _ (λ_=>HG8.o) (λ_=>?_);clear hK K 
       try simp only[gX]
       by_cases hq:sm=z
       ·have dq:=Fk hq
        refine Lt.ti (i:=9) (v:=?_) HG8.o ?_ ?_;rotate_left 1
        ·exact qdk
        simp only[gX];refine Lt.done qk ?_ _;have HQE:=Ab hq;clear dq hq;go_wp2_with fail;refine⟨⟨k+1,l5,s3,av3,kv3,vs3,r3,qg,qm,S7.o.kq2 gk.o.2.1 gk.o.2.2.1 gk.o.2.2.2.1 gk.o.1 (λms4 s4 b q=>HH.o.dd _ _ _ ?_) ((HH.o.eq.ext HSD.o.2).succ HSD.o.1 (by rw[ESM.o,HQE.o,EG.o.2.2])) (by have:=we.o;rwa [Nat.sub_sub]at this) (by have:=HH.o.sn;have:=gk.o.2.2.2.2;omega) HRX3.o⟩,qap⟩;have E6:k<ls.length:=qcx
        rcases HSE.o with⟨e1,rfl,rfl,e4⟩|⟨e1,d,hb,e4⟩
        ·exact .hhas E6 (EG.o.2.1.trans e1) (by rw[EG.o.1,←e4,ESM.o,HQE.o,EG.o.2.2]) q
        ·exact .hask E6 (EG.o.2.1.trans e1) (by rw[EG.o.1];exact hb) (by rw[←e4,ESM.o,HQE.o,EG.o.2.2]) q
       ·have dq:=Hi hq
        refine Lt.ti (i:=9) (v:=?_) HG8.o ?_ ?_;rotate_left 1
        ·exact qdk
        simp only[gX];refine Lt.done qk ?_ _;obtain⟨rr3,err3⟩:=HRX3.o;(have hi3:i<s3.R.length:=by rw[err3,List.length_append];have:=EM.o;omega);obtain⟨rr1,err1⟩:=HI.o.rx
        have hqx3:qx s3.R i=⟨cd,ls,ot⟩:=by
         (have e1:qx s1.R i=qx s.R i:=by rw[err1];exact qx_ext hiR);rw[err3,qx_ext hiR,←e1];exact HQX.o
        have hnoh:NoH ss ts C.n l5 (qx s3.R i).looks:=by
         rw[hqx3];exact⟨k,qcx,HH.o.eq.ext HSD.o.2,f,HSD.o.1,by rw[ESM.o,EG.o.2.2];exact hq⟩
        have ip:Az ss ts C.n ms1 s1 st (.holds ls 0) l5 s3 .no:=by
         have E6:k<ls.length:=qcx;refine HH.o.dd _ _ _ ?_
         rcases HSE.o with⟨e1,rfl,rfl,e4⟩|⟨e1,d,hb,e4⟩
         ·exact .hhasno E6 (EG.o.2.1.trans e1) (by rw[EG.o.1,←e4,ESM.o,EG.o.2.2];exact hq)
         ·exact .haskno E6 (EG.o.2.1.trans e1) (by rw[EG.o.1];exact hb) (by rw[←e4,ESM.o,EG.o.2.2];exact hq)
        obtain⟨dg3,dcp3,db3,ed3,hd3,hdn3,hdf3⟩:=gk.o.1.dfAt hi3;obtain⟨sD,kD⟩:=gk.o.1.setDf ed3 hi3 hnoh;have kq8:=S7.o.kq.trans S7.o.ra S7.o.rk S7.o.bs gk.o.2.1;have ra8:=S7.o.ra.trans S7.o.kq.bel.size gk.o.2.2.1;have rk8:=S7.o.rk.trans S7.o.kq.bel.size gk.o.2.2.2.1;have ab8:=gk.o.2.1.blk S7.o.bs S7.o.ab qh;have rb8:=gk.o.2.1.blk S7.o.bs S7.o.rb qh;have re:Hd (TkI W0 h mb C (J sa ss.length c1) (J ta ts.length c2) ss ts w ms s st av kv r is a cap (i+1) (w8.setCell ⟨dg3,i,N⟩ (F true)) l5 s3 av3 kv3 vs3 r3):=⟨λms4 s4 b q=>Y3.o _ _ ip _ _ _ q,we.o.le (zo EM.o),by have:=HH.o.sn;have:=gk.o.2.2.2.2;omega,sD,kq8.trans ra8 rk8 gk.o.1 kD,ra8,rk8,HRX3.o,kD.blk gk.o.1 ab8 qh,kD.blk gk.o.1 rb8 qh⟩;obtain⟨-,-,-,-,-,-,y6,-⟩:=gk.o.1.rs.cellsB;rw[ed3]at y6;have hiI3:(i:Int)<(s3.R.length:Int):=qg;clear dq hq kq8 ra8 rk8 ab8 rb8 sD kD ip hnoh hqx3 err1 err3 ed3 hdn3 HG8 HSE HSD we gk S7 br kl HSA HHIT2 Y3 HBAD2 HH HRX3
        go_upto_region 16 with fail
        go_wp2_with fail;exact⟨⟨i+1,l5,s3,av3,kv3,vs3,r3,qg,qm,re.o⟩,qap⟩
def KeepB(B h mb k:X)(C:Fr)(sv tv:Z)(ss:L S2)(ts:L T2)(ms:Mm)(mk st:L By)(al:X)(av kv:Z)(vs:By->Z)(s:Sb)(r:Rv)(is:L I3)(ls:L G3)(c:Int)(t:By)(w:E)(e:Ending)(w':E):Prop:=
 (∃s' r',e=H (Y #[])/\Ez C.n s is ls c t s' N/\BS B h mb k C sv tv ss ts w' ms mk st al av kv vs s' r'/\KQ B h mb C av kv r r' w w'/\r'.sn=r.sn)\/
 (∃v b s' r',e=Lm v/\Ez C.n s is ls c t s' (M b)/\Dj B C w' b v/\KQ B h mb C av kv r r' w w')
theorem Tryz.info4b:(prog.info? 4).map (λi=>(i.zero,i.size,i.bytes))=M (M (F false),1,1):=qk
theorem keepB_any(W0:E)(h mb k:X)(C:Fr)(sv tv:Z)(ss:L S2)(ts:L T2)(ms:Mm)(mk st:L By)(al:X)(av kv:Z)(vs:By->Z)(s:Sb)(r:Rv)(a la:Option Addr)(ac lc:X)(is:L I3)(ls:L G3)(xs:L Z)(c:Int)(t:By)(w:E)(q:BS W0.heap.size h mb k C sv tv ss ts w ms mk st al av kv vs s r)(hW:Bw W0 w)(fw:Fy C.n s)(hT:Mv W0)(hr:Cn W0 a is)(hp:Av is=true)(hx:∀i,(ix is i).text.size<=9223372036854775807)(hl:w.ownsRow W0.heap.size 194 3 (J la ls.length lc) ls.length xs)(hf:Bx ls ls.length xs)(hle:ls.length<=200)(hls:Oq ls)(c0:0<=c)(c5:c<=5)(ht:t.size<=2000):Calls prog 126 #[D (p_ C.hb),G #[J a is.length ac],J la ls.length lc,G #[I c,S t,nS]] w λe w'=>KeepB W0.heap.size h mb k C sv tv ss ts ms mk st al av kv vs s r is ls c t w e w':=by
 have gh:=hW.size;obtain⟨W,eW⟩:=Aj ((w.alloc (O #[J a is.length ac] 70)).alloc (O #[I c,S t,nS] 65))
 have cj:Bw w W:=qby
 have HAB:Hd (W.heap[w.heap.size]?=M (O #[J a is.length ac] 70 (0,0))):=by
  exact qea
 have lm:Hd (W.heap[w.heap.size+1]?=M (O #[I c,S t,nS] 65 (0,0))):=by
  show _=_;rw[<- eW];have:=Fg (w.alloc (O #[J a is.length ac] 70)) (O #[I c,S t,nS] 65)
  rwa [show(w.alloc (O #[J a is.length ac] 70)).heap.size=w.heap.size+1 from qi]at this
 have N6:=Ab (q.bl cj);have tz:=Ab (KQ.of_below q cj gh);have HL0:=Ab (Ad hl cj);have HFL:=Ab hf;have Y4:=Ab hls;have ke:=Ab fw;have HW:=Ab hW;have gt:=Ab (show Mv W0/\Cn W0 a is/\Av is=true from ⟨hT,hr,hp⟩);have HX:=Ab hx;have ou:=Ab (show 0<=c/\c<=5/\t.size<=2000 from ⟨c0,c5,ht⟩);obtain⟨m,em⟩:=Aj ls.length;have EM:=Ab em;have td:m<=200:=by rw[←em];exact hle
 rw[em]at HL0 ⊢;clear q hW fw hT hr hp hx hl hf hls cj em c0 c5 ht hle;go_enter func126,ntmps126;go_wp2_with fail;clear eW
 go_loopw [12] (λi wr=>∃(j:X)(U:L By)(r1:Rv),j<=m/\i=I j/\Hd (Dr C.n s.T (Jb (ls.take j)) U N)/\Hd (Wf C.n U)/\Hd (KQ W0.heap.size h mb C av kv r r1 w wr/\r1.sn=r.sn)/\Hd (BS W0.heap.size h mb k C sv tv ss ts wr ms mk st al av kv vs ⟨U,s.R,s.ran,s.held,s.us⟩ r1)/\Hd (wr.ownsRow W0.heap.size 194 3 (J la m lc) m xs/\wr.heap[w.heap.size]?=M (O #[J a is.length ac] 70 (0,0))/\wr.heap[w.heap.size+1]?=M (O #[I c,S t,nS] 65 (0,0)))) (λi _=>m-(intOf i).toNat)
 case atStart=>exact⟨0,s.T,r,Nat.zero_le _,rfl,.nil,ke.o.1,⟨tz.o,rfl⟩,N6,⟨HL0.o,HAB.o,lm.o⟩⟩
 case round=>
  clear N6 tz HL0 HAB lm;obtain⟨j,U,r1,hj,rfl,za,l7,HK,HS,HL⟩:=hrel;have H7:=HK.o.1.bel.size
  by_cases ai:j<m
  ·have fs:(j:Int)<(m:Int):=qg
   have jn:(0:Int)<=(j:Int):=qg;have se:j<ls.length:=qah;obtain⟨a2,c2,e2,L6⟩:=Gl (by rw[EM.o];exact HL.o.1) HFL.o;rw[EM.o]at e2;cases e2;obtain⟨b,off,rfl,g1,g2,g3⟩:=L6 j se;have hz:(gx ls j).sum.size<=2002:=(Y4.o _ (Ma se)).2;(have HSKIP:Hd ((gx ls j).ask=false->Dr C.n s.T (Jb (ls.take (j+1))) U N):=λq=>by rw[Qa se,Oi,q];simpa using za.o);have HNEXT:Hd ((gx ls j).ask=true->∀U',Dr C.n U [(gx ls j).sum] U' N->Dr C.n s.T (Jb (ls.take (j+1))) U' N):=λq U' k=>by rw[Qa se,Oi,q];exact za.o.app rfl k
   have HFALL:Hd ((gx ls j).ask=true->∀b,Dr C.n U [(gx ls j).sum] U (M b)->Dr C.n s.T (Jb ls++[Bp c t]) U (M b)):=λq b k=>by
    obtain⟨ys,ey⟩:=Zd se;rw[ey,q,List.append_assoc];exact za.o.app rfl (by simpa using (k.more (ys++[Bp c t])).1)
   clear L6;generalize (gx ls j).name=x at *;generalize (gx ls j).sum=z at *;generalize (gx ls j).ask=y at *;obtain⟨wG,eWG⟩:=Aj (wr.alloc (O #[S x,F y,S z] 194));have zy:=aB eWG;(have Y6:Hd (wG.heap[wr.heap.size]?=M (O #[S x,F y,S z] 194 (0,0))):=by show _=_;rw[←eWG];exact Fg _ _);have xq:=Ab (HS.o.bl zy);have HKG:Hd (KQ W0.heap.size h mb C av kv r r1 w wG):=HK.o.1.after (Am.refl _ _) (Am.refl _ _) HS.o zy qg;have HLG:=Ab (show wG.ownsRow W0.heap.size 194 3 (J (M ⟨b,off,N⟩) m lc) m xs/\wG.heap[w.heap.size]?=M (O #[J a is.length ac] 70 (0,0))/\wG.heap[w.heap.size+1]?=M (O #[I c,S t,nS] 65 (0,0)) from ⟨Ad HL.o.1 zy,Ac zy HL.o.2.1,Ac zy HL.o.2.2⟩);obtain⟨-,d1,d2⟩:=Bb Y6.o;have hbG':=zy.size;clear zy;cases y
   ·go_wp2_with fail
    clear eWG g1 g2 g3;exact⟨⟨j+1,U,r1,qg,qm,HSKIP.o qaj,l7,⟨HKG.o,HK.o.2⟩,xq,HLG⟩,qap⟩
   ·go_wp2_with fail
    clear eWG g1 g2 g3 d1 d2;refine(Sf W0.heap.size h mb k C sv tv ss ts ms mk st al av kv vs _ r1 z wG xq.o qg l7.o hz).mono ?_;rintro e w1 (⟨v,rfl,U',r2,rfl,ut,mr,xx,mo⟩|⟨v,rfl,bb,r2,ut,M5,xx⟩)
    ·have uq:=Ab (HNEXT.o qaj U' ut)
     have HT2:Hd (Wf C.n U'):=ut.ok l7.o (λx hx=>by rw[List.mem_singleton]at hx;rw[hx];exact hz);have ft:=Ab (show KQ W0.heap.size h mb C av kv r r2 w w1/\r2.sn=r.sn from ⟨HKG.o.trans (Am.refl _ _) (Am.refl _ _) xq.o xx,mo.trans HK.o.2⟩);have S6:=Ab (show w1.ownsRow W0.heap.size 194 3 (J (M ⟨b,off,N⟩) m lc) m xs/\w1.heap[w.heap.size]?=M (O #[J a is.length ac] 70 (0,0))/\w1.heap[w.heap.size+1]?=M (O #[I c,S t,nS] 65 (0,0)) from ⟨xx.ownK xq.o HLG.o.1 qh,xx.blk xq.o HLG.o.2.1 qh,xx.blk xq.o HLG.o.2.2 qh⟩);have ct:=Ab mr;clear ut mr xx mo;go_wp2_with fail;exact⟨⟨j+1,U',r2,qg,qm,uq,HT2,ft,ct,S6⟩,qap⟩
    ·have I8:=Ab (HFALL.o qaj bb ut)
     have ws:=Ab (show KQ W0.heap.size h mb C av kv r r2 w w1/\Dj W0.heap.size C w1 bb v from ⟨HKG.o.trans (Am.refl _ _) (Am.refl _ _) xq.o xx,M5⟩);exact qlm
  ·have fs:¬ (j:Int)<(m:Int):=qg
   (have N9:Hd (Dr C.n s.T (Jb ls) U N):=by have:=za.o;rwa [List.take_of_length_le qaw]at this);obtain⟨z0,z1,z2,zf⟩:=Ci HL.o.2.2;obtain⟨fo,efo⟩:=Aj (Bp c t);have EF:=Ab efo;(have HFO:Hd (∀V:E,Calls prog 151 #[G #[I c,S t,nS]] V λe w'=>e=H (S fo)/\Bw V w'):=λV=>by rw[<- efo];exact Sq c t V ou.o.1 ou.o.2.1 ou.o.2.2);(have hfos:fo.size<=2002:=by rw[←efo];exact Dx ou.o.2.2);clear efo;go_wp2_with fail;refine(HFO.o _).mono ?_;rintro e w1 ⟨rfl,ag⟩;have iw:=Ab (HS.o.bl ag);have fb:Hd (KQ W0.heap.size h mb C av kv r r1 w w1):=HK.o.1.after (Am.refl _ _) (Am.refl _ _) HS.o ag qg;have HL1:=Ab (show w1.ownsRow W0.heap.size 194 3 (J la m lc) m xs/\w1.heap[w.heap.size]?=M (O #[J a is.length ac] 70 (0,0))/\w1.heap[w.heap.size+1]?=M (O #[I c,S t,nS] 65 (0,0)) from ⟨Ad HL.o.1 ag,Ac ag HL.o.2.1,Ac ag HL.o.2.2⟩);have hb1':=ag.size;clear ag z0 z1 z2 zf;go_wp2_with fail;refine(Sf W0.heap.size h mb k C sv tv ss ts ms mk st al av kv vs _ r1 fo w1 iw.o qg l7.o hfos).mono ?_;rintro e w2 (⟨v,rfl,U',r2,rfl,ut,mr,xx,mo⟩|⟨v,rfl,bb,r2,ut,M5,xx⟩);rotate_left 1
   ·have I8:Hd (Dr C.n s.T (Jb ls++[Bp c t]) U (M bb)):=by show Dr _ _ _ _ _;rw[EF.o];exact N9.o.app rfl ut
    have ws:=Ab (show KQ W0.heap.size h mb C av kv r r2 w w2/\Dj W0.heap.size C w2 bb v from ⟨fb.o.trans (Am.refl _ _) (Am.refl _ _) iw.o xx,M5⟩);exact qlm
   (have HPC:Hd (Dr C.n s.T (Jb ls++[Bp c t]) U' N):=by show Dr _ _ _ _ _;rw[EF.o];exact N9.o.app rfl ut);have ft:=Ab (show KQ W0.heap.size h mb C av kv r r2 w w2/\r2.sn=r.sn from ⟨fb.o.trans (Am.refl _ _) (Am.refl _ _) iw.o xx,mo.trans HK.o.2⟩);have S6:=Ab (show w2.ownsRow W0.heap.size 194 3 (J la m lc) m xs/\w2.heap[w.heap.size]?=M (O #[J a is.length ac] 70 (0,0))/\w2.heap[w.heap.size+1]?=M (O #[I c,S t,nS] 65 (0,0)) from ⟨xx.ownK iw.o HL1.o.1 qh,xx.blk iw.o HL1.o.2.1 qh,xx.blk iw.o HL1.o.2.2 qh⟩);have ct:=Ab mr;have Q0:=ft.o.1.bel.size;clear ut mr xx mo iw fb HL1 HS HK HL za N9 l7;obtain⟨zs,cv,lv,qr⟩:=ct.o.rs.qs;obtain⟨qa,qc,eqv⟩:=Al qr.row;have EQV:=Ab eqv;have HQR:=Ab qr;obtain⟨y0,-,-,-,-,-,-,-,y8,-,y10,-⟩:=ct.o.rs.cellsB;rw[eqv]at y10;obtain⟨mR,emR⟩:=Aj s.R.length;have EMR:=Ab emR;have hmR:mR<=2000:=by rw[←emR];exact ke.o.2.1
   try dsimp only at y10
   rw[emR]at y10;clear eqv qr emR
   by_cases hfull:mR=2000
   ·have hfI:((mR:Int) == 2000)=true:=qj
    have HNA:Hd (Ez C.n s is ls c t ⟨U',s.R,s.ran,s.held,s.us⟩ (M .full)):=.recs HPC.o (by rw[EMR.o];omega);have HFV:Hd (Dj W0.heap.size C w2 .full (G #[I 11,ze,nS])):=⟨by rw[cH ct.o.rs.bd];rfl,by rw[cH ct.o.rs.bd];rfl,rfl⟩;clear hfull;go_wp2_with fail;exact⟨rfl,Or.inr ⟨_,_,_,r2,rfl,HNA.o,HFV.o,ft.o.1⟩⟩
   have hfI:((mR:Int) == 2000)=false:=qj
   go_upto_region 10 with fail
   clear y0 y8 y10;obtain⟨U,eU⟩:=Aj w2.drew;have be:Bw w2 U:=qan;have br:=Ab (ct.o.bl be);have hshU:=br.o.rs.sh;rw[EQV.o]at hshU
   try dsimp only at hshU
   rw[EMR.o]at hshU;have fm:Hd (U.heap[C.hb]?=M (O (Ul C h r2) 133 (0,0))/\U.heap[C.hs]?=M (O #[I C.n,r2.tx,J qa mR qc,r2.su] 136 (0,0))/\U.heap[w.heap.size]?=M (O #[J a is.length ac] 70 (0,0))/\U.heap[w.heap.size+1]?=M (O #[I c,S t,nS] 65 (0,0))):=⟨br.o.rs.bd,hshU,Ac be S6.o.2.1,Ac be S6.o.2.2⟩;have kl:Hd (KQ W0.heap.size h mb C av kv r r2 w U):=ft.o.1.after (Am.refl _ _) (Am.refl _ _) ct.o be qg;have HLU:=Ab (Ad S6.o.1 be);have hbU2:=be.size;have hbWU:=HW.o.trans kl.o.bel
   have Y2:Hd (Calls prog 152 #[G #[J a is.length ac],J la m lc,G #[I c,S t,nS],I C.n] U λe w'=>Bw U w'∧(((∀i,i<m→Ao (gx ls i).name)∧∃v1 v2,e=H (G #[v1,v2,S (Ap C.n (Bp c t))])∧RecOwn U.heap.size w' v1 v2 is (ls.map (Lq C.n)))∨((∃i,i<m∧¬ Ao (gx ls i).name)∧e=H (G #[nS,nS,ze])))):=by
    have L6:Gf U la ls:=by
     obtain⟨a2,c2,e2,L6⟩:=Gl (by rw[EM.o];exact HLU.o) HFL.o;rw[EM.o]at e2;cases e2;exact L6
    have:=Xk a la N ac lc 0 is ls c t 0 C.n (Bp c t) U (gt.o.1.bl hbWU) (gt.o.2.1.bl hbWU) L6 (zo ((Gz gt.o.2.2).2)) HX.o (by rw[EM.o];exact td) (λa2 oh V=>by
     obtain⟨d,rfl⟩:=Int.eq_ofNat_of_zero_le ou.o.1;have:=Qu d t a2 oh V (zo ou.o.2.1) ou.o.2.2
     exact this) gt.o.2.2 br.o.rs.wd.1 br.o.rs.wd.2 (formB_ne c t) (Dx ou.o.2.2) (λi hi=>by have:=(Y4.o _ (Ma hi)).2;omega) (λi=>by
     rcases Nat.lt_or_ge i ls.length with q|q
     ·have:=(Y4.o _ (Ma q)).1.2.1;omega
     ·unfold gx;rw[gG,List.getElem?_eq_none q];exact Nat.zero_le _)
    rw[EM.o]at this;exact this
   have kh:=Ab be;refine Lt.begin 29 (λw'=>w'.heap[C.hb]?=M (O (Ul C h r2) 133 (0,0))/\w'.heap[C.hs]?=M (O #[I C.n,r2.tx,J qa mR qc,r2.su] 136 (0,0))/\w'.heap[w.heap.size]?=M (O #[J a is.length ac] 70 (0,0))/\w'.heap[w.heap.size+1]?=M (O #[I c,S t,nS] 65 (0,0))) qk ?_;rw[eU];clear eU hshU be;change K 0 _
   iterate 3
    refine Lt.ti (v:=?_) fm.o ?_ ?_;rotate_left 1
    ·exact qbp
    simp only[gX]
   refine Lt.ti (i:=3) (v:=?_) fm.o ?_ ?_;rotate_left 1
   ·exact qfm
   simp only[gX];change K 4 _
   iterate 3
    refine Lt.ti (v:=?_) fm.o ?_ ?_;rotate_left 1
    ·exact qbp
    simp only[gX]
   refine Lt.ti (i:=7) (v:=?_) fm.o ?_ ?_;rotate_left 1
   ·exact qfm
   simp only[gX];change K 8 _
   iterate 4
    refine Lt.ti (v:=?_) fm.o ?_ ?_;rotate_left 1
    ·exact qbp
    simp only[gX]
   refine Lt.ti (i:=12) (v:=?_) fm.o ?_ ?_;rotate_left 1
   ·rintro w ⟨s1,s2,s3,s4⟩
    have p0:=Jh s3;obtain⟨x0,x1,x2⟩:=Bb s4;obtain⟨n0,-,n2,-⟩:=Kk s2;exact qae
   simp only[gX];change K 13 _
   iterate 5
    refine Lt.ti (v:=?_) fm.o ?_ ?_;rotate_left 1
    ·exact qbp
    simp only[gX]
   refine Lt.ti (i:=18) (v:=?_) fm.o ?_ ?_;rotate_left 1
   ·exact qfm
   simp only[gX];change K 19 _
   iterate 4
    refine Lt.ti (v:=?_) fm.o ?_ ?_;rotate_left 1
    ·exact qbp
    simp only[gX]
   refine Lt.sp (i:=23) (λK hK=>?_);go_simp;refine Y2.o.mono ?_;rintro e w4 ⟨bp,⟨hnames,v1,v2,rfl,rx1,rx2,i8,C0,ky,te⟩|⟨⟨i,hi,uk⟩,_⟩⟩;rotate_left 1
   ·exact absurd (Y4.o _ (Ma (by rw[EM.o];exact hi))).1 uk
   obtain⟨va1,vc1,ev1⟩:=Al i8;obtain⟨va2,vc2,ev2⟩:=Al ky;rw[List.length_map]at ev2;rw[ev1,ev2];have gq:=Ab (br.o.bl bp);have X4:Hd (w4.heap[C.hb]?=M (O (Ul C h r2) 133 (0,0))/\w4.heap[C.hs]?=M (O #[I C.n,r2.tx,J qa mR qc,r2.su] 136 (0,0))/\w4.heap[w.heap.size]?=M (O #[J a is.length ac] 70 (0,0))/\w4.heap[w.heap.size+1]?=M (O #[I c,S t,nS] 65 (0,0))):=⟨Ac bp fm.o.1,Ac bp fm.o.2.1,Ac bp fm.o.2.2.1,Ac bp fm.o.2.2.2⟩;refine hK.out _ _ (λ_=>X4.o) (λ_=>?_);clear hK K 
   try simp only[gX]
   refine Lt.sp (i:=24) (λK hK=>?_);go_simp;refine Cb (Q:=λx=>K _ x) ?_;intro w5 co ko
   try dsimp only
   have i7:Hd (w5.heap[C.hb]?=M (O (Ul C h r2) 133 (0,0))/\w5.heap[C.hs]?=M (O #[I C.n,r2.tx,J qa mR qc,r2.su] 136 (0,0))/\w5.heap[w.heap.size]?=M (O #[J a is.length ac] 70 (0,0))/\w5.heap[w.heap.size+1]?=M (O #[I c,S t,nS] 65 (0,0))):=⟨Ac co X4.o.1,Ac co X4.o.2.1,Ac co X4.o.2.2.1,Ac co X4.o.2.2.2⟩;have iq:=Ab (gq.o.bl co);refine hK.out _ _ (λ_=>i7.o) (λ_=>?_);clear hK K 
   try simp only[gX]
   refine Lt.sp (i:=25) (λK hK=>?_);have hU4:=bp.size;have h45:=co.size;have qr5:=((HQR.o.bl kh.o).bl bp).bl co;have Q5:=qr5.row;rw[EQV.o]at Q5
   try dsimp only at Q5 qr5
   rw[EMR.o]at Q5;refine step_appQ2 rfl qt W0.heap.size (J qa mR qc) mR zs qt Q5 w4.heap.size _ _ _ qt ko.o qcz qg qg ?_;intro g' aj w7 ah ae dh hold;have hq5n:=λ(b:X) (cs:Array Z) (T:TypeId) (hT:T≠73) (hb:w5.heap[b]?=M (O cs T (0,0)))=>Ae Q5 hT hb;have Eq:∀(b:X)(cs:Array Z)(T:TypeId),T≠73->w5.heap[b]?=M (O cs T (0,0))->w7.heap[b]?=M (O cs T (0,0)):=λb cs T hT hb=>Bh hb ae (hq5n b cs T hT hb);have iu:Hd (w7.heap[C.hb]?=M (O (Ul C h r2) 133 (0,0))/\w7.heap[C.hs]?=M (O #[I C.n,r2.tx,J qa mR qc,r2.su] 136 (0,0))/\w7.heap[w.heap.size]?=M (O #[J a is.length ac] 70 (0,0))/\w7.heap[w.heap.size+1]?=M (O #[I c,S t,nS] 65 (0,0))):=⟨Eq _ _ _ qh i7.o.1,Eq _ _ _ qh i7.o.2.1,Eq _ _ _ qh i7.o.2.2.1,Eq _ _ _ qh i7.o.2.2.2⟩;(have ij:w5.grownBy w7 r2.qv.ownBlock:=by rw[EQV.o,EMR.o];exact ae);(have hold2:Lr r2.qv w5 w7:=by rw[EQV.o,EMR.o];exact hold);(have aq:w7.ownsRow W0.heap.size 73 3 (J (p_ g') (mR+1) aj) (s.R.length+1) (zs++[J va1 is.length vc1,J va2 ls.length vc2,S (Ap C.n (Bp c t))]):=by rw[EMR.o];exact ah);have hadd:=Dv.addI (h:=C.hs) (rec:=⟨is,ls.map (Lq C.n),Ap C.n (Bp c t)⟩) qr5 ij aq (Ah (Ad (ev1▸i8) co) qg) C0 (Ah (Ad (ev2▸ky) co) qg) te (λi hi b q1 q2=>by rw[←ev1]at q2;have h1:=(i8.lt b q2).1;obtain⟨ys,r1,_⟩:=HQR.o.code i hi;have h2:=(r1.lt b q1).2;omega) (λi hi b q1 q2=>by rw[←ev2]at q2;have h1:=(ky.lt b q2).1;obtain⟨ys,r1,_⟩:=HQR.o.look i hi;have h2:=(r1.lt b q1).2;omega) iu.o.2.1 (J (p_ g') (mR+1) aj);have hq5b:∀b,r2.qv.ownBlock=M b->W0.heap.size<=b:=λb e=>(qr5.row.lt b e).1;have hM:=Kl.of iq.o.rs
   have hG:=hM.gQ (w2:=w7) qg iq.o.ownA.1 iq.o.ownA.2 ((Below.refl _ _).grown ij qg hq5b) (λb h1 h2=>ij.block b h1 (λe=>h2 e.symm)) hadd (λys hy i hi=>by
    have h1:=hy i hi
    rcases Nat.lt_or_ge i s.R.length with q|q
    ·rw[qx_ext q];exact h1
    ·obtain⟨k1,h2,_⟩:=h1
     unfold qx at h2;rw[gG,List.getElem?_eq_none q]at h2
     exact absurd h2 (Nat.not_lt_zero _)) (λb q=>by
    obtain rfl:g'=b:=qav
    rcases dh with q|q
    ·exact Or.inl (by rw[EQV.o,EMR.o];exact q)
    ·right;omega)
   have HG:=Ab hG
   have HOQ:Hd (Lr r2.qv w2 (w7.setCell ⟨C.hs,2,N⟩ (J (p_ g') (mR+1) aj))):=by
    refine Lr.next (w1:=w7) (λg l cp cs e hb=>?_) (λg cs hb=>?_)
    ·exact hold2 g l cp cs e (Ac co (Ac bp (Ac kh.o hb)))
    ·rw[Dm w7 ⟨C.hs,2,N⟩ _ g (λe=>by have e:g=C.hs:=e;subst e;have o:=iu.o.2.1;rw[hb]at o;injection o with o;injection o with _ o;exact absurd o qh)];exact hb
   have gi:Hd (FrR W0.heap.size C r2 r2 w2 w5):=FrR.of_below (Ay kh.o (Ay bp co)) qg;have h57:=ae.size;refine hK.out _ _ (λ_=>iu.o) (λ_=>?_);clear hK K ae ah hold ij hold2 aq hadd hM hG qr5 Q5 hq5n Eq dh hq5b co bp i8 ky C0 te ev1 ev2;simp only[gX];refine Lt.sp (i:=26) (λK hK=>?_);go_simp;refine hK.out _ _ (λ_=>iu.o) (λ_=>?_);clear hK K 
   try simp only[gX]
   refine Lt.sp (i:=27) (λK hK=>?_);go_simp;refine hK.out _ _ (λ_=>iu.o) (λ_=>?_);clear hK K 
   try simp only[gX]
   refine Lt.ti (i:=28) (v:=?_) iu.o ?_ ?_;rotate_left 1
   ·exact qbp
   simp only[gX];obtain⟨-,-,n2,-,nf⟩:=Kk iu.o.2.1;refine Lt.sp (i:=29) (λK hK=>?_);go_simp;refine hK.out _ _ (λh=>absurd rfl h) (λ_=>?_);clear hK K n2 nf
   try simp only[gX]
   refine Lt.done qk ?_ _;obtain⟨w10,e10⟩:=Aj (w7.setCell ⟨C.hs,2,N⟩ (J (p_ g') (mR+1) aj));rw[e10]at HG HOQ ⊢;(have hs10:w7.heap.size<=w10.heap.size:=by rw[←e10];simp);obtain⟨nq,enq⟩:=Aj (Value.slice (p_ g') (mR+1) aj);have ENQ:=Ab enq;rw[enq]at HG;clear e10 enq;obtain⟨ux,uo,u9⟩:=HG.o.1.us;obtain⟨ua,uc,eu⟩:=Al uo;rw[EMR.o]at eu uo;have EU:=Ab eu;rw[eu]at uo;have HUA:Hd (∀o:Obj,(w10.alloc o).ownsRow W0.heap.size 4 1 (J ua mR uc) mR (ux.map .bool)):=λo=>uo.alloc o;have HUO:=Ab uo;have yr:=HG.o.1.bd;(have y3:w10.cell? ⟨C.hb,3,N⟩=M (J ua mR uc):=by rw[cH yr,←eu];rfl);have hhb:=Ag yr;obtain⟨i0,zr,bq,bi,ci⟩:=info_parts Tryz.info4b;(have hux:ux.length=mR:=by have:=uo.1;rw[List.length_map]at this;omega);clear eu uo
   go_upto_region 12 with(at_builtin;refine wpList_append_lies _ rfl (.tmp 72) (.tmp 73) 58 rfl W0.heap.size 4 i0 (F false) 1 1 underlying58 zr bq bi ci rfl qh _ mR (ux.map .bool) rfl (HUA.o _) ⟨w10.heap.size,0,N⟩ 1 1 [F true] rfl rfl (cell_one_new _ _ _) qak qg qq qg qj (w10.heap.size+1) qi ?_;intro g11 cp11 Z1 hown11 zt hl11 hlt11;have hh11:Z1.heap[C.hb]?=M (O (Ul C h ⟨r2.tx,r2.su,nq,r2.nv,r2.ev,r2.uv,r2.dv,r2.sn⟩) 133 (0,0)):=(by rw[zt.block C.hb qj (λe=>Ae HUO.o qh yr e.symm),Lib.alloc_old _ _ _ hhb];exact yr);have y3b:Z1.cell? ⟨C.hb,3,N⟩=M r2.uv:=(by rw[cH hh11];rfl);have y3f:∀j,Z1.frozen? ⟨C.hb,j,N⟩=false:=(λj=>fH hh11 j))
   (have hub:∀b,r2.uv.ownBlock=M b->W0.heap.size<=b:=λb e=>by have e2:=EU.o;dsimp only at e2;rw[e2]at e;exact(HUO.o.lt b e).1);have hgu:(w10.alloc (O #[F true] 4)).grownBy Z1 r2.uv.ownBlock:=by have e2:=EU.o;dsimp only at e2;rw[e2];exact zt
   have hG2:=HG.o.1.gU (w2:=Z1) (nw:=J (p_ g11) (mR+1) cp11) (nxs:=ux++[true]) (lu2:=mR+1) qg (λb e=>by have:=iq.o.ownA.1 b e;omega) (λb e=>by have:=iq.o.ownA.2 b e;omega) (bel_of hgu qg hub) (k2_of hgu) (usApp (us:=s.us) u9 (hux.trans EMR.o.symm)) (by rw[List.map_append];exact hown11) (λb q=>by
    obtain rfl:g11=b:=qav;have e2:=EU.o;dsimp only at e2 ⊢;rw[e2]
    rcases hl11 with q|q;exact Or.inl q;exact Or.inr qg)
   (have HK11:Hd (∀(g:X)(cs:Array Z),w10.heap[g]?=M (O cs 73 (0,0))->(Z1.setCell ⟨C.hb,3,N⟩ (J (p_ g11) (mR+1) cp11)).heap[g]?=M (O cs 73 (0,0))):=λg cs hb=>by rw[Dm Z1 ⟨C.hb,3,N⟩ _ g (λe=>by have e:g=C.hb:=e;subst e;have o:=yr;rw[hb]at o;injection o with o;injection o with _ o;exact absurd o qh),k2_of hgu g (Ag hb) (λe=>by have e2:=EU.o;(try dsimp only at e2);rw[e2]at e;exact Ae HUO.o qh hb e)];exact hb);have J1:=Ab hG2;clear hG2 hgu zt hown11 y3 y3b y3f hh11 hl11 hlt11 yr hhb HUA HUO fm X4 i7 iu;obtain⟨w12,e12⟩:=Aj (Z1.setCell ⟨C.hb,3,N⟩ (J (p_ g11) (mR+1) cp11));obtain⟨nu,enu⟩:=Aj (Value.slice (p_ g11) (mR+1) cp11);rw[e12]at J1 HK11 ⊢;rw[enu]at J1;have hs12:=J1.o.2.bel.size;clear e12 enu;obtain⟨dx,do_,dd⟩:=J1.o.1.df;obtain⟨da,dc,ed⟩:=Al do_;rw[EMR.o]at ed do_;have ED:=Ab ed;rw[ed]at do_;have HDD:=Ab dd;have HDA:Hd (∀o:Obj,(w12.alloc o).ownsRow W0.heap.size 4 1 (J da mR dc) mR (dx.map .bool)):=λo=>do_.alloc o;have D7:=Ab do_;have F3:=J1.o.1.bd;(have y12:w12.cell? ⟨C.hb,12,N⟩=M (J da mR dc):=by rw[cH F3,←ed];rfl);have hhb2:=Ag F3;clear ed do_ dd
   go_wp2_with (at_builtin;refine wpList_append_lies _ rfl (.tmp 81) (.tmp 82) 58 rfl W0.heap.size 4 i0 (F false) 1 1 underlying58 zr bq bi ci rfl qh _ mR (dx.map .bool) rfl (HDA.o _) ⟨w12.heap.size,0,N⟩ 1 1 [F false] rfl rfl (cell_one_new _ _ _) qak qg qq qg qj (w12.heap.size+1) qi ?_;intro g13 cp13 w13 hown13 Q8 hl13 hlt13;have hh13:w13.heap[C.hb]?=M (O (Ul C h ⟨r2.tx,r2.su,nq,r2.nv,r2.ev,nu,r2.dv,r2.sn⟩) 133 (0,0)):=(by rw[Q8.block C.hb qj (λe=>Ae D7.o qh F3 e.symm),Lib.alloc_old _ _ _ hhb2];exact F3);have y12b:w13.cell? ⟨C.hb,12,N⟩=M r2.dv:=(by rw[cH hh13];rfl);have y12f:∀j,w13.frozen? ⟨C.hb,j,N⟩=false:=(λj=>fH hh13 j))
   (have hdb:∀b,r2.dv.ownBlock=M b->W0.heap.size<=b:=λb e=>by have e2:=ED.o;(try dsimp only at e2);rw[e2]at e;exact(D7.o.lt b e).1);have uj:(w12.alloc (O #[F false] 4)).grownBy w13 r2.dv.ownBlock:=by have e2:=ED.o;(try dsimp only at e2);rw[e2];exact Q8
   have hG3:=J1.o.1.gD (w2:=w13) (nw:=J (p_ g13) (mR+1) cp13) (nxs:=dx++[false]) (ld2:=mR+1) qg (λb e=>by have:=iq.o.ownA.1 b e;omega) (λb e=>by have:=iq.o.ownA.2 b e;omega) (bel_of uj qg hdb) (k2_of uj) (by rw[List.map_append];exact hown13) (λi hi=>HDD.o i (by
    rcases Nat.lt_or_ge i dx.length with q|q
    ·rwa [List.getElem?_append_left q]at hi
    ·rw[List.getElem?_append_right q]at hi
     rcases Nat.eq_zero_or_pos (i-dx.length)with q2|q2
     ·rw[q2]at hi;simp at hi
     ·rw[List.getElem?_eq_none qj]at hi;cases hi)) (λb q=>by
    obtain rfl:g13=b:=qav;have e2:=ED.o;(try dsimp only at e2);(try dsimp only);rw[e2]
    rcases hl13 with q|q;exact Or.inl q;exact Or.inr qg)
   have HG3:=Ab hG3;clear hG3;(have HK13:Hd (∀(g:X)(cs:Array Z),w12.heap[g]?=M (O cs 73 (0,0))->(w13.setCell ⟨C.hb,12,N⟩ (J (p_ g13) (mR+1) cp13)).heap[g]?=M (O cs 73 (0,0))):=λg cs hb=>by rw[Dm w13 ⟨C.hb,12,N⟩ _ g (λe=>by have e:g=C.hb:=e;subst e;have o:=F3;rw[hb]at o;injection o with o;injection o with _ o;exact absurd o qh),k2_of uj g (Ag hb) (λe=>by have e2:=ED.o;(try dsimp only at e2);rw[e2]at e;exact Ae D7.o qh hb e)];exact hb);have hF:=gi.o.trans (HG.o.2.trans (J1.o.2.trans HG3.o.2));(have el:(s.R++[(⟨is,ls.map (Lq C.n),Ap C.n (Bp c t)⟩:T3)]).length=mR+1:=by rw[List.length_append,EMR.o];rfl);obtain⟨b1,k1⟩:=ct.o.upd hF.bel hF.keep (Kl.to (s:=⟨U',s.R++[⟨is,ls.map (Lq C.n),Ap C.n (Bp c t)⟩],s.ran,s.held,s.us++[s.R.length]⟩) (by dsimp only;rw[el];exact HG3.o.1)) hF.new ((HOQ.o.next HK11.o).next HK13.o) (by rw[EQV.o,←ENQ.o];simp only[slen];rw[EMR.o];omega);refine bodyPost_end (v:=Y #[]) (by simp[results,results126,go_sem]) rfl ?_;exact Or.inl ⟨_,_,rfl,Ez.ok HPC.o (by rw[EMR.o];omega),b1,ft.o.1.trans (Am.refl _ _) (Am.refl _ _) ct.o k1,ft.o.2⟩
structure RnF (C:Fr) (ss:L S2) (ts:L T2) (ms:Mm) (s:Sb) (st:L By) (r:Rv) (is:L I3) (m1:Mm) (s1:Sb) (m2:Mm) (s2:Sb) (ys:L R3) (ls:L G3) (c:Int) (t:By) (AB:_) (r2:Rv):Prop where
 full:Ck is ys Mx (.over c t AB)
 ro:Gq is ys ls
 ln:ys.length<=200
 lok:Oq ls
 dd:∀l5 s3 x,Az ss ts C.n m2 s2 st (.run is ys ls) l5 s3 x->Az ss ts C.n m1 s1 st (.run is [] []) l5 s3 x
 pre:Fq ss ts C.n m2 s2 st r2.sn 0
 sn:r2.sn+400200*Dp ts ms st<=r.sn+200*s.R.length+400200*Dp ts m2 st
structure RnJ (B h mb:X) (C:Fr) (sv tv:Z) (ss:L S2) (ts:L T2) (w:E) (st:L By) (av kv:Z) (r:Rv) (tn:By) (ga:Option Addr) (cap il:X) (m2:Mm) (s2:Sb) (lv:Z) (ls:L G3) (av2 kv2:Z) (vs2:By->Z) (r2:Rv) (wx:E):Prop where
 bs:Lu B h mb C sv tv ss ts wx m2 st av2 kv2 vs2 s2 r2
 kq:KQ B h mb C av kv r r2 w wx
 ra:Am w av av2
 rk:Am w kv kv2
 lo:Ml wx B lv ls
 tb:wx.heap[w.heap.size]?=M (O #[S tn,J ga il cap] 123 (0,0))
 rb:wx.heap[w.heap.size+1]?=M (O #[I 0,ze,nS] 65 (0,0))
section
variable {B h mb:X} {C:Fr} {sv tv:Z} {ss:L S2} {ts:L T2} {w:E} {st:L By} {av kv:Z} {r:Rv} {tn:By} {ga:Option Addr} {cap il:X} {m2:Mm} {s2:Sb} {lv:Z} {ls:L G3} {av2 kv2:Z} {vs2:By->Z} {r2:Rv} {wx wy:E}
theorem RnJ.bl(k:RnJ B h mb C sv tv ss ts w st av kv r tn ga cap il m2 s2 lv ls av2 kv2 vs2 r2 wx)(hb:Bw wx wy)(hB:B<=w.heap.size):RnJ B h mb C sv tv ss ts w st av kv r tn ga cap il m2 s2 lv ls av2 kv2 vs2 r2 wy:=
 ⟨k.bs.bl hb,k.kq.after k.ra k.rk k.bs hb (zo k.kq.bel.size),k.ra,k.rk,k.lo.same (λb cs q=>Ac hb q),Ac hb k.tb,Ac hb k.rb⟩
theorem RnJ.set3(k:RnJ B h mb C sv tv ss ts w st av kv r tn ga cap il m2 s2 lv ls av2 kv2 vs2 r2 wx){P:X}{u0 u1 u2:Z}(hp:wx.heap[P]?=M (O #[u0,u1,u2] 65 (0,0)))(hn:w.heap.size+1<P)(hB:B<=w.heap.size)(v0 v1 v2:Z):RnJ B h mb C sv tv ss ts w st av kv r tn ga cap il m2 s2 lv ls av2 kv2 vs2 r2 (((wx.setCell ⟨P,0,N⟩ v0).setCell ⟨P,1,N⟩ v1).setCell ⟨P,2,N⟩ v2):=
 ⟨k.bs.set3 hp qh _ _ _,k.kq.set3 qg qg _ _ _,k.ra,k.rk,k.lo.same (λb cs q=>by rw[Ea (λe=>by rw[e,hp]at q;injection q with q;injection q with _ q;exact absurd q qh)];exact q),by rw[Ea qg];exact k.tb,by rw[Ea qg];exact k.rb⟩
end
theorem workB_any(W0:E)(h mb:X)(C:Fr)(sa ta:Option Addr)(c1 c2:X)(ss:L S2)(ts:L T2)(hE:Jf W0 sa ta ss ts)(st:L By)(hU:Ho W0 h mb C (J sa ss.length c1) (J ta ts.length c2) ss ts st)(tn:By)(a:Option Addr)(cap:X)(is:L I3)(hr:Cn W0 a is)(hv:Av is=true)(hT:Mv W0)(hP:Pg W0)(hx:∀i,(ix is i).text.size<=9223372036854775807):Rb W0 h mb C (J sa ss.length c1) (J ta ts.length c2) ss ts st tn a cap is:=by
 intro w ms av kv vs s r q hp hW;have gh:=hW.size;have E8:=(Gz hv).2;have ve:=hp.ok.2.1;obtain⟨W,eW⟩:=Aj ((w.alloc (O #[S tn,J a is.length cap] 123)).alloc (O #[I 0,ze,nS] 65))
 have cj:Bw w W:=qby
 have Do:Hd (W.heap[w.heap.size]?=M (O #[S tn,J a is.length cap] 123 (0,0))):=by
  exact qea
 have lm:Hd (W.heap[w.heap.size+1]?=M (O #[I 0,ze,nS] 65 (0,0))):=by
  show _=_;rw[<- eW];have:=Fg (w.alloc (O #[S tn,J a is.length cap] 123)) (O #[I 0,ze,nS] 65)
  rwa [show(w.alloc (O #[S tn,J a is.length cap] 123)).heap.size=w.heap.size+1 from qi]at this
 have up:=Ab (q.bl cj);have HKW:=Ab (KQ.of_below q cj gh);have HPRE:=Ab hp;have HW:=Ab hW;have HE:=Ab hE;have HU:=Ab hU;have gt:=Ab (show Mv W0/\Cn W0 a is/\Av is=true/\Pg W0 from ⟨hT,hr,hv,hP⟩);have HX:=Ab hx;have hbW2:=cj.size;have HTK:Hd (Calls prog 124 #[D (p_ C.hb),G #[J a is.length cap]] W λe w'=>TakeB W0.heap.size h mb C (J sa ss.length c1) (J ta ts.length c2) ss ts ms s st av kv r is W e w'):=take_any W0 h mb C sa ta c1 c2 ss ts hE st hU ms s av kv vs r a cap is W up.o (hp.le qg) (hW.trans (cj.mono gh)) hr E8;obtain⟨t0,t1,tf⟩:=Lg Do.o;clear q hp hW hE hU hT hr hv hP hx cj;go_enter func98,ntmps98;go_wp2_with fail;clear eW t0 t1 tf;refine HTK.o.mono ?_;clear HTK;rintro e w1 (⟨m1,s1,av1,kv1,vs1,r1,hans,fg,cu,ha1,hk1b,hsn1⟩|⟨b,v,r1,m1,s1,rfl,cu,hd1,C0⟩);rotate_left 1
 ·have HD:=Ab (show Az ss ts C.n ms s st (.tri is 0 s.R.length) m1 s1 (.bad b)/\Dj W0.heap.size C w1 b v/\KQ W0.heap.size h mb C av kv r r1 w w1 from ⟨hd1,C0,HKW.o.trans (Am.refl _ _) (Am.refl _ _) up.o cu⟩)
  clear cu hd1 C0;unfold Lm;go_wp2_with fail;exact⟨rfl,Or.inr ⟨b,v,r1,m1,s1,rfl,HD.o.2.2,.tfell HD.o.1,HD.o.2.1⟩⟩
 have iw:=Ab fg;have fb:=Ab (show KQ W0.heap.size h mb C av kv r r1 w w1/\Am w av av1/\Am w kv kv1 from ⟨HKW.o.trans (Am.refl _ _) (Am.refl _ _) up.o cu,ha1.less qg,hk1b.less qg⟩);have HN1:=Ab hsn1;have HTB1:Hd (w1.heap[w.heap.size]?=M (O #[S tn,J a is.length cap] 123 (0,0))):=cu.blk up.o Do.o qh;have HRB1:Hd (w1.heap[w.heap.size+1]?=M (O #[I 0,ze,nS] 65 (0,0))):=cu.blk up.o lm.o qh;have nj:=Ag HRB1.o;clear fg cu ha1 hk1b hsn1 Do lm HKW up
 rcases hans with⟨c,t,hb,rfl⟩|⟨hb,rfl⟩
 ·have HB:=Ab hb
  have jk:Hd (Fq ss ts C.n m1 s1 st r1.sn (400200-200*s.R.length)):=HPRE.o.step HE.o.v hb (Nat.le_refl _) (λ_ e=>qw) rfl (by simp[Pq]) qg HN1.o;clear hb
  go_upto_region 3 with fail
  obtain⟨w2,ew2⟩:=Aj (w1.alloc (O #[I c,S t,nS] 65));have af:=aB ew2;obtain⟨P,eP⟩:=Aj w1.heap.size;have HPx:=Ab (nW ew2 eP);have HSx:=Ab (iw.o.bl af);have HTx:=Ab (Ac af HTB1.o);have HRx:=Ab (Ac af HRB1.o);have B1:=Ab (show KQ W0.heap.size h mb C av kv r r1 w w2/\Am w av av1/\Am w kv kv1 from ⟨fb.o.1.after fb.o.2.1 fb.o.2.2 iw.o af qg,fb.o.2⟩);have Q0:=af.size;clear af;rw[ew2,eP];clear ew2 eP;obtain⟨ea,ec,eev⟩:=Al HSx.o.rs.held;obtain⟨el,eel⟩:=Aj s1.held.length;rw[eel]at eev;have EEV:=Ab eev;have EEL:=Ab eel;(have hel:el<=40200:=by rw[←eel];have:=(jk.o.small HE.o.l2).2.2.2;omega);obtain⟨U,eU⟩:=Aj w2.drew;have be:Bw w2 U:=qan;have br:=Ab (HSx.o.bl be);have fm:Hd (U.heap[C.hb]?=M (O (Ul C h r1) 133 (0,0))/\U.heap[w.heap.size]?=M (O #[S tn,J a is.length cap] 123 (0,0))):=⟨br.o.rs.bd,Ac be HTx.o⟩;have nh:=Ab (Ac be HRx.o);have HPU:=Ab (Ac be HPx.o);have kl:Hd (KQ W0.heap.size h mb C av kv r r1 w U):=B1.o.1.after B1.o.2.1 B1.o.2.2 HSx.o be qg;have hbU2:=be.size;refine Lt.begin 11 (λw'=>w'.heap[C.hb]?=M (O (Ul C h r1) 133 (0,0))/\w'.heap[w.heap.size]?=M (O #[S tn,J a is.length cap] 123 (0,0))) qk ?_;rw[eU];clear eU be eev eel;change K 0 _
  iterate 4
   refine Lt.ti (v:=?_) fm.o ?_ ?_;rotate_left 1
   ·exact qba
   simp only[gX]
  refine Lt.ti (i:=4) (v:=?_) fm.o ?_ ?_;rotate_left 1
  ·rintro w ⟨s1,s2⟩
   obtain⟨t0,t1,-⟩:=Lg s2;(have y0:w.cell? ⟨C.hb,2,N⟩=M (J ea el ec):=by rw[cH s1,←EEV.o];rfl);exact qae
  simp only[gX];change K 5 _
  iterate 2
   refine Lt.ti (v:=?_) fm.o ?_ ?_;rotate_left 1
   ·exact qba
   simp only[gX]
  refine Lt.sp (i:=7) (λK hK=>?_);go_simp;refine Cb (Q:=λx=>K _ x) ?_;intro w5 co ko
  try dsimp only
  have i7:Hd (w5.heap[C.hb]?=M (O (Ul C h r1) 133 (0,0))/\w5.heap[w.heap.size]?=M (O #[S tn,J a is.length cap] 123 (0,0))):=⟨Ac co fm.o.1,Ac co fm.o.2⟩;refine hK.out _ _ (λ_=>i7.o) (λ_=>?_);clear hK K 
  try simp only[gX]
  refine Lt.sp (i:=8) (λK hK=>?_);(have Q5:w5.ownsRow W0.heap.size 9 1 (J ea el ec) el (Ar s1.held):=by have:=Ad br.o.rs.held co;rw[EEV.o,EEL.o]at this;exact this);have h5:=co.size;refine Nz rfl qt W0.heap.size ea el ec (Ar s1.held) qt Q5 U.heap.size tn qt ko.o qg qg ?_;intro g' aj w7 ah ae dh;have Eq:∀(b:X)(cs:Array Z)(T:TypeId),T≠9->w5.heap[b]?=M (O cs T (0,0))->w7.heap[b]?=M (O cs T (0,0)):=λb cs T hT hb=>Bh hb ae (Ae Q5 hT hb);have iu:Hd (w7.heap[C.hb]?=M (O (Ul C h r1) 133 (0,0))/\w7.heap[w.heap.size]?=M (O #[S tn,J a is.length cap] 123 (0,0))):=⟨Eq _ _ _ qh i7.o.1,Eq _ _ _ qh i7.o.2⟩;have ij:w5.grownBy w7 r1.ev.ownBlock:=by rw[EEV.o];exact ae
  have hG:=br.o.grE (w2:=w7) (nw:=J (p_ g') (el+1) aj) (x:=tn) qg (bel_via co ij qg (λb e=>(br.o.rs.held.lt b e).1)) (k2_via co ij) (by rw[List.length_append,EEL.o,Ar,List.map_append];exact ah) (λb q=>by
   obtain rfl:g'=b:=qav
   rcases dh with q|q
   ·exact Or.inl (by rw[EEV.o];exact q)
   ·right;omega)
  have HG:=Ab hG;have HR7:Hd (w7.heap[w.heap.size+1]?=_):=Eq _ _ _ qh (Ac co nh.o);have HP7:Hd (w7.heap[P]?=_):=Eq _ _ _ qh (Ac co HPU.o);refine hK.out _ _ (λ_=>iu.o) (λ_=>?_);clear hK K ae ah ij hG Q5 Eq dh co fm i7 ko
  try simp only[gX]
  refine Lt.sp (i:=9) (λK hK=>?_);go_simp;refine hK.out _ _ (λ_=>iu.o) (λ_=>?_);clear hK K 
  try simp only[gX]
  refine Lt.sp (i:=10) (λK hK=>?_);go_simp;refine hK.out _ _ (λ_=>iu.o) (λ_=>?_);clear hK K 
  try simp only[gX]
  have y2f:=fZ iu.o.1;have y2:=cK iu.o.1 2;refine Lt.sp (i:=11) (λK hK=>?_);go_simp;refine hK.out _ _ (λh=>absurd rfl h) (λ_=>?_);clear hK K y2 y2f
  try simp only[gX]
  refine Lt.done qk ?_ _;(have ne7:∀(b:X)(cs:Array Z)(T:TypeId),T≠133->w7.heap[b]?=M (O cs T (0,0))->(w7.setCell ⟨C.hb,2,N⟩ (J (p_ g') (el+1) aj)).heap[b]?=M (O cs T (0,0)):=λb cs T hT hb=>by rw[Dm w7 ⟨C.hb,2,N⟩ _ b (λe=>by have e:b=C.hb:=e;have o:=iu.o.1;rw[←e,hb]at o;injection o with o;injection o with _ o;exact hT o)];exact hb);have HR8:Hd ((w7.setCell ⟨C.hb,2,N⟩ (J (p_ g') (el+1) aj)).heap[w.heap.size+1]?=_):=ne7 _ _ _ qh HR7.o;have HP8:Hd ((w7.setCell ⟨C.hb,2,N⟩ (J (p_ g') (el+1) aj)).heap[P]?=_):=ne7 _ _ _ qh HP7.o;have wn:=Ab (kl.o.trans B1.o.2.1 B1.o.2.2 br.o HG.o.2);obtain⟨nw,enw⟩:=Aj (Value.slice (p_ g') (el+1) aj);have gk:=Ab HG.o.1;clear ne7 HR7 HP7 HG iu nh HPU br kl HSx HRx HPx HTx;obtain⟨w8,e8⟩:=Aj (w7.setCell ⟨C.hb,2,N⟩ (J (p_ g') (el+1) aj));rw[e8]at gk wn HR8 HP8 ⊢;rw[enw]at gk wn;clear e8 enw
  go_upto_region 4 with fail
  obtain⟨U8,eU8⟩:=Aj w8.drew;(have vz:Bw w8 U8:=by rw[←eU8];exact(Below.refl _ _).drew);have mw:=Ab (gk.o.bl vz);have zl:=wn.o.bel.size;have HK9:=Ab (wn.o.after B1.o.2.1 B1.o.2.2 gk.o vz qg);have G1:=Ab (Ac vz HR8.o);obtain⟨x0,x1,x2,xf⟩:=Ci (Ac vz HP8.o);obtain⟨z0,z1,z2,zf⟩:=Ci G1.o;clear vz gk wn HR8 HP8;go_region;clear eU8 x0 x1 x2 xf z0 z1 z2 zf
  all_goals
   have z8:=Ba G1.o (I c) (S t) nS;obtain⟨z0,z1,z2,zf⟩:=Ci z8;go_wp2_with fail;refine bR (v:=Y #[nS,G #[I c,S t,nS]]) (by simp[results,results98,go_sem,z0,z1,z2]) rfl (Or.inl ⟨m1,_,⟨c,t,[]⟩,_,av1,kv1,vs1,_,rfl,⟨N,0,0,rfl⟩,.held HB.o,mw.o.set3 G1.o qh _ _ _,HK9.o.set3 qg qg _ _ _,B1.o.2.1,B1.o.2.2,?_⟩);have:=HN1.o;dsimp only;omega
 have HB:=Ab hb;have jk:Hd (Fq ss ts C.n m1 s1 st r1.sn (400200-200*s.R.length)):=HPRE.o.step HE.o.v hb (Nat.le_refl _) (λ_ e=>qw) rfl (by simp[Pq]) qg HN1.o;clear hb
 go_upto_region 5 with fail
 obtain⟨w2,ew2⟩:=Aj (w1.alloc (O #[I 0,ze,nS] 65));have af:=aB ew2;obtain⟨P6,eP6⟩:=Aj w1.heap.size;rw[ew2,eP6];clear ew2 eP6;obtain⟨U,eU⟩:=Aj w2.drew;have be:Bw w1 U:=by rw[←eU];exact Ay af (Below.refl _ _).drew
 have br:=Ab (iw.o.bl be);have kl:=Ab (show KQ W0.heap.size h mb C av kv r r1 w U/\Am w av av1/\Am w kv kv1 from ⟨fb.o.1.after fb.o.2.1 fb.o.2.2 iw.o be qg,fb.o.2⟩);have nh:=Ab (Ac be HRB1.o);have fm:Hd (U.cell? ⟨C.hb,10,N⟩=M (D (p_ h))/\U.heap[w.heap.size]?=M (O #[S tn,J a is.length cap] 123 (0,0))):=⟨by rw[cH br.o.rs.bd];rfl,Ac be HTB1.o⟩;have hUsz:=kl.o.1.bel.size;have hU1:=Ag nh.o;have G0:Hd (∀V,Bw U V->Calls prog 125 #[D (p_ h),G #[S tn,J a is.length cap]] V λe w'=>RunB W0.heap.size h mb C (J sa ss.length c1) (J ta ts.length c2) ss ts m1 s1 st av1 kv1 r1 is V e w'):=λV hV=>runB_any W0 h mb C sa ta a c1 c2 cap ss ts is tn m1 s1 st av1 kv1 vs1 r1 V HE.o HU.o (br.o.bl hV) (jk.o.le qg) (HW.o.trans (kl.o.1.bel.trans (hV.mono qg))) gt.o.2.1 gt.o.2.2.1 gt.o.1 gt.o.2.2.2;clear be af iw fb HRB1 HTB1
 go_cut [8,9] (λp q wx=>∃(P:X)(la:Option Addr)(lc:X)(m2:Mm)(s2:Sb)(ys:L R3)(ls:L G3)(c:Int)(t:By)(AB:_)(av2 kv2:Z)(vs2:By->Z)(r2:Rv),p=J la ls.length lc/\q=D (p_ P)/\Hd (RnF C ss ts ms s st r is m1 s1 m2 s2 ys ls c t AB r2)/\Hd (RnJ W0.heap.size h mb C (J sa ss.length c1) (J ta ts.length c2) ss ts w st av kv r tn a cap is.length m2 s2 (J la ls.length lc) ls av2 kv2 vs2 r2 wx)/\Hd (wx.heap[P]?=M (O #[I c,S t,nS] 65 (0,0))))
 case first=>
  refine Lt.begin 11 (λw'=>w'.cell? ⟨C.hb,10,N⟩=M (D (p_ h))/\w'.heap[w.heap.size]?=M (O #[S tn,J a is.length cap] 123 (0,0))) qk ?_;rw[eU];clear eU;change K 0 _
  iterate 5
   refine Lt.ti (v:=?_) fm.o ?_ ?_;rotate_left 1
   ·exact qba
   simp only[gX]
  refine Lt.two (i:=5) (j:=9) (oi:={ dst:=M 36,op:=Op.call { callee:=Callee.value (Operand.func 125),args:=#[Operand.tmp 34,Operand.tmp 35],argTypes:=#[130,123] },type:=204,pos := "l5_build.go:101",after:=#[{ on:=3,ground:=Ground.data },{ on:=4,ground:=Ground.data }],guard:=N }) (oj:={ dst:=M 9,op:=Op.alloc 65,type:=0,pos := "l5_build.go:101",after:=#[],guard:=N }) qk rfl rfl (λK hK=>?_) (λK hK=>?_)
  ·go_simp
   have bh:=br;have oc:=kl;have X6:=nh;have X3:=fm;refine(G0.o U (Below.refl _ _)).mono ?_;rintro e w5 (⟨m2,s2,ys,ls,c,t,AB,lv,av2,kv2,vs2,r2,rfl,-,f1,f2,f3,f4,f5,f6,f7,yl,jm,ra5,rk5,vp,-⟩|⟨b,v,r2,m2,s2,rfl,jm,hd5,hf5⟩);rotate_left 1
   ·exact qiy
   have I6:Hd (RnF C ss ts ms s st r is m1 s1 m2 s2 ys ls c t AB r2):=⟨f1,f2,f3,f4,f5,f6,by have:=HN1.o;omega⟩;obtain⟨la,lc,elv⟩:=Al vp.choose_spec.1;have hVsz:=oc.o.1.bel.size;have om:Hd (RnJ W0.heap.size h mb C (J sa ss.length c1) (J ta ts.length c2) ss ts w st av kv r tn a cap is.length m2 s2 lv ls av2 kv2 vs2 r2 w5):=⟨yl,oc.o.1.trans oc.o.2.1 oc.o.2.2 bh.o jm,oc.o.2.1.trans qg ra5,oc.o.2.2.trans qg rk5,vp,jm.blk bh.o X3.o.2 qh,jm.blk bh.o X6.o qh⟩;rw[elv]at om ⊢;have i7:Hd (w5.cell? ⟨C.hb,10,N⟩=M (D (p_ h))/\w5.heap[w.heap.size]?=M (O #[S tn,J a is.length cap] 123 (0,0))):=⟨by rw[cH om.o.bs.rs.bd];rfl,om.o.tb⟩;refine hK.out _ _ (λ_=>i7.o) (λ_=>?_);clear hK K f1 f2 f3 f4 f5 f6 f7 yl jm ra5 rk5 vp br kl nh fm bh oc X6 X3 G0
   try simp only[gX]
   change K 6 _
   iterate 3
    refine Lt.ti (v:=?_) i7.o ?_ ?_;rotate_left 1
    ·exact qba
    simp only[gX]
   refine Lt.sp (i:=9) (λK hK=>?_);go_simp;refine Cb (Q:=λx=>K _ x) ?_;intro w6 bj ni
   try dsimp only
   have HRK:Hd (RnJ W0.heap.size h mb C (J sa ss.length c1) (J ta ts.length c2) ss ts w st av kv r tn a cap is.length m2 s2 (J la ls.length lc) ls av2 kv2 vs2 r2 w6):=om.o.bl bj qg;have HSS6:Hd (w6.cell? ⟨C.hb,10,N⟩=M (D (p_ h))/\w6.heap[w.heap.size]?=M (O #[S tn,J a is.length cap] 123 (0,0))):=⟨by rw[cH HRK.o.bs.rs.bd];rfl,HRK.o.tb⟩;refine hK.out _ _ (λ_=>HSS6.o) (λ_=>?_);clear hK K 
   try simp only[gX]
   refine Lt.sp (i:=10) (λK hK=>?_);go_simp;refine hK.out _ _ (λ_=>HSS6.o) (λ_=>?_);clear hK K 
   try simp only[gX]
   obtain⟨k0,k1,k2,kf⟩:=Ci ni.o;refine Lt.sp (i:=11) (λK hK=>?_);go_simp;refine hK.out _ _ (λh=>absurd rfl h) (λ_=>?_);clear hK K k0 k1 k2 kf
   try simp only[gX]
   refine Lt.done qk ?_ _;go_wp2_with fail;go_meet;have h5z:=Ag om.o.rb;exact⟨w5.heap.size,la,lc,m2,s2,ys,ls,c,t,AB,av2,kv2,vs2,r2,rfl,rfl,I6,HRK.o.set3 ni.o qg qg _ _ _,Ba ni.o _ _ _⟩
  ·go_simp
   refine Cb (Q:=λx=>K _ x) ?_;intro V pw D8
   try dsimp only
   have bh:=Ab (br.o.bl pw);have oc:=Ab (show KQ W0.heap.size h mb C av kv r r1 w V/\Am w av av1/\Am w kv kv1 from ⟨kl.o.1.after kl.o.2.1 kl.o.2.2 br.o pw qg,kl.o.2⟩);have X6:=Ab (Ac pw nh.o);have X3:Hd (V.cell? ⟨C.hb,10,N⟩=M (D (p_ h))/\V.heap[w.heap.size]?=M (O #[S tn,J a is.length cap] 123 (0,0))):=⟨by rw[cH bh.o.rs.bd];rfl,Ac pw fm.o.2⟩;refine hK.out _ _ (λ_=>X3.o) (λ_=>?_);clear hK K fm br kl nh
   try simp only[gX]
   refine Lt.sp (i:=5) (λK hK=>?_);go_simp;refine(G0.o V pw).mono ?_;rintro e w5 (⟨m2,s2,ys,ls,c,t,AB,lv,av2,kv2,vs2,r2,rfl,-,f1,f2,f3,f4,f5,f6,f7,yl,jm,ra5,rk5,vp,-⟩|⟨b,v,r2,m2,s2,rfl,jm,hd5,hf5⟩);rotate_left 1
   ·exact qiy
   have I6:Hd (RnF C ss ts ms s st r is m1 s1 m2 s2 ys ls c t AB r2):=⟨f1,f2,f3,f4,f5,f6,by have:=HN1.o;omega⟩;obtain⟨la,lc,elv⟩:=Al vp.choose_spec.1;have hVsz:=oc.o.1.bel.size;have om:Hd (RnJ W0.heap.size h mb C (J sa ss.length c1) (J ta ts.length c2) ss ts w st av kv r tn a cap is.length m2 s2 lv ls av2 kv2 vs2 r2 w5):=⟨yl,oc.o.1.trans oc.o.2.1 oc.o.2.2 bh.o jm,oc.o.2.1.trans qg ra5,oc.o.2.2.trans qg rk5,vp,jm.blk bh.o X3.o.2 qh,jm.blk bh.o X6.o qh⟩;rw[elv]at om ⊢;have i7:Hd (w5.cell? ⟨C.hb,10,N⟩=M (D (p_ h))/\w5.heap[w.heap.size]?=M (O #[S tn,J a is.length cap] 123 (0,0))):=⟨by rw[cH om.o.bs.rs.bd];rfl,om.o.tb⟩;have ko:Hd (w5.heap[U.heap.size]?=_):=jm.blk bh.o D8.o qh;refine hK.out _ _ (λ_=>i7.o) (λ_=>?_);clear hK K f1 f2 f3 f4 f5 f6 f7 yl jm ra5 rk5 vp bh oc X6 X3 G0 D8
   try simp only[gX]
   change K 6 _
   iterate 3
    refine Lt.ti (v:=?_) i7.o ?_ ?_;rotate_left 1
    ·exact qba
    simp only[gX]
   refine Lt.ti (i:=10) (v:=?_) i7.o ?_ ?_;rotate_left 1
   ·exact qba
   simp only[gX];obtain⟨k0,k1,k2,kf⟩:=Ci ko.o;refine Lt.sp (i:=11) (λK hK=>?_);go_simp;refine hK.out _ _ (λh=>absurd rfl h) (λ_=>?_);clear hK K k0 k1 k2 kf
   try simp only[gX]
   refine Lt.done qk ?_ _;go_wp2_with fail;go_meet;exact⟨U.heap.size,la,lc,m2,s2,ys,ls,c,t,AB,av2,kv2,vs2,r2,rfl,rfl,I6,om.o.set3 ko.o qg qg _ _ _,Ba ko.o _ _ _⟩
 case rest=>
  obtain⟨P,la,lc,m2,s2,ys,ls,c,t,AB,av2,kv2,vs2,r2,rfl,rfl,I6,om,I8⟩:=hcut;obtain⟨wk,rfl⟩:∃wk,wk=wc:=⟨_,rfl⟩;clear G0 br kl nh fm eU hU1 hUsz;have HBk:=Ab (HW.o.trans om.o.kq.bel);obtain⟨xs,xo,xf⟩:=om.o.lo;have hov:=I6.o.ro.over I6.o.full
  have HKE:Hd (Calls prog 126 #[D (p_ C.hb),G #[J a is.length cap],J la ls.length lc,G #[I c,S t,nS]] wk λe w'=>KeepB W0.heap.size h mb 0 C (J sa ss.length c1) (J ta ts.length c2) ss ts m2 st st (m2.length+st.length) av2 kv2 vs2 s2 r2 is ls c t wk e w'):=
   keepB_any W0 h mb 0 C _ _ ss ts m2 st st _ av2 kv2 vs2 s2 r2 a la cap lc is ls xs c t wk om.o.bs HBk.o I6.o.pre.ok gt.o.1 gt.o.2.1 gt.o.2.2.1 HX.o xo xf (by have:=I6.o.ro.eq;have:=I6.o.ln;omega) I6.o.lok hov.2.1 hov.2.2 hov.1
  obtain⟨t0,t1,tf⟩:=Lg om.o.tb;obtain⟨x0,x1,x2,xf⟩:=Ci I8.o;clear xo xf hov;go_wp2_with fail;clear t0 t1 tf x0 x1 x2 xf;refine HKE.o.mono ?_;clear HKE;rintro e w6 (⟨s3,r3,rfl,Z9,xu,it,hsn6⟩|⟨v,b,s3,r3,rfl,Z9,M5,it⟩);rotate_left 1
  ·have HD:=Ab (show Az ss ts C.n m1 s1 st (.run is [] []) m2 s3 (.bad b)/\Dj W0.heap.size C w6 b v/\KQ W0.heap.size h mb C av kv r r3 w w6 from ⟨I6.o.dd _ _ _ (.overbad I6.o.full Z9),M5,om.o.kq.trans om.o.ra om.o.rk om.o.bs it⟩)
   clear Z9 M5 it;unfold Lm;go_wp2_with fail;exact⟨rfl,Or.inr ⟨b,v,r3,m2,s3,rfl,HD.o.2.2,.rfell HB.o HD.o.1,HD.o.2.1⟩⟩
  have HSx:=Ab xu;have HTx:Hd (w6.heap[w.heap.size]?=_):=it.blk om.o.bs om.o.tb qh;have HRx:Hd (w6.heap[w.heap.size+1]?=_):=it.blk om.o.bs om.o.rb qh;have HPx:Hd (w6.heap[P]?=_):=it.blk om.o.bs I8.o qh;have B1:=Ab (show KQ W0.heap.size h mb C av kv r r3 w w6/\Am w av av2/\Am w kv kv2 from ⟨om.o.kq.trans om.o.ra om.o.rk om.o.bs it,om.o.ra,om.o.rk⟩);have jr:Hd (Az ss ts C.n m1 s1 st (.run is [] []) m2 s3 (.ok ⟨c,t,ls⟩)):=I6.o.dd _ _ _ (.over I6.o.full Z9);have HSN:Hd (r3.sn+400200*Dp ts ms st<=r.sn+200*s.R.length+400200*Dp ts m2 st):=by have:=I6.o.sn;rw[←hsn6]at this;exact this
  have hr6:=Ag HRx.o
  have hran:s3.ran.length<=40200:=by
   have h1:=(I6.o.pre.small HE.o.l2).2.2.2
   cases Z9 with
   | ok _ _=>dsimp only;omega
  clear Z9 xu it hsn6 om I8 HBk
  go_upto_region 7 with fail
  obtain⟨ea,ec,eev⟩:=Al HSx.o.rs.ran;obtain⟨el,eel⟩:=Aj s3.ran.length;rw[eel]at eev;have EEV:=Ab eev;have EEL:=Ab eel;have hel:el<=40200:=by rw[←eel];exact hran
  obtain⟨U,eU⟩:=Aj w6.drew;have be:Bw w6 U:=qan;have br:=Ab (HSx.o.bl be);have fm:Hd (U.heap[C.hb]?=M (O (Ul C h r3) 133 (0,0))/\U.heap[w.heap.size]?=M (O #[S tn,J a is.length cap] 123 (0,0))):=⟨br.o.rs.bd,Ac be HTx.o⟩;have nh:=Ab (Ac be HRx.o);have HPU:=Ab (Ac be HPx.o);have kl:Hd (KQ W0.heap.size h mb C av kv r r3 w U):=B1.o.1.after B1.o.2.1 B1.o.2.2 HSx.o be qg;have hbU2:=be.size;refine Lt.begin 11 (λw'=>w'.heap[C.hb]?=M (O (Ul C h r3) 133 (0,0))/\w'.heap[w.heap.size]?=M (O #[S tn,J a is.length cap] 123 (0,0))) qk ?_;rw[eU];clear eU be eev eel;change K 0 _
  iterate 4
   refine Lt.ti (v:=?_) fm.o ?_ ?_;rotate_left 1
   ·exact qba
   simp only[gX]
  refine Lt.ti (i:=4) (v:=?_) fm.o ?_ ?_;rotate_left 1
  ·rintro w ⟨s1,s2⟩
   obtain⟨t0,t1,-⟩:=Lg s2;(have y0:w.cell? ⟨C.hb,1,N⟩=M (J ea el ec):=by rw[cH s1,←EEV.o];rfl);exact qae
  simp only[gX];change K 5 _
  iterate 2
   refine Lt.ti (v:=?_) fm.o ?_ ?_;rotate_left 1
   ·exact qba
   simp only[gX]
  refine Lt.sp (i:=7) (λK hK=>?_);go_simp;refine Cb (Q:=λx=>K _ x) ?_;intro w5 co ko
  try dsimp only
  have i7:Hd (w5.heap[C.hb]?=M (O (Ul C h r3) 133 (0,0))/\w5.heap[w.heap.size]?=M (O #[S tn,J a is.length cap] 123 (0,0))):=⟨Ac co fm.o.1,Ac co fm.o.2⟩;refine hK.out _ _ (λ_=>i7.o) (λ_=>?_);clear hK K 
  try simp only[gX]
  refine Lt.sp (i:=8) (λK hK=>?_);have Q5:w5.ownsRow W0.heap.size 9 1 (J ea el ec) el (Ar s3.ran):=by have:=Ad br.o.rs.ran co;rw[EEV.o,EEL.o]at this;exact this
  have h5:=co.size;refine Nz rfl qt W0.heap.size ea el ec (Ar s3.ran) qt Q5 U.heap.size tn qt ko.o qg qg ?_;intro g' aj w7 ah ae dh;have Eq:∀(b:X)(cs:Array Z)(T:TypeId),T≠9->w5.heap[b]?=M (O cs T (0,0))->w7.heap[b]?=M (O cs T (0,0)):=λb cs T hT hb=>Bh hb ae (Ae Q5 hT hb);have iu:Hd (w7.heap[C.hb]?=M (O (Ul C h r3) 133 (0,0))/\w7.heap[w.heap.size]?=M (O #[S tn,J a is.length cap] 123 (0,0))):=⟨Eq _ _ _ qh i7.o.1,Eq _ _ _ qh i7.o.2⟩;have ij:w5.grownBy w7 r3.nv.ownBlock:=by rw[EEV.o];exact ae
  have hG:=br.o.grN (w2:=w7) (nw:=J (p_ g') (el+1) aj) (x:=tn) qg (bel_via co ij qg (λb e=>(br.o.rs.ran.lt b e).1)) (k2_via co ij) (by rw[List.length_append,EEL.o,Ar,List.map_append];exact ah) (λb q=>by
   obtain rfl:g'=b:=qav
   rcases dh with q|q
   ·exact Or.inl (by rw[EEV.o];exact q)
   ·right;omega)
  have HG:=Ab hG;have HR7:Hd (w7.heap[w.heap.size+1]?=_):=Eq _ _ _ qh (Ac co nh.o);have HP7:Hd (w7.heap[P]?=_):=Eq _ _ _ qh (Ac co HPU.o);refine hK.out _ _ (λ_=>iu.o) (λ_=>?_);clear hK K ae ah ij hG Q5 Eq dh co fm i7 ko
  try simp only[gX]
  refine Lt.sp (i:=9) (λK hK=>?_);go_simp;refine hK.out _ _ (λ_=>iu.o) (λ_=>?_);clear hK K 
  try simp only[gX]
  refine Lt.sp (i:=10) (λK hK=>?_);go_simp;refine hK.out _ _ (λ_=>iu.o) (λ_=>?_);clear hK K 
  try simp only[gX]
  have y2f:=fZ iu.o.1;have y2:=cK iu.o.1 1;refine Lt.sp (i:=11) (λK hK=>?_);go_simp;refine hK.out _ _ (λh=>absurd rfl h) (λ_=>?_);clear hK K y2 y2f
  try simp only[gX]
  refine Lt.done qk ?_ _;have ne7:∀(b:X)(cs:Array Z)(T:TypeId),T≠133->w7.heap[b]?=M (O cs T (0,0))->(w7.setCell ⟨C.hb,1,N⟩ (J (p_ g') (el+1) aj)).heap[b]?=M (O cs T (0,0)):=λb cs T hT hb=>by rw[Dm w7 ⟨C.hb,1,N⟩ _ b (λe=>by have e:b=C.hb:=e;have o:=iu.o.1;rw[←e,hb]at o;injection o with o;injection o with _ o;exact hT o)];exact hb
  have HR8:Hd ((w7.setCell ⟨C.hb,1,N⟩ (J (p_ g') (el+1) aj)).heap[w.heap.size+1]?=_):=ne7 _ _ _ qh HR7.o;have HP8:Hd ((w7.setCell ⟨C.hb,1,N⟩ (J (p_ g') (el+1) aj)).heap[P]?=_):=ne7 _ _ _ qh HP7.o;have wn:=Ab (kl.o.trans B1.o.2.1 B1.o.2.2 br.o HG.o.2);obtain⟨nw,enw⟩:=Aj (Value.slice (p_ g') (el+1) aj);have gk:=Ab HG.o.1;clear ne7 HR7 HP7 HG iu nh HPU br kl HSx HRx HPx HTx;obtain⟨w8,e8⟩:=Aj (w7.setCell ⟨C.hb,1,N⟩ (J (p_ g') (el+1) aj));rw[e8]at gk wn HR8 HP8 ⊢;rw[enw]at gk wn;clear e8 enw
  go_upto_region 8 with fail
  obtain⟨U8,eU8⟩:=Aj w8.drew;have vz:Bw w8 U8:=by rw[←eU8];exact(Below.refl _ _).drew
  have mw:=Ab (gk.o.bl vz);have zl:=wn.o.bel.size;have HK9:=Ab (wn.o.after B1.o.2.1 B1.o.2.2 gk.o vz qg);have G1:=Ab (Ac vz HR8.o);obtain⟨x0,x1,x2,xf⟩:=Ci (Ac vz HP8.o);obtain⟨z0,z1,z2,zf⟩:=Ci G1.o;clear vz gk wn HR8 HP8;go_region;clear eU8 x0 x1 x2 xf z0 z1 z2 zf
  all_goals
   have z8:=Ba G1.o (I c) (S t) nS;obtain⟨z0,z1,z2,zf⟩:=Ci z8;go_wp2_with fail;refine bR (v:=Y #[J la ls.length lc,G #[I c,S t,nS]]) (by simp[results,results98,go_sem,z0,z1,z2]) rfl (Or.inl ⟨m2,_,⟨c,t,ls⟩,_,av2,kv2,vs2,_,rfl,⟨la,ls.length,lc,rfl⟩,.ran HB.o jr.o,mw.o.set3 G1.o qh _ _ _,HK9.o.set3 qg qg _ _ _,B1.o.2.1,B1.o.2.2,?_⟩);have:=HSN.o;dsimp only;omega
theorem underB_all(W0:E)(h mb:X)(C:Fr)(sa ta:Option Addr)(c1 c2:X)(ss:L S2)(ts:L T2)(hE:Jf W0 sa ta ss ts)(hT:Mv W0)(hP:Pg W0):∀(n:X)(st:L By),60-st.length=n->st.length<=60->Ho W0 h mb C (J sa ss.length c1) (J ta ts.length c2) ss ts st:=by
 intro n
 induction n with
 | zero=>
   intro st hn jv;exact Xy W0 h mb C sa ta c1 c2 ss ts hE st jv (λnm cz i a cap q1 q2 q3 q4=>qg)
 | succ n ih=>
   intro st hn jv;exact Xy W0 h mb C sa ta c1 c2 ss ts hE st jv (λnm cz i a cap q1 q2 q3 q4=>workB_any W0 h mb C sa ta c1 c2 ss ts hE (st++[nm]) (ih (st++[nm]) qj qj) nm a cap (tx ts i).code q3 (hE.v.pr i q1) hT hP (hE.xc i))
theorem catch_panB(AD:X)(c:Int)(t:By)(ca:Option Addr)(cn cc:X)(older:L PanicEntry)(w:E)(hO:w.heap[AD]?=M (O #[F false,I 0,ze,nS,ze,nS] 168 (0,0))):CallsD prog 127 #[D (p_ AD)] (.panicking ({ v:=.iface 206 (G #[I c,S t,J ca cn cc]),recovered:=false }::older)) w λe u' w'=>
 e=H (Y #[])/\u'=.panicking ({ v:=.iface 206 (G #[I c,S t,J ca cn cc]),recovered:=true }::older)/\w'=((((((w.setCell ⟨AD,0,N⟩ (F false)).setCell ⟨AD,1,N⟩ (I c)).setCell ⟨AD,2,N⟩ (S t)).setCell ⟨AD,3,N⟩ (J ca cn cc)).setCell ⟨AD,4,N⟩ ze).setCell ⟨AD,5,N⟩ nS).alloc (O #[I c,S t,J ca cn cc] 206):=by
 refine callsD_of_wpS func127 rfl λc₀ cs hu=>?_
 apply wpS_seq
 apply wpS_region
 simp[wpOpsS,go_sem,recoverD,hu,ntmps127,Exit.thenS]
 obtain⟨⟨z0,z1,z2,z3,z4,z5⟩,zf⟩:=Sv hO
 have hOl:=Ag hO
 have hta:∀w:E,(Instr.typeAssert (.iface 206 (G #[I c,S t,J ca cn cc])) 20 206 true).run prog w=.ok (Y #[G #[I c,S t,J ca cn cc],F true]) w:=λw=>qk
 have cm:∀(p x:Z),#[p]++(((Array.replicate 15 undef).setIfInBounds 3 x).setIfInBounds 0 x)=#[p,x,undef,undef,x,undef,undef,undef,undef,undef,undef,undef,undef,undef,undef,undef]:=λp x=>rfl
 refine wpS_of_wp ?_
 rw[cm]
 go_wp2_with fail
 simp[bodyPostS,results,results127]
theorem catch_idleB(AD:X)(w:E):CallsD prog 127 #[D (p_ AD)] .returning w λe u' w'=>e=H (Y #[])/\u'=.returning/\w'=w.alloc (O #[I 0,ze,nS] 206):=by
 refine callsD_of_wpS func127 rfl λc₀ cs hu=>?_
 apply wpS_seq
 apply wpS_region
 simp[wpOpsS,go_sem,recoverD,hu,ntmps127,Exit.thenS]
 have hta:∀w:E,(Instr.typeAssert .nilIface 20 206 true).run prog w=.ok (Y #[G #[I 0,ze,nS],F false]) w:=λw=>qk
 have hne:∀w:E,(binOp BinOp.neq 20 .nilIface .nilIface).run prog w=.ok (F false) w:=λ_=>qk
 have cm:∀(p x:Z),#[p]++(((Array.replicate 15 undef).setIfInBounds 3 x).setIfInBounds 0 x)=#[p,x,undef,undef,x,undef,undef,undef,undef,undef,undef,undef,undef,undef,undef,undef]:=λp x=>rfl
 refine wpS_of_wp ?_
 rw[cm]
 go_wp2_with fail
 cases c₀
 simp_all [bodyPostS,results,results127]

theorem Dj.parts(h:Dj B C w b v):∃c t ca cn cc,v=G #[I c,S t,J ca cn cc]:=by
 obtain⟨_,_,h⟩:=h
 cases b with
 | circle ch=>obtain⟨ca,cn,cc,e,_⟩:=h;exact⟨_,_,_,_,_,e⟩
 | deep nm=>exact⟨_,_,_,_,_,h⟩
 | clash A B=>exact⟨_,_,_,_,_,h⟩
 | full=>exact⟨_,_,_,_,_,h⟩
theorem Dj.kept(h:Dj B C w b v)(hb:w'.heap[C.hb]?=w.heap[C.hb]?)(hk:∀(b:X)(cur:Array Z),w.heap[b]?=M (Obj.cells cur 9 (0,0))->w'.heap[b]?=w.heap[b]?):Dj B C w' b v:=by
 obtain⟨h1,h2,h3⟩:=h;refine⟨(Ce hb).trans h1,(Ce hb).trans h2,?_⟩
 cases b with
 | circle ch=>
   obtain⟨ca,cn,cc,e,ho⟩:=h3;exact⟨ca,cn,cc,e,An ho λb' q=>by obtain⟨_,cur,hh⟩:=Dh ho q;exact hk b' cur hh⟩
 | deep nm=>exact h3
 | clash A B=>exact h3
 | full=>exact h3
def FirstB(B h mb:X)(C:Fr)(sv tv:Z)(ss:L S2)(ts:L T2)(s:Sb)(av kv:Z)(r:Rv)(nm:By)(w:E)(e:Ending)(w':E):Prop:=
 ∃ms' s' a,Az ss ts C.n [] s [] (.make nm) ms' s' a/\
  ((∃d lv av' kv' vs' r',a=.ok d/\e=H (Ft d lv)/\(∃la ln lc,lv=J la ln lc)/\Lu B h mb C sv tv ss ts w' ms' [] av' kv' vs' s' r'/\KQ B h mb C av kv r r' w w')\/
   (∃b c t ca cn cc r',a=.bad b/\e=H (G #[F false,I c,S t,J ca cn cc,ze,nS])/\Dj B C w' b (G #[I c,S t,J ca cn cc])/\KQ B h mb C av kv r r' w w'))
theorem firstB_any(W0:E)(h mb:X)(C:Fr)(sa ta:Option Addr)(c1 c2:X)(ss:L S2)(ts:L T2)(nm:By)(av kv:Z)(vs:By->Z)(s:Sb)(r:Rv)(w:E)(hE:Jf W0 sa ta ss ts)(hT:Mv W0)(hP:Pg W0)(cz:Ao nm)(q:Lu W0.heap.size h mb C (J sa ss.length c1) (J ta ts.length c2) ss ts w [] [] av kv vs s r)(hp:Fq ss ts C.n [] s [] r.sn 0)(hW:Bw W0 w):Calls prog 99 #[D (p_ h),S nm] w λe w'=>FirstB W0.heap.size h mb C (J sa ss.length c1) (J ta ts.length c2) ss ts s av kv r nm w e w':=by
 have hB:=hW.size;have hhw:=Ag q.rs.bd;obtain⟨W,eW⟩:=Aj (w.alloc (O #[F false,I 0,ze,nS,ze,nS] 168));have cj:Bw w W:=qbe
 have HOB:Hd (W.heap[w.heap.size]?=M (O #[F false,I 0,ze,nS,ze,nS] 168 (0,0))):=by
  exact qbt
 have up:=Ab (q.bl cj);have HKW:=Ab (KQ.of_below q cj hB);have HU:Hd (Calls prog 128 #[D (p_ h),S nm] W λe w'=>Nu W0.heap.size h mb C (J sa ss.length c1) (J ta ts.length c2) ss ts [] s [] av kv vs r nm (λd vs'=>Ft d (vs' nm)) W e w'):=underB_all W0 h mb C sa ta c1 c2 ss ts hE hT hP 60 [] rfl qi W [] nm av kv vs s r up.o hp cz (hW.trans (cj.mono hB));clear q hW hE hT hP cz cj hp
 go_enter_defers func99,ntmps99
 go_wp2_with fail;refine HU.o.mono ?_;rintro e w4 ⟨ms',s',an,o8,⟨⟨dc,dt,dls⟩,av',kv',vs',r',rfl,rfl,H8,uw,ha4,hkk4,-⟩|⟨b,v,r',rfl,rfl,hv,uw⟩⟩
 ·have pk:Hd (w4.heap[w.heap.size]?=_):=uw.blk up.o HOB.o qh
  obtain⟨la,ln,lc,hlv⟩:=H8.mkr.vsl nm;obtain⟨fo,efo⟩:=Aj (Bp dc dt);have EF:=Ab efo;unfold Ft;simp only[efo,hlv];have gq:=Ab H8;have I9:=Ab (HKW.o.trans (Am.refl _ _) (Am.refl _ _) up.o uw)
  have D7:=Ab o8
  have HA4:=Ab (show Am w av av'/\Am w kv kv' from ⟨ha4.less HKW.o.bel.size,hkk4.less HKW.o.bel.size⟩);obtain⟨⟨z0,z1,z2,z3,z4,z5⟩,zf⟩:=Sv pk.o;clear uw o8 H8 ha4 hkk4 hlv efo eW up HKW HOB;go_wp2_with fail;refine leaves_cons (f:=127) (args:=#[D (p_ w.heap.size)]) qi qo ?_;refine(catch_idleB w.heap.size _).mono ?_;rintro e u' w'' ⟨rfl,rfl,rfl⟩;have e7:=Ac (Ai _ (O #[I 0,ze,nS] 206)) (Il pk.o (F true) (I dc) (S dt) nS (S fo) (J la ln lc));obtain⟨⟨y0,y1,y2,y3,y4,y5⟩,_⟩:=Sv e7;have xu:=gq.o.set6 pk.o qh (F true) (I dc) (S dt) nS (S fo) (J la ln lc);have it:=I9.o.set6 (b:=w.heap.size) hB (Nat.le_refl _) (F true) (I dc) (S dt) nS (S fo) (J la ln lc);refine⟨Ft ⟨dc,dt,dls⟩ (J la ln lc),by simp[results,results99,go_sem,Ft,EF.o,y0,y1,y2,y3,y4,y5],ms',s',_,D7.o,Or.inl ⟨_,_,av',kv',vs',r',rfl,rfl,⟨_,_,_,rfl⟩,xu.bl (Ai _ _),it.after HA4.o.1 HA4.o.2 xu (Ai _ _) (Nat.le_trans hB it.bel.size)⟩⟩
 ·obtain⟨c,t,ca,cn,cc,rfl⟩:=hv.parts
  unfold Lm;dsimp only;have pk:Hd (w4.heap[w.heap.size]?=_):=uw.blk up.o HOB.o qh;have I9:=Ab (HKW.o.trans (Am.refl _ _) (Am.refl _ _) up.o uw);have ws:=Ab (show Az ss ts C.n [] s [] (.make nm) ms' s' (.bad b)/\Dj W0.heap.size C w4 b (G #[I c,S t,J ca cn cc]) from ⟨o8,hv⟩);clear uw o8 hv eW up HKW HOB;go_wp2_with fail;refine leaves_cons (f:=127) (args:=#[D (p_ w.heap.size)]) qi qo ?_;refine(catch_panB w.heap.size c t ca cn cc [] _ pk.o).mono ?_;rintro e u' w'' ⟨rfl,rfl,rfl⟩;have e7:=Ac (Ai _ (O #[I c,S t,J ca cn cc] 206)) (Il pk.o (F false) (I c) (S t) (J ca cn cc) ze nS);obtain⟨⟨y0,y1,y2,y3,y4,y5⟩,_⟩:=Sv e7;have it:=I9.o.set6 (b:=w.heap.size) hB (Nat.le_refl _) (F false) (I c) (S t) (J ca cn cc) ze nS;have hen1:=Dj.kept ws.o.2 (Fm (w:=w4) (b:=w.heap.size) (show C.hb≠w.heap.size from qg) (F false) (I c) (S t) (J ca cn cc) ze nS) (λb cur q=>Fm (w:=w4) (b:=w.heap.size) (λe=>by subst e;have q2:=pk.o;rw[q]at q2;injection q2 with q2;injection q2 with _ q2;exact absurd q2 qh) (F false) (I c) (S t) (J ca cn cc) ze nS);have hen:=hen1.bl (Ai _ (O #[I c,S t,J ca cn cc] 206));refine⟨G #[F false,I c,S t,J ca cn cc,ze,nS],by simp[results,results99,go_sem,y0,y1,y2,y3,y4,y5],ms',s',_,ws.o.1,Or.inr ⟨b,c,t,ca,cn,cc,r',rfl,rfl,hen,⟨it.bel.trans ((Ai _ _).mono (Nat.le_trans hB it.bel.size)),λb' hl h1 h2 h3 h4 h5=>by rw[(Ai _ _).block b' (Nat.lt_of_lt_of_le hl it.bel.size)];exact it.keep b' hl h1 h2 h3 h4 h5,it.new,it.old.next (λg cs q=>Ac (Ai _ _) q),it.len⟩⟩⟩
def bdO(hs:X)(r:Rv)(pm vm:Z):Array Z:=#[D (p_ hs),r.nv,r.ev,r.uv,I 0,I 0,nS,nS,ze,ze,pm,vm,r.dv]
structure Xw (B hb hs n:X) (w:E) (s:Sb) (r:Rv) (pm vm:Z):Prop where
 lb:B<=hb/\B<=hs
 wd:1<=n/\n<=8
 bd:w.heap[hb]?=M (O (bdO hs r pm vm) 133 (0,0))
 sh:w.heap[hs]?=M (O #[I n,r.tx,r.qv,r.su] 136 (0,0))
 tx:w.ownsRow B 9 1 r.tx s.T.length (Ar s.T)
 su:w.ownsRow B 9 1 r.su s.T.length (Ar (s.T.map (Ap n)))
 qs:Eo w B r.qv s.R
 ran:w.ownsRow B 9 1 r.nv s.ran.length (Ar s.ran)
 held:w.ownsRow B 9 1 r.ev s.held.length (Ar s.held)
 us:∃xs:L Bool,w.ownsRow B 4 1 r.uv s.R.length (xs.map .bool)/\∀j:X,xs[j]?=M true <-> j∈s.us
 ap:Ju [r.tx,r.su,r.nv,r.ev]
theorem Pn(n:X):(madeCells (Value.bool false).cells (n*1)).toList=(List.replicate n false).map .bool:=by
 exact qms
theorem Xw.fresh{hb hs n mb sb:X}{pm vm nd:Z}(k:Xw B hb hs n w s r pm vm)(hk:∀b,b<w.heap.size->b≠hb->w'.heap[b]?=w.heap[b]?)(hB:B<=w.heap.size)(iz:w'.heap[hb]?=M (O (Ul ⟨hb,hs,sb,n⟩ h ⟨r.tx,r.su,r.qv,r.nv,r.ev,r.uv,nd,0⟩) 133 (0,0)))(hh:w.heap.size<=h)(hmb:w.heap.size<=mb)(hsb:w.heap.size<=sb)(hms:mb≠sb)(hm:w'.heap[h]?=M (O #[sv,tv,.map (M mb),nS,nS,fvC ⟨hb,hs,sb,n⟩] 165 (0,0)))(hmp:Jk w' mb 0 (λ_=>N))(mo:Kq w' sb 0 (λ_ _=>N))(hnd:w'.ownsRow w.heap.size 4 1 nd s.R.length ((List.replicate s.R.length false).map .bool)):Lu B h mb ⟨hb,hs,sb,n⟩ sv tv ss ts w' [] [] nS nS (λ_=>nS) s ⟨r.tx,r.su,r.qv,r.nv,r.ev,r.uv,nd,0⟩:=by
 obtain⟨xs,u1,u9⟩:=k.us;obtain⟨zs,cv,lv,qr⟩:=k.qs
 have L1:∀(b:X)(cs:Array Z)(T:TypeId),T≠133->w.heap[b]?=M (O cs T (0,0))->b≠hb:=λb cs T hT hb e=>by
  exact qcm
 have kc:∀(b:X)(cs:Array Z)(T:TypeId),T≠133->w.heap[b]?=M (O cs T (0,0))->w'.heap[b]?=M (O cs T (0,0)):=λb cs T hT hb=>by rw[hk b (Ag hb) (L1 b cs T hT hb)];exact hb
 have kk:∀ {e sz n:X} {u:Z} {ys:L Z},w.ownsRow B e sz u n ys->e≠133->w'.ownsRow B e sz u n ys:=λho he=>An ho λb q=>by
  obtain⟨cs,c1⟩:=Bd ho b q;rw[c1];exact kc b cs _ he c1
 refine⟨⟨qg,qg,hm,⟨0,qi,hmp.congr (λx=>by rw[Ys (by simp[fd]) (λe=>by obtain⟨j,hj,_⟩:=e;simp at hj)])⟩,⟨[],rfl,World.ownsRow_nil _ _ _ _⟩,World.ownsRow_nil _ _ _ _,λb e=>qbl,λx=>⟨_,_,_,rfl⟩⟩,⟨⟨k.lb.1,k.lb.2,by show B<=sb;omega,hms⟩,k.wd,iz,kc _ _ _ qh k.sh,⟨_,mo,λx y v e=>qw⟩,kk k.tx qh,kk k.su qh,k.qs.kept (λb q=>by obtain⟨cs,c1⟩:=Bd qr.row b q;rw[c1];exact kc b cs _ qh c1) (λb cs T hT q=>kc b cs T (by rcases hT with e|e<;>rw[e]<;>decide) q),kk k.ran qh,kk k.held qh,⟨xs,kk u1 qh,u9⟩,⟨_,Ah hnd hB,λi hi=>?_⟩,λb e1 e2=>?_,?_⟩⟩
 ·rw[List.getElem?_replicate]at hi
  split at hi<;>cases hi
 ·have h1:=(u1.lt b e1).2
  have h2:=(hnd.lt b e2).1;omega
 ·have:=k.ap
  unfold Ju at this ⊢;refine List.Pairwise.cons (λu _ b e=>qbl) (List.Pairwise.cons (λu _ b e=>qbl) this)
def BuildB(B hb hs n:X)(sv tv:Z)(ss:L S2)(ts:L T2)(s:Sb)(nm:By)(w:E)(e:Ending)(w':E):Prop:=
 (¬ Ao nm/\e=H (G #[I 9,ze,nS])/\Bw w w')\/
 (Ao nm/\Below B w w'/\(∀(b:X)(cs:Array Z)(T:TypeId),TyO T->w.heap[b]?=M (O cs T (0,0))->w'.heap[b]?=M (O cs T (0,0)))/\∃h mb sb ms' s' a,Az ss ts n [] s [] (.make nm) ms' s' a/\
   ((∃d av' kv' vs' r',a=.ok d/\e=H (G #[I d.c,S d.t,nS])/\Lu B h mb ⟨hb,hs,sb,n⟩ sv tv ss ts w' ms' [] av' kv' vs' s' r')\/
    (∃b c t ca cn cc,a=.bad b/\e=H (G #[I c,S t,J ca cn cc])/\Dj B ⟨hb,hs,sb,n⟩ w' b (G #[I c,S t,J ca cn cc]))))
theorem buildB_any(W0:E)(hb hs n:X)(sa ta:Option Addr)(c1 c2:X)(ss:L S2)(ts:L T2)(nm:By)(s:Sb)(r:Rv)(pm vm:Z)(w:E)(hE:Jf W0 sa ta ss ts)(hT:Mv W0)(hP:Pg W0)(cz:nm.size<=9223372036854775807)(k:Xw W0.heap.size hb hs n w s r pm vm)(fw:Fy n s)(hct:s.ran.length+s.held.length≤40000)(hW:Bw W0 w):Calls prog 61 #[D (p_ hb),G #[J sa ss.length c1,J ta ts.length c2],S nm] w λe w'=>BuildB W0.heap.size hb hs n (J sa ss.length c1) (J ta ts.length c2) ss ts s nm w e w':=by
 have gh:=hW.size;have hmm:∀w:E,(Instr.makeMap 131 N).run prog w=.ok (.map (M w.heap.size)) (w.alloc (.map #[] 0)):=λw=>qk;have hfd:∀(v0 v1 v2 v3 v4 v5:Z)(w:E),(Instr.field 168 (G #[v0,v1,v2,v3,v4,v5]) 1).run prog w=.ok (G #[v1,v2,v3]) w:=λ_ _ _ _ _ _ _=>qk;have cr:∀(a:Addr)(fn:Fn)(x y:Array Z)(m:Mode)(w:E),(store a (.func fn x y) m).run prog w=stored prog w a (.func fn x y) m:=λa fn x y m w=>run_store prog w a _ m rfl;obtain⟨W,eW⟩:=Aj ((w.alloc (O #[J sa ss.length c1,J ta ts.length c2] 42)).alloc (O #[I 0,ze,nS] 65))
 have cj:Bw w W:=qby
 have HSP:Hd (W.heap[w.heap.size]?=M (O #[J sa ss.length c1,J ta ts.length c2] 42 (0,0))):=by
  exact qea
 have lm:Hd (W.heap[w.heap.size+1]?=M (O #[I 0,ze,nS] 65 (0,0))):=by
  show _=_;rw[<- eW];have:=Fg (w.alloc (O #[J sa ss.length c1,J ta ts.length c2] 42)) (O #[I 0,ze,nS] 65)
  rwa [show(w.alloc (O #[J sa ss.length c1,J ta ts.length c2] 42)).heap.size=w.heap.size+1 from qi]at this
 have HVN:=Ab (λV=>Dq nm V cz);have HK:=Ab k;have HW:=Ab hW;have rh:=Ab cj;have HEN:=Ab (show Jf W0 sa ta ss ts/\Mv W0/\Pg W0 from ⟨hE,hT,hP⟩);have ke:=Ab fw;have HEM:=Ab hct;have de:=Ag lm.o;obtain⟨z0,z1,z2,zf⟩:=Ci lm.o;clear k hE hT hP fw hct hW cj
 by_cases ip:Ao nm
 rotate_left 1
 ·have HNB:=Ab (Ct ip)
  go_enter func61,ntmps61;go_wp2_with fail;refine(HVN.o W).mono ?_;rintro e w1 ⟨rfl,rfl⟩;rw[HNB.o];clear eW;go_wp2_with fail;have z8:=Ba lm.o (I 9) ze nS;obtain⟨z0,z1,z2,zf⟩:=Ci z8;refine bR (v:=G #[I 9,ze,nS]) qgy rfl (Or.inl ⟨ip,rfl,Co rh.o qg _ _ _⟩)
 have HNB:=Ab (Dc ip);have je:=Ab ip
 have hsl:∃qa qc,r.qv=J qa s.R.length qc:=by
  obtain⟨zs,cv,lv,qr⟩:=HK.o.qs;exact Al qr.row
 obtain⟨qa,qc,eqv⟩:=hsl;have EQV:=Ab eqv;obtain⟨mR,emR⟩:=Aj s.R.length;have hmR:mR<=2000:=by rw[←emR];exact ke.o.2.1
 have EMR:=Ab emR;have hhb:=Ag HK.o.bd;have hhs:=Ag HK.o.sh;obtain⟨x0,x1⟩:=En HSP.o;clear ip eqv emR z0 z1 z2 zf;go_enter func61,ntmps61;go_wp2_with fail;refine(HVN.o W).mono ?_;rintro e w1 ⟨rfl,rfl⟩;rw[HNB.o];clear eW HVN HNB;go_wp2_with fail;refine(newMaker_any sa ta ss.length ts.length c1 c2 W).mono ?_;rintro e w2 ⟨rfl,e2⟩;have af:Bw W w2:=by rw[e2];exact mkW_below _ _ W
 have lz:Hd (w2.heap[W.heap.size+1+1]?=M (O #[J sa ss.length c1,J ta ts.length c2,.map (M (W.heap.size+1)),nS,nS,.nilFunc] 165 (0,0))):=by show _=_;rw[e2];exact mkW_blk _ _ W
 have uq:Hd (Jk w2 (W.heap.size+1) 0 (λ_=>N)):=by show Jk _ _ _ _;rw[e2];exact mkW_map _ _ W
 have dy:=Ab (Ay rh.o af);have pj:=Ab (Ac af lm.o);have wt:=Ab (Ac dy.o HK.o.bd);obtain⟨h,eh⟩:=Aj (W.heap.size+1+1);obtain⟨mb,emb⟩:=Aj (W.heap.size+1);have hhw:w.heap.size+1<h:=qg;have Id:w.heap.size+1<mb:=qg;have hne:mb≠h:=qg;rw[eh,emb]at lz;rw[emb]at uq;rw[eh];clear e2 eh emb af x0 x1 HSP lm rh;have y10:=cK wt.o 10;have yf:=λj=>fH wt.o j
 go_upto_region 4 with fail
 obtain⟨w3,e3⟩:=Aj (w2.setCell ⟨hb,10,N⟩ (D (p_ h)));have hx3:∀b,b≠hb->w3.heap[b]?=w2.heap[b]?:=λb e=>by rw[←e3];exact Dm w2 ⟨hb,10,N⟩ _ b e
 have HD3:Hd (w3.heap[hb]?=M (O (bdO hs r (D (p_ h)) vm) 133 (0,0))):=by show _=_;rw[←e3,jB wt.o];rfl
 have HZ3:Hd (w3.heap.size=w2.heap.size):=by show _=_;rw[←e3];simp
 have G5:Hd (w3.heap[h]?=_):=(hx3 h qg).trans lz.o;have HP3:=Ab (uq.o.same (hx3 mb qg));have ia:Hd (Below W0.heap.size w w3):=by show Below _ _ _;rw[←e3];exact(dy.o.mono gh).setCell (p:=⟨hb,10,N⟩) HK.o.lb.1 _
 rw[e3];clear e3 y10 yf;have y10:=cK HD3.o 10;obtain⟨⟨m0,m1,m2,m3,m4,m5⟩,mf⟩:=Sv G5.o
 go_upto_region 5 with fail
 obtain⟨w4,e4⟩:=Aj (w3.setCell ⟨h,5,N⟩ (.func (.func 98) #[D (p_ hb)] #[]));have hx4:∀b,b≠h->w4.heap[b]?=w3.heap[b]?:=λb e=>by rw[←e4];exact Dm w3 ⟨h,5,N⟩ _ b e
 have HM4:Hd (w4.heap[h]?=M (O #[J sa ss.length c1,J ta ts.length c2,.map (M mb),nS,nS,.func (.func 98) #[D (p_ hb)] #[]] 165 (0,0))):=by show _=_;rw[←e4,jB G5.o];rfl
 have HZ4:Hd (w4.heap.size=w3.heap.size):=by show _=_;rw[←e4];simp
 have HD4:Hd (w4.heap[hb]?=_):=(hx4 hb qg).trans HD3.o;have HP4:=Ab (HP3.o.same (hx4 mb qg));have ox:Hd (Below W0.heap.size w w4):=by show Below _ _ _;rw[←e4];exact ia.o.setCell (p:=⟨h,5,N⟩) (show W0.heap.size<=h from qg) _
 have hm4:=HP4.o.lt;rw[e4];clear e4 y10 m0 m1 m2 m3 m4 m5 mf;obtain⟨w5,e5⟩:=Aj (w4.alloc (.map #[] 0));have co:Bw w4 w5:=qeq;obtain⟨sb,esb⟩:=Aj w4.heap.size;have HSN5:Hd (Kq w5 sb 0 (λ_ _=>N)):=by show Kq _ _ _ _;rw[←e5,←esb];exact Kq.made w4
 have HD5:=Ab (Ac co HD4.o);have S5:=Ab (Ac co HM4.o);have HP5:=Ab (HP4.o.same (co.block _ HP4.o.lt));have HZ5:Hd (w5.heap.size=w4.heap.size+1):=by show _=_;rw[←e5];simp
 have y11:=cK HD5.o 11;have yf:=λj=>fH HD5.o j;have hhl:=Ag S5.o;have hmm4:(Instr.makeMap 131 N).run prog w4=.ok (.map (M sb)) w5:=by rw[hmm,e5,esb]
 clear hmm
 go_upto_region 6 with fail
 obtain⟨w6,e6⟩:=Aj (w5.setCell ⟨hb,11,N⟩ (.map (M sb)));have hx6:∀b,b≠hb->w6.heap[b]?=w5.heap[b]?:=λb e=>by rw[←e6];exact Dm w5 ⟨hb,11,N⟩ _ b e
 have HD6:Hd (w6.heap[hb]?=M (O (bdO hs r (D (p_ h)) (.map (M sb))) 133 (0,0))):=by show _=_;rw[←e6,jB HD5.o];rfl
 have R6:Hd (w6.heap.size=w5.heap.size):=by show _=_;rw[←e6];simp
 have HM6:Hd (w6.heap[h]?=_):=(hx6 h qg).trans S5.o;have HP6:=Ab (HP5.o.same (hx6 mb qg));have HSN6:=Ab (HSN5.o.same (hx6 sb qg));have ni:Hd (Below W0.heap.size w w6):=by show Below _ _ _;rw[←e6];exact(ox.o.trans (co.mono (zo ox.o.size))).setCell (p:=⟨hb,11,N⟩) HK.o.lb.1 _
 rw[e6];clear e6 y11 yf hmm4 e5
 have it:∀b,b<w.heap.size->b≠hb->w6.heap[b]?=w.heap[b]?:=λb h1 h2=>by
  rw[hx6 b h2,co.block b qg,hx4 b qg,hx3 b h2,dy.o.block b h1]
 have hhsb:hs≠hb:=λe=>by have q:=HK.o.sh;rw[e,HK.o.bd]at q;injection q with q;injection q with _ q;exact absurd q qh
 have HSH6:=Ab ((it hs hhs hhsb).trans HK.o.sh);have y0:=cK HD6.o 0;have v2:w6.cell? ⟨hs,2,N⟩=M (J qa mR qc):=by rw[cH HSH6.o,←EMR.o,←EQV.o];rfl
 obtain⟨i0,zr,bq,bi,ci⟩:=info_parts Tryz.info4b
 go_upto_region 7 with(at_make;refine wpList_make_full _ rfl (.tmp 37) (.tmp 37) 58 rfl w6.heap.size 4 i0 (F false) 1 underlying58 zr bq bi .i64 .i64 _ _ mR rfl rfl rfl rfl qaq qq (Nat.le_refl _) ?_;intro w7 d9 hgrow7;have bo:Bw w6 w7:=((Below.refl _ _).grown hgrow7 (Nat.le_refl _) qi);have O4:Hd (w7.heap[hb]?=M (O (bdO hs r (D (p_ h)) (.map (M sb))) 133 (0,0))):=(Ac bo HD6.o);have y12:w7.cell? ⟨hb,12,N⟩=M r.dv:=(by rw[cH O4.o];rfl);have y12f:∀j,w7.frozen? ⟨hb,j,N⟩=false:=(λj=>fH O4.o j))
 rw[Pn]at d9;obtain⟨w8,e8⟩:=Aj (w7.setCell ⟨hb,12,N⟩ (J (p_ w6.heap.size) mR mR));obtain⟨nd,end_⟩:=Aj (Value.slice (p_ w6.heap.size) mR mR);have hx8:∀b,b≠hb->w8.heap[b]?=w7.heap[b]?:=λb e=>by rw[←e8];exact Dm w7 ⟨hb,12,N⟩ _ b e
 have hD8:w8.heap[hb]?=M (O (Ul ⟨hb,hs,sb,n⟩ h ⟨r.tx,r.su,r.qv,r.nv,r.ev,r.uv,nd,0⟩) 133 (0,0)):=by rw[←e8,jB O4.o,←end_];rfl
 have hz3:=HZ3.o;have hz4:=HZ4.o;have hz5:=HZ5.o;have hz6:=R6.o;have hw6:w.heap.size<=w6.heap.size:=zo dy.o.size;have n8:∀b,b<w.heap.size->b≠hb->w8.heap[b]?=w.heap[b]?:=λb h1 h2=>by rw[hx8 b h2,bo.block b qg,it b h1 h2]
 have hM8:=(hx8 h qg).trans ((bo.block h (Ag HM6.o)).trans HM6.o);have hP8:=(HP6.o.same (bo.block mb HP6.o.lt)).same (hx8 mb qg);have lx:=(HSN6.o.same (bo.block sb HSN6.o.lt)).same (hx8 sb qg)
 have hN8:w8.ownsRow w.heap.size 4 1 nd s.R.length ((List.replicate s.R.length false).map .bool):=by
  rw[EMR.o,←end_];have:=Ah d9 hw6;exact An this λb q=>hx8 b (λe=>by obtain⟨cs,c1⟩:=Bd this b q;have o:=O4.o;rw[←e,c1]at o;injection o with o;injection o with _ o;exact absurd o qh)
 have hR8:w8.heap[w.heap.size+1]?=M (O #[I 0,ze,nS] 65 (0,0)):=by
  rw[hx8 _ qg,bo.block _ qg,hx6 _ qg,co.block _ qg,hx4 _ qg,hx3 _ qg];exact pj.o
 have mr:Lu W0.heap.size h mb ⟨hb,hs,sb,n⟩ (J sa ss.length c1) (J ta ts.length c2) ss ts w8 [] [] nS nS (λ_=>nS) s ⟨r.tx,r.su,r.qv,r.nv,r.ev,r.uv,nd,0⟩:=Xw.fresh HK.o n8 gh hD8 qg qg qg qg hM8 hP8 lx hN8;have hpre:Fq ss ts n [] s [] 0 0:=⟨Gs.nil ss ts,ke.o,Nat.zero_le _,by unfold cntO;have:=HEM.o;simp only[List.length_nil];omega,Nat.zero_le _⟩
 have hb08:Below W0.heap.size w w8:=by
  rw[←e8];exact(ni.o.trans (bo.mono qg)).setCell (p:=⟨hb,12,N⟩) HK.o.lb.1 _
 rw[e8];clear e8 hx8 hx6 hx4 hx3 co it O4 HD6 HM6 HP6 HSN6 HD5 S5 HP5 HSN5 HD4 HM4 HP4 HD3 G5 HP3 wt lz uq HSH6 d9 hgrow7 y12 y12f y0 v2 bo hN8 hM8 hP8 lx pj dy;have gk:=Ab mr;have HR8:=Ab hR8;have wn:=Ab n8;have B6:=Ab hb08;have HF:=Ab (firstB_any W0 h mb ⟨hb,hs,sb,n⟩ sa ta c1 c2 ss ts nm _ _ _ s _ w8 HEN.o.1 HEN.o.2.1 HEN.o.2.2 je.o mr hpre (HW.o.trans hb08));have y10:=cK hD8 10;clear mr hpre hR8 n8 hb08 hD8;go_wp2_with fail;refine HF.o.mono ?_;have HKEEP:Hd (∀(V:E)(r':Rv),KQ W0.heap.size h mb ⟨hb,hs,sb,n⟩ nS nS ⟨r.tx,r.su,r.qv,r.nv,r.ev,r.uv,nd,0⟩ r' w8 V->∀(b:X)(cs:Array Z)(T:TypeId),TyO T->w.heap[b]?=M (O cs T (0,0))->V.heap[b]?=M (O cs T (0,0))):=λV r' K b cs T hT q=>K.blk gk.o ((wn.o b (Ag q) (λe=>by have o:=HK.o.bd;rw[←e,q]at o;injection o with o;injection o with _ o;exact hT.2.1 o)).trans q) hT;rintro e w9 ⟨ms',s',an,bv,⟨⟨dc,dt,dls⟩,lv,av',kv',vs',r',rfl,rfl,⟨la,ln,lc,rfl⟩,hs9,hk9⟩|⟨b,c,t,ca,cn,cc,r',rfl,rfl,M5,hk9⟩⟩
 ·have G1:Hd (w9.heap[w.heap.size+1]?=_):=hk9.blk gk.o HR8.o qh
  have HX:=Ab (show Az ss ts n [] s [] (.make nm) ms' s' (.ok ⟨dc,dt,dls⟩)/\Below W0.heap.size w w9 from ⟨bv,B6.o.trans hk9.bel⟩);have HKE:=Ab (HKEEP.o _ _ hk9);have mw:=Ab hs9;obtain⟨z0,z1,z2,zf⟩:=Ci G1.o;unfold Ft;dsimp only;clear hk9 bv hs9 y10;go_wp2_with fail;have z8:=Ba G1.o (I dc) (S dt) nS;clear z0 z1 z2 zf;obtain⟨z0,z1,z2,zf⟩:=Ci z8;refine bR (v:=G #[I dc,S dt,nS]) qgy rfl (Or.inr ⟨je.o,Co HX.o.2 qg _ _ _,λb cs T hT q=>by rw[Ea (zo (Ag q))];exact HKE.o b cs T hT q,h,mb,sb,ms',s',_,HX.o.1,Or.inl ⟨⟨dc,dt,dls⟩,av',kv',vs',r',rfl,rfl,mw.o.set3 G1.o qh _ _ _⟩⟩)
 ·have G1:Hd (w9.heap[w.heap.size+1]?=_):=hk9.blk gk.o HR8.o qh
  have HX:=Ab (show Az ss ts n [] s [] (.make nm) ms' s' (.bad b)/\Below W0.heap.size w w9/\Dj W0.heap.size ⟨hb,hs,sb,n⟩ w9 b (G #[I c,S t,J ca cn cc]) from ⟨bv,B6.o.trans hk9.bel,M5⟩);have HKE:=Ab (HKEEP.o _ _ hk9);obtain⟨z0,z1,z2,zf⟩:=Ci G1.o;clear hk9 bv M5 y10;go_wp2_with fail;have z8:=Ba G1.o (I c) (S t) (J ca cn cc);clear z0 z1 z2 zf;obtain⟨z0,z1,z2,zf⟩:=Ci z8;refine bR (v:=G #[I c,S t,J ca cn cc]) qgy rfl (Or.inr ⟨je.o,Co HX.o.2.1 qg _ _ _,λb cs T hT q=>by rw[Ea (zo (Ag q))];exact HKE.o b cs T hT q,h,mb,sb,ms',s',_,HX.o.1,Or.inr ⟨b,c,t,ca,cn,cc,rfl,rfl,HX.o.2.2.kept (Ea (show hb≠w.heap.size+1 from qg) _ _ _) (λb' cur q=>Ea (λe=>by subst e;have q2:=G1.o;rw[q]at q2;injection q2 with q2;injection q2 with _ q2;exact absurd q2 qh) _ _ _)⟩⟩)
end Go.Proofs.YtnflkpmmfpfhlaaGreatDoor
