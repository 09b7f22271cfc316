import Derived.Test.YtbkkjodaaijimaaGreatDoorBuE
import Derived.Test.YtbkkjodaaijimaaGreatDoorBuH
import Derived.Test.YtbkkjodaaijimaaGreatDoorBuJ
import Derived.Test.YtbkkjodaaijimaaGreatDoorBuL
import Derived.Test.YtbkkjodaaijimaaGreatDoorBuQ
namespace Go.Proofs.YtbkkjodaaijimaaGreatDoor
open _root_.Go.Proofs.Tryz Go.RowKit Go.Deep
open Value renaming slice->J,string->S,bool->F,agg->G,pointer->D,tuple->Y
open Option renaming some->M,none->N
open Obj renaming cells->O
open Go renaming Value->Z,World->E
open Ending renaming returned->H
open _root_ renaming List->L,Nat->X
set_option linter.unusedVariables false
set_option linter.unusedSimpArgs false
set_option maxHeartbeats 8000000
set_option maxRecDepth 100000
variable {W0 w wr w':E} {h i B:X} {C:Gg} {sv tv av kv:Z} {ss:L S2} {ts:L T2} {ms ms1:Mm} {s s1:Sb} {st:L By} {r:Rv} {is:L I3} {a:Option Addr} {b:Hm}
structure TkI (W0:E) (h mb:X) (C:Gg) (sv tv:Z) (ss:L S2) (ts:L T2) (w:E) (ms:Mm) (s:Sb) (st:L By) (av kv:Z) (r:Rv) (is:L I3) (a:Option Addr) (cap i:X) (wr:E) (ms1:Mm) (s1:Sb) (av1 kv1:Z) (vs1:By->Z) (r1:Rv):Prop where
 dd:∀br s2 b,Bc ss ts C.n ms1 s1 st (.tri is i s.R.length) br s2 b->Bc ss ts C.n ms s st (.tri is 0 s.R.length) br s2 b
 pre:Fd ss ts C.n ms1 s1 st r1.sn (200*(s.R.length-i))
 sn:r1.sn+400200*Db ts ms st<=r.sn+200*i+400200*Db ts ms1 st
 bs:Iw W0.heap.size h mb C sv tv ss ts wr ms1 st av1 kv1 vs1 s1 r1
 kq:KQ W0.heap.size h mb C av kv r r1 w wr
 ra:An w av av1
 rk:An w kv kv1
 rx:∃rr,s1.R=s.R++rr
 ab:wr.heap[w.heap.size]?=M (O #[J a is.length cap] 91 (0,0))
 rb:wr.heap[w.heap.size+1]?=M (O #[I 0,ze,nS] 120 (0,0))
theorem TkI.bl{mb:X}{cap:X}{av1 kv1:Z}{vs1:By->Z}{r1:Rv}(q:TkI W0 h mb C sv tv ss ts w ms s st av kv r is a cap i wr ms1 s1 av1 kv1 vs1 r1)(hb:Bw wr w')(hB:W0.heap.size<=wr.heap.size):TkI W0 h mb C sv tv ss ts w ms s st av kv r is a cap i w' ms1 s1 av1 kv1 vs1 r1:=
 ⟨q.dd,q.pre,q.sn,q.bs.bl hb,q.kq.after q.ra q.rk q.bs hb hB,q.ra,q.rk,q.rx,Ad hb q.ab,Ad hb q.rb⟩
theorem Yi{R rr:L T3}(h:i<R.length):qx (R++rr) i=qx R i:=by
 exact qlt
structure HoI (W0:E) (h mb:X) (C:Gg) (sv tv:Z) (ss:L S2) (ts:L T2) (w:E) (ms:Mm) (s:Sb) (st:L By) (av kv:Z) (r:Rv) (is:L I3) (a:Option Addr) (cap i:X) (ms1:Mm) (s1:Sb) (ls:L G3) (P AM ml:X) (pv lv:Z) (ot:By) (rc:Int) (rt:By) (zs:L Z) (k:X) (wr:E) (br:Mm) (s2:Sb) (av2 kv2:Z) (vs2:By->Z) (r2:Rv):Prop where
 dd:∀j9 s3 b,Bc ss ts C.n br s2 st (.holds ls k) j9 s3 b->Bc ss ts C.n ms1 s1 st (.holds ls 0) j9 s3 b
 eq:Eqs ss ts C.n br ls k
 pre:Fd ss ts C.n br s2 st r2.sn (200*(s.R.length-i)-k)
 sn:r2.sn+400200*Db ts ms st<=r.sn+200*i+k+400200*Db ts br st
 bs:Iw W0.heap.size h mb C sv tv ss ts wr br st av2 kv2 vs2 s2 r2
 kq:KQ W0.heap.size h mb C av kv r r2 w wr
 ra:An w av av2
 rk:An w kv kv2
 rx:∃rr,s2.R=s.R++rr
 ab:wr.heap[w.heap.size]?=M (O #[J a is.length cap] 91 (0,0))
 rb:wr.heap[w.heap.size+1]?=M (O #[I 0,ze,nS] 120 (0,0))
 pb:wr.heap[P]?=M (O #[pv,lv,S ot] 94 (0,0))
 fp:Fre h mb C av2 kv2 r2 P
 xb:wr.heap[AM]?=M (O #[I rc,S rt,nS] 120 (0,0))
 lr:wr.ownsRow W0.heap.size 145 3 lv ml zs
theorem HoI.kq2{mb:X}{cap:X}{ls:L G3}{P AM ml:X}{pv lv:Z}{ot:By}{rc:Int}{rt:By}{zs:L Z}{k k':X}{br j9:Mm}{s2 s3:Sb}{av2 kv2 av3 kv3:Z}{vs2 vs3:By->Z}{r2 r3:Rv}(q:HoI W0 h mb C sv tv ss ts w ms s st av kv r is a cap i ms1 s1 ls P AM ml pv lv ot rc rt zs k wr br s2 av2 kv2 vs2 r2)(K:KQ W0.heap.size h mb C av2 kv2 r2 r3 wr w')(ha:An wr av2 av3)(hk:An wr kv2 kv3)(b3:Iw W0.heap.size h mb C sv tv ss ts w' j9 st av3 kv3 vs3 s3 r3)(dd:∀ms4 s4 b,Bc ss ts C.n j9 s3 st (.holds ls k') ms4 s4 b->Bc ss ts C.n ms1 s1 st (.holds ls 0) ms4 s4 b)(eq:Eqs ss ts C.n j9 ls k')(pre:Fd ss ts C.n j9 s3 st r3.sn (200*(s.R.length-i)-k'))(sn:r3.sn+400200*Db ts ms st<=r.sn+200*i+k'+400200*Db ts j9 st)(rx:∃rr,s3.R=s.R++rr):HoI W0 h mb C sv tv ss ts w ms s st av kv r is a cap i ms1 s1 ls P AM ml pv lv ot rc rt zs k' w' j9 s3 av3 kv3 vs3 r3:=
 ⟨dd,eq,pre,sn,b3,q.kq.trans q.ra q.rk q.bs K,q.ra.trans q.kq.bel.size ha,q.rk.trans q.kq.bel.size hk,rx,K.blk q.bs q.ab qd,K.blk q.bs q.rb qd,K.keepF q.pb q.fp,K.fre ha hk (Ag q.pb) q.fp,K.blk q.bs q.xb qd,K.ownK q.bs q.lr qd⟩
theorem take_any(W0:E)(h mb:X)(C:Gg)(sa ta:Option Addr)(c1 c2:X)(ss:L S2)(ts:L T2)(hE:Hn W0 sa ta ss ts)(st:L By)(hU:Gb W0 h mb C (J sa ss.length c1) (J ta ts.length c2) ss ts st)(ms:Mm)(s:Sb)(av kv:Z)(vs:By->Z)(r:Rv)(a:Option Addr)(cap:X)(is:L I3)(w:E)(q:Iw W0.heap.size h mb C (J sa ss.length c1) (J ta ts.length c2) ss ts w ms st av kv vs s r)(hp:Fd ss ts C.n ms s st r.sn (200*s.R.length))(hW:Bw W0 w)(hr:Bu W0 a is)(zq:is.length<=200):Calls prog 145 #[D (p_ C.hb),G #[J a is.length cap]] w λe w'=>TakeB W0.heap.size h mb C (J sa ss.length c1) (J ta ts.length c2) ss ts ms s st av kv r is w e w':=by
 have fy:=hW.size;obtain⟨W,eW⟩:=Aj ((w.alloc (O #[J a is.length cap] 91)).alloc (O #[I 0,ze,nS] 120));have bn:Bw w W:=qbo
 have HAB:Hd (W.heap[w.heap.size]?=M (O #[J a is.length cap] 91 (0,0))):=by
  exact qdk
 have jv:Hd (W.heap[w.heap.size+1]?=M (O #[I 0,ze,nS] 120 (0,0))):=by
  show _=_;rw[<- eW];have:=Hc (w.alloc (O #[J a is.length cap] 91)) (O #[I 0,ze,nS] 120)
  rwa [show(w.alloc (O #[J a is.length cap] 91)).heap.size=w.heap.size+1 from qg]at this
 have HQ:=Ac q;have yo:=Ac (q.bl bn);have HI0:Hd (TkI W0 h mb C (J sa ss.length c1) (J ta ts.length c2) ss ts w ms s st av kv r is a cap 0 W ms s av kv vs r):=⟨λ_ _ _ k=>k,hp,qb,yo.o,KQ.of_below q bn fy,An.refl _ _,An.refl _ _,⟨[],qg⟩,HAB.o,jv.o⟩;obtain⟨zs,cv,lv,qr⟩:=q.rs.qs;obtain⟨qa,qc,eqv⟩:=Ay qr.row;obtain⟨y0,-,-,-,-,-,-,-,-,-,y2,-⟩:=yo.o.rs.cellsB;rw[eqv]at y2;obtain⟨m,em⟩:=Aj s.R.length;rw[em]at y2 eqv;have EQV:=Ac eqv;have EM:=Ac em;have rd:m<=2000:=by rw[←em];exact hp.ok.2.1
 have HE:=Ac hE;have HW:=Ac hW;have HU:=Ac hU;have HRW:=Ac hr;clear q hp hW hr hE hU bn qr eqv yo em;go_enter func145,ntmps145;go_wp2_with fail;refine wp_scope_straight (wp_seq (wp_label ?_));simp only[Exit.then];go_wp2_with fail;clear eW y0 y2
 go_loopw [23] (λv wr=>∃(i:X)(ms1:Mm)(s1:Sb)(av1 kv1:Z)(vs1:By->Z)(r1:Rv),i<=m/\v=I i/\Hd (TkI W0 h mb C (J sa ss.length c1) (J ta ts.length c2) ss ts w ms s st av kv r is a cap i wr ms1 s1 av1 kv1 vs1 r1)) (λi _=>m-(intOf i).toNat)
 case atStart=>exact⟨0,ms,s,av,kv,vs,r,Nat.zero_le _,rfl,HI0⟩
 case round=>
  clear HI0 HAB jv;obtain⟨i,ms1,s1,av1,kv1,vs1,r1,hi,rfl,HI⟩:=hrel;have hwr:=HI.o.kq.bel.size
  by_cases aj:i<m
  rotate_left 1
  ·have io:¬ (i:Int)<(m:Int):=qb
   have HY:=Ac (HI.o.dd _ _ _ (.tend (ss:=ss) (ts:=ts) (n:=C.n) (ms:=ms1) (s:=s1) (st:=st) (is:=is) (i:=i) (m:=s.R.length) qca));obtain⟨z0,z1,z2,zf⟩:=Dw HI.o.rb;go_wp2_with fail;obtain⟨y0,y1,y2,_⟩:=Dw (Bn HI.o.rb (I 0) ze nS);refine bR (v:=Y #[G #[I 0,ze,nS],F false]) (by simp[results,results145,go_sem,y0,y1,y2]) rfl (Or.inl ⟨ms1,s1,av1,kv1,vs1,r1,Or.inr ⟨HY.o,rfl⟩,HI.o.bs.set3 HI.o.rb qd _ _ _,HI.o.kq.set3 qb qb _ _ _,HI.o.ra,HI.o.rk,?_⟩);have:=HI.o.sn;have:=EM.o;have hi2:i<=s.R.length:=qb;omega
  have io:(i:Int)<(m:Int):=qb;have iy:(0:Int)<=(i:Int):=qb;have hiR:i<s.R.length:=qbz;obtain⟨rr,err⟩:=HI.o.rx;(have hqx:qx s1.R i=qx s.R i:=by rw[err];exact Yi hiR);(have hi1:i<s1.R.length:=by rw[err,List.length_append];omega);obtain⟨g,cp,ca,cc,la,lc,eq2,g1,g2,g3,ve,zs,l1,l2⟩:=HI.o.kq.recAt HQ.o hiR;rw[EQV.o,EM.o]at eq2
  obtain⟨rfl,rfl⟩:qa=p_ g/\qc=cp:=by
   simp only[Value.slice.injEq,true_and]at eq2;exact eq2
  have mw:=Ac (HI.o.pre.ok.2.2 i hi1);have mo:Hd (Us C.n s1 is i↔((qx s1.R i).code=is/\Yh (Lq C.n s1.T (qx s1.R i).out))):=Iff.rfl;have Z3:Hd (¬ Us C.n s1 is i->∀br s2 b,Bc ss ts C.n ms1 s1 st (.tri is (i+1) s.R.length) br s2 b->Bc ss ts C.n ms s st (.tri is 0 s.R.length) br s2 b):=λq1 br s2 b q2=>HI.o.dd _ _ _ (.tother hiR q1 q2);have ue:Hd (Us C.n s1 is i->∀br s2,Bc ss ts C.n ms1 s1 st (.holds (qx s1.R i).looks 0) br s2 .yes->Bc ss ts C.n ms s st (.tri is 0 s.R.length) br s2 (.hit (rdC (Lq C.n s1.T (qx s1.R i).out)) (rdT (Lq C.n s1.T (qx s1.R i).out)))):=λq1 br s2 q2=>HI.o.dd _ _ _ (.thit hiR q1 q2);have im:Hd (Us C.n s1 is i->∀br s2,Bc ss ts C.n ms1 s1 st (.holds (qx s1.R i).looks 0) br s2 .no->∀j9 s3 b,Bc ss ts C.n br s2 st (.tri is (i+1) s.R.length) j9 s3 b->Bc ss ts C.n ms s st (.tri is 0 s.R.length) j9 s3 b):=λq1 br s2 q2 j9 s3 b q3=>HI.o.dd _ _ _ (.tno hiR q1 q2 q3);have uk:Hd (Us C.n s1 is i->∀br s2 b,Bc ss ts C.n ms1 s1 st (.holds (qx s1.R i).looks 0) br s2 (.bad b)->Bc ss ts C.n ms s st (.tri is 0 s.R.length) br s2 (.bad b)):=λq1 br s2 b q2=>HI.o.dd _ _ _ (.tbad hiR q1 q2);obtain⟨dg,dcp,db,edv,hdc,hdn,hdf⟩:=HI.o.bs.dfAt hi1;have HDN:Hd (db=true->NoH ss ts C.n ms1 (qx s1.R i).looks):=hdn
  have xr:Hd (∀V:E,Bw wr V->¬ Us C.n s1 is i\/NoH ss ts C.n ms1 (qx s1.R i).looks->TkI W0 h mb C (J sa ss.length c1) (J ta ts.length c2) ss ts w ms s st av kv r is a cap (i+1) V ms1 s1 av1 kv1 vs1 r1):=λV hV hA=>by
   have q:=HI.o.bl hV qb;refine⟨λbr s2 b k=>?_,q.pre.le qb,by have:=q.sn;omega,q.bs,q.kq,q.ra,q.rk,q.rx,q.ab,q.rb⟩
   by_cases J5:Us C.n s1 is i
   ·rcases hA with hA|hA
    ·exact absurd J5 hA
    ·exact im.o J5 ms1 s1 (hA.bld s1 st) _ _ _ k
   ·exact Z3.o J5 _ _ _ k
  rw[←hqx]at g1 g2 g3 ve l1 l2;obtain⟨cd,ls,ot,erx⟩:∃x y z,qx s1.R i=⟨x,y,z⟩:=⟨_,_,_,rfl⟩;rw[erx]at g1 g2 g3 ve l1 l2 mw mo ue im uk HDN xr;dsimp only at g1 g2 g3 ve l1 l2 mw mo ue im uk HDN xr;have R6:=Ac l1;have R5:=Ac l2;have gz:=Ac ve;have HQX:=Ac erx;have HI1:=Ac hi1;have hcdl:cd.length<=200:=(La mw.o.1).2;clear l1 l2 ve erx hqx err hdn Z3;obtain⟨P,eP⟩:=Aj wr.heap.size;obtain⟨wC,eWC⟩:=Aj (wr.alloc (O #[J ca cd.length cc,J la ls.length lc,S ot] 94));have pu:=aB eWC;have uj:=Ac pu;have D9:=Ac (nW eWC eP);have HIC:=Ac (HI.o.bl pu qb);have HFP:Hd (Fre h mb C av1 kv1 r1 P):=HI.o.bs.fresh qb;(have hPw:w.heap.size+1<P:=by rw[←eP];exact Ag HI.o.rb);obtain⟨d0,d1,d2⟩:=Bd D9.o;obtain⟨y0,-,-,-,-,-,y6,-⟩:=HIC.o.bs.rs.cellsB;rw[edv]at y6;have p0:=Ie HIC.o.ab;have hdc':=Aa pu hdc;have hiI:(i:Int)<(s1.R.length:Int):=qb;clear pu hdc hdf edv;have HDC:=Ac hdc';have HHB:=Ac y0
  cases db with
  | true=>
    have od:=Ac (xr.o wC uj.o (Or.inr (HDN.o rfl)))
    go_upto_region 4 with fail
    clear eWC g1 g2 g3 xr mo ue im uk HDN mw R6 R5 gz HQX D9 HIC HFP d0 d1 d2 p0
    go_upto_region 16 with fail
    clear y0 y6 hdc';go_wp2_with fail;exact⟨⟨i+1,ms1,s1,av1,kv1,vs1,r1,qb,qj,od.o⟩,qaj⟩
  | false=>
    go_upto_region 4 with fail
    clear eWC g1 g2 g3;go_wp2_with fail;clear d0 d1 d2 p0 y0 y6 hdc';refine(equal_any ca a cc cap cd is wC (gz.o.bl uj.o) (HRW.o.bl (HW.o.trans HIC.o.kq.bel)) qb qb).mono ?_;rintro e w1 ⟨af,bb,rfl,X1⟩;have HBI:=Ac X1;have ff:=Ac (Ba uj.o af);have HI1C:=Ac (HIC.o.bl af (zo uj.o.size));have jr:=Ac (Ad af D9.o);have hP1:P<w1.heap.size:=Ag jr.o;clear af X1 gz
    cases bb with
    | false=>
      (have Z8:Hd (¬ Us C.n s1 is i):=λq=>by have:=HBI.o.2 (mo.o.1 q).1;cases this);have od:=Ac (xr.o w1 ff.o (Or.inl Z8.o));clear HBI xr mo ue im uk HDN mw R6 R5 HQX D9 HIC HFP HI1C jr Z8;exact qjx
    | true=>
      have K4:Hd (cd=is):=HBI.o.1 rfl;clear HBI;obtain⟨U,eU⟩:=Aj w1.drew;have bm:Bw w1 U:=qay;have ry:=Ac (Ba ff.o bm);have HIU:=Ac (HI1C.o.bl bm (zo ff.o.size));have Z1:=Ac (Ad bm jr.o);obtain⟨-,-,d2⟩:=Bd Z1.o;obtain⟨y0,-⟩:=HIU.o.bs.rs.cellsB;have HG:=Ac (HIU.o.bs.get HIU.o.pre.ok ot);clear bm HI1C jr
      go_upto_region 5 with fail
      refine Lt.begin 99 (λw'=>w'=U) qi ?_;rw[eU];clear eU;have hS:U=U:=rfl;change K 0 _
      iterate 6
       refine Lt.ti (v:=?_) hS ?_ ?_;rotate_left 1
       ·rintro w rfl
        exact qaw
       simp only[gX]
      refine Lt.sp (i:=6) (λK hK=>?_);go_simp;refine HG.o.mono ?_;rintro e w2 ⟨E7,A,ok,rfl,hA,hAs⟩;subst E7;have EA:=Ac hA;clear hA;refine hK.out _ _ (λ_=>hS) (λ_=>?_);clear hK K 
      try simp only[gX]
      change K 7 _
      iterate 5
       refine Lt.ti (v:=?_) hS ?_ ?_;rotate_left 1
       ·rintro w rfl
        exact qaw
       simp only[gX]
      refine Lt.done qi ?_ _;clear y0 d2 HG hS;go_wp2_with fail;refine(Zf A _ hAs).mono ?_;rintro e w3 ⟨ba,⟨P8,rfl⟩|⟨P8,rfl⟩⟩;rotate_left 1
      ·have Z8:Hd (¬ Us C.n s1 is i):=λq=>P8 (by rw[EA.o];exact(mo.o.1 q).2)
       have od:=Ac (xr.o _ (Ba ry.o (Ba ba (Ai w3 (O #[I 0,ze,nS] 120)))) (Or.inl Z8.o));clear xr mo ue im uk HDN mw R6 R5 HQX D9 HIC HFP HIU Z1 Z8 P8 ba EA;exact qjx
      have HAP:Hd (Us C.n s1 is i):=mo.o.2 ⟨K4.o,by rw[←EA.o];exact P8⟩;obtain⟨rc,erc⟩:=Aj (rdC A);obtain⟨rt,ert⟩:=Aj (rdT A);have EA2:Hd (Lq C.n s1.T ot=A/\rdC A=rc/\rdT A=rt):=⟨EA.o.symm,erc,ert⟩;rw[erc,ert];clear erc ert hAs EA
      go_upto_region 8 with fail
      obtain⟨w4,e4⟩:=Aj (w3.alloc (O #[I rc,S rt,nS] 120));rw[e4];have co:=aB e4;(have HXB:Hd (w4.heap[w3.heap.size]?=M (O #[I rc,S rt,nS] 120 (0,0))):=by show _=_;rw[←e4];exact Hc _ _);have hb34:=Ba ba co;have wh:=Ac (Ba ry.o hb34);have HI4:=Ac (HIU.o.bl hb34 (zo ry.o.size));have HP4:=Ac (Ad hb34 Z1.o);have t6:=Ac (Ab R6.o wh.o);(have hPX:P<w3.heap.size:=by have:=Ag Z1.o;have:=ba.size;omega);obtain⟨-,d1,-⟩:=Bd HP4.o;have HHIT2:=Ac (ue.o HAP.o);have O4:=Ac (im.o HAP.o);have HBAD2:=Ac (uk.o HAP.o);rw[EA2.o.1,EA2.o.2.1,EA2.o.2.2]at HHIT2;clear P8 ba co hb34 EA2 ue im uk mo Z1 HIU D9 HIC R6 ry ff uj K4 HDN e4;obtain⟨ml,eml⟩:=Aj ls.length;have EML:=Ac eml;(have pn:ml<=200:=by rw[←eml];exact mw.o.2.2.1);rw[eml]at d1 HP4 t6 ⊢;clear eml;obtain⟨AM,eX⟩:=Aj w3.heap.size;rw[eX]at HXB hPX ⊢;clear eX;go_wp2_with fail;clear d1;have HH0:Hd (HoI W0 h mb C (J sa ss.length c1) (J ta ts.length c2) ss ts w ms s st av kv r is a cap i ms1 s1 ls P AM ml (J ca cd.length cc) (J la ml lc) ot rc rt zs 0 w4 ms1 s1 av1 kv1 vs1 r1):=⟨λ_ _ _ k=>k,(λj hj=>qb),HI4.o.pre,by have:=HI4.o.sn;omega,HI4.o.bs,HI4.o.kq,HI4.o.ra,HI4.o.rk,HI4.o.rx,HI4.o.ab,HI4.o.rb,HP4.o,HFP.o,HXB.o,t6.o⟩;have HGS:Hd (GsOk ls):=⟨mw.o.2.2.1,λj hj=>(mw.o.2.2.2 j hj).1⟩;clear HI4 HP4 t6 HXB HFP mw wh xr HAP
      go_loopw [64] (λv wx=>∃(k:X)(br:Mm)(s2:Sb)(av2 kv2:Z)(vs2:By->Z)(r2:Rv),k<=ml/\v=I k/\Hd (HoI W0 h mb C (J sa ss.length c1) (J ta ts.length c2) ss ts w ms s st av kv r is a cap i ms1 s1 ls P AM ml (J ca cd.length cc) (J la ml lc) ot rc rt zs k wx br s2 av2 kv2 vs2 r2)) (λv _=>ml-(intOf v).toNat)
      case atStart=>exact⟨0,ms1,s1,av1,kv1,vs1,r1,Nat.zero_le _,rfl,HH0⟩
      case round=>
       clear HH0;obtain⟨k,br,s2,av2,kv2,vs2,r2,hk,rfl,HH⟩:=hrel;have hwx:=HH.o.kq.bel.size;obtain⟨rr2,err2⟩:=HH.o.rx;(have hi2:i<s2.R.length:=by rw[err2,List.length_append];have:=EM.o;omega);have E0:=Ac hi2
       by_cases oa:k<ml
       rotate_left 1
       ·have hkJ:¬ (k:Int)<(ml:Int):=qb
        have HY:=Ac (HHIT2.o _ _ (HH.o.dd _ _ _ (.hend (ss:=ss) (ts:=ts) (n:=C.n) (ms:=br) (s:=s2) (st:=st) (gs:=ls) (k:=k) (by rw[EML.o];omega))));obtain⟨ug,ucp,ub,eu,hu,huf⟩:=HH.o.bs.usAt hi2;obtain⟨-,-,-,y3,-⟩:=HH.o.bs.rs.cellsB;rw[eu]at y3;have hiI2:(i:Int)<(s2.R.length:Int):=qb;obtain⟨sU,kU⟩:=HH.o.bs.setUs eu hi2;have xU:=kU.blk HH.o.bs HH.o.xb qd;have rU:=kU.blk HH.o.bs HH.o.rb qd;have kqU:=HH.o.kq.trans HH.o.ra HH.o.rk HH.o.bs kU;have HZ:Hd (Iw W0.heap.size h mb C (J sa ss.length c1) (J ta ts.length c2) ss ts (wr.setCell ⟨ug,i,N⟩ (F true)) br st av2 kv2 vs2 s2 r2/\KQ W0.heap.size h mb C av kv r r2 w (wr.setCell ⟨ug,i,N⟩ (F true))/\(wr.setCell ⟨ug,i,N⟩ (F true)).heap[w.heap.size+1]?=M (O #[I 0,ze,nS] 120 (0,0))):=⟨sU,kqU,rU⟩;obtain⟨x0,x1,x2,-⟩:=Dw xU;obtain⟨q0,q1,q2,qf⟩:=Dw rU;clear sU kU xU rU kqU eu err2;go_wp2_with fail;obtain⟨v0,v1,v2,_⟩:=Dw (Bn HZ.o.2.2 (I rc) (S rt) nS);refine bR (v:=Y #[G #[I rc,S rt,nS],F true]) (by simp[results,results145,go_sem,v0,v1,v2]) rfl (Or.inl ⟨br,s2,av2,kv2,vs2,r2,Or.inl ⟨rc,rt,HY.o,rfl⟩,HZ.o.1.set3 HZ.o.2.2 qd _ _ _,HZ.o.2.1.set3 qb qb _ _ _,HH.o.ra,HH.o.rk,?_⟩);have h1:=HH.o.sn;have h2:=EM.o;have h3:200*i+200<=200*s.R.length:=qb;omega
       have hkJ:(k:Int)<(ml:Int):=qb;have hkJ0:(0:Int)<=(k:Int):=qb;have zm:k<ls.length:=qcq;obtain⟨a2,cc2,e2,F1⟩:=Ha (by rw[EML.o];exact HH.o.lr) R5.o;rw[EML.o]at e2;cases e2;obtain⟨gb,goff,rfl,g1,g2,g3⟩:=F1 k zm;have HNMk:=Ac (HGS.o.2 k zm);obtain⟨x,ex⟩:=Aj ((gx ls k).name);obtain⟨y,ey⟩:=Aj ((gx ls k).ask);obtain⟨z,ez⟩:=Aj ((gx ls k).sum);have EG:Hd ((gx ls k).name=x/\(gx ls k).ask=y/\(gx ls k).sum=z):=⟨ex,ey,ez⟩;(have ox:Hd (Ar x):=by show Ar x;rw[←ex];exact HNMk.o);rw[ex]at g1;rw[ey]at g2;rw[ez]at g3;clear ex ey ez F1 HNMk err2;obtain⟨AH,eG⟩:=Aj wr.heap.size;obtain⟨wG,eWG⟩:=Aj (wr.alloc (O #[S x,F y,S z] 145));have xe:=aB eWG;have P0:=Ac (nW eWG eG);obtain⟨U,eU⟩:=Aj wG.drew;(have bm:Bw wr U:=by rw[←eU];exact xe.drew);(have HGU:Hd (U.heap[AH]?=M (O #[S x,F y,S z] 145 (0,0))):=by show _=_;rw[←eU];exact P0.o);have dp:=Ac (HH.o.bs.bl bm);have jo:=Ac (HH.o.kq.after HH.o.ra HH.o.rk HH.o.bs bm qb);have K7:=Ac (HH.o.kq2 (KQ.of_below HH.o.bs bm qb) (An.refl _ _) (An.refl _ _) dp.o HH.o.dd HH.o.eq HH.o.pre HH.o.sn HH.o.rx);have D2:=Ac (sumAt_any W0 h mb C sa ta c1 c2 ss ts br st av2 kv2 vs2 s2 r2 x y U HE.o dp.o (HW.o.trans jo.o.bel) HU.o (HH.o.pre.le qb) ox.o)
       go_upto_region 11 with fail
       clear eWG g1 g2 g3 xe P0 bm;refine Lt.begin 99 (λw'=>w'.heap[AH]?=M (O #[S x,F y,S z] 145 (0,0))) qi ?_;rw[eU];clear eU;change K 0 _
       iterate 6
        refine Lt.ti (v:=?_) HGU.o ?_ ?_;rotate_left 1
        ·exact qdd
        simp only[gX]
       change K 7 _
       iterate 2
        refine Lt.ti (v:=?_) HGU.o ?_ ?_;rotate_left 1
        ·exact qdd
        simp only[gX]
       refine Lt.sp (i:=6) (λK hK=>?_);go_simp;refine D2.o.mono ?_;rintro e w8 (⟨v,rfl,j9,s3,f,av3,kv3,vs3,r3,rfl,hse,T6,l5,Q5,pp,wn⟩|⟨v,rfl,b,r3,j9,s3,l5,hy8,hf8⟩);rotate_left 1
       ·have uf:Hd (KQ W0.heap.size h mb C av kv r r3 w w8/\Bc ss ts C.n ms s st (.tri is 0 s.R.length) j9 s3 (.bad b)/\Cz W0.heap.size C w8 b v):=⟨jo.o.trans HH.o.ra HH.o.rk dp.o l5,HBAD2.o _ _ _ (HH.o.dd _ _ _ (.haskbad qcq (EG.o.2.1.trans hy8.1) (by rw[EG.o.1];exact hy8.2))),hf8⟩
        clear l5 hy8 hf8;unfold Lb;go_wp2_with fail;exact⟨rfl,Or.inr ⟨b,v,r3,j9,s3,rfl,uf.o.1,uf.o.2.1,uf.o.2.2⟩⟩
       have HG8:Hd (w8.heap[AH]?=M (O #[S x,F y,S z] 145 (0,0))):=l5.blkK dp.o HGU.o qd;obtain⟨I7,C7,hfs⟩:=hse.said HE.o.v HH.o.pre.inv HH.o.pre.ok ox.o;have HSD:Hd (Jc ss ts j9 (gx ls k).name (gx ls k).ask=M f/\Ext br j9):=⟨by rw[EG.o.1,EG.o.2.1];exact I7,C7⟩;have tm:=Ac (hse.pre HE.o.v HH.o.pre ox.o (zo EM.o) wn);have HSE:=Ac hse;have gi:Hd (Iw W0.heap.size h mb C (J sa ss.length c1) (J ta ts.length c2) ss ts w8 j9 st av3 kv3 vs3 s3 r3/\KQ W0.heap.size h mb C av2 kv2 r2 r3 U w8/\An U av2 av3/\An U kv2 kv3/\r3.sn+400200*Db ts br st<=r2.sn+1+400200*Db ts j9 st):=⟨T6,l5,Q5,pp,wn⟩
       have HRX3:Hd (∃rr,s3.R=s.R++rr):=by
        show ∃rr,_
        rcases HSE.o with⟨_,_,e3,_⟩|⟨_,d,hb,_⟩
        ·rw[e3];exact HH.o.rx
        ·obtain⟨q1,e1⟩:=(hb.inv HE.o.v HH.o.pre.inv HH.o.pre.ok ox.o (λb e=>qu)).2.2.1.recs
         obtain⟨q2,e2⟩:=HH.o.rx;exact⟨q2++q1,by rw[e1,e2,List.append_assoc]⟩
       obtain⟨sm,esm⟩:=Aj (Av C.n f);have ESM:=Ac esm;rw[esm];clear I7 C7 hfs hse T6 l5 Q5 pp wn esm;refine hK.out _ _ (λ_=>HG8.o) (λ_=>?_);clear hK K 
       try simp only[gX]
       by_cases hq:sm=z
       ·have dq:=Dg hq
        refine Lt.ti (i:=9) (v:=?_) HG8.o ?_ ?_;rotate_left 1
        ·exact qdd
        simp only[gX];refine Lt.done qi ?_ _;have HQE:=Ac hq;clear dq hq;go_wp2_with fail;refine⟨⟨k+1,j9,s3,av3,kv3,vs3,r3,qb,qj,K7.o.kq2 gi.o.2.1 gi.o.2.2.1 gi.o.2.2.2.1 gi.o.1 (λms4 s4 b q=>HH.o.dd _ _ _ ?_) ((HH.o.eq.ext HSD.o.2).succ HSD.o.1 (by rw[ESM.o,HQE.o,EG.o.2.2])) (by have:=tm.o;rwa [Nat.sub_sub]at this) (by have:=HH.o.sn;have:=gi.o.2.2.2.2;omega) HRX3.o⟩,qaj⟩;have zm:k<ls.length:=qcq
        rcases HSE.o with⟨e1,rfl,rfl,e4⟩|⟨e1,d,hb,e4⟩
        ·exact .hhas zm (EG.o.2.1.trans e1) (by rw[EG.o.1,←e4,ESM.o,HQE.o,EG.o.2.2]) q
        ·exact .hask zm (EG.o.2.1.trans e1) (by rw[EG.o.1];exact hb) (by rw[←e4,ESM.o,HQE.o,EG.o.2.2]) q
       ·have dq:=Gy hq
        refine Lt.ti (i:=9) (v:=?_) HG8.o ?_ ?_;rotate_left 1
        ·exact qdd
        simp only[gX];refine Lt.done qi ?_ _;obtain⟨rr3,err3⟩:=HRX3.o;(have hi3:i<s3.R.length:=by rw[err3,List.length_append];have:=EM.o;omega);obtain⟨rr1,err1⟩:=HI.o.rx
        have hqx3:qx s3.R i=⟨cd,ls,ot⟩:=by
         (have e1:qx s1.R i=qx s.R i:=by rw[err1];exact Yi hiR);rw[err3,Yi hiR,←e1];exact HQX.o
        have hnoh:NoH ss ts C.n j9 (qx s3.R i).looks:=by
         rw[hqx3];exact⟨k,qcq,HH.o.eq.ext HSD.o.2,f,HSD.o.1,by rw[ESM.o,EG.o.2.2];exact hq⟩
        have gg:Bc ss ts C.n ms1 s1 st (.holds ls 0) j9 s3 .no:=by
         have zm:k<ls.length:=qcq;refine HH.o.dd _ _ _ ?_
         rcases HSE.o with⟨e1,rfl,rfl,e4⟩|⟨e1,d,hb,e4⟩
         ·exact .hhasno zm (EG.o.2.1.trans e1) (by rw[EG.o.1,←e4,ESM.o,EG.o.2.2];exact hq)
         ·exact .haskno zm (EG.o.2.1.trans e1) (by rw[EG.o.1];exact hb) (by rw[←e4,ESM.o,EG.o.2.2];exact hq)
        obtain⟨dg3,dcp3,db3,ed3,hd3,hdn3,hdf3⟩:=gi.o.1.dfAt hi3;obtain⟨sD,kD⟩:=gi.o.1.setDf ed3 hi3 hnoh;have kq8:=K7.o.kq.trans K7.o.ra K7.o.rk K7.o.bs gi.o.2.1;have ra8:=K7.o.ra.trans K7.o.kq.bel.size gi.o.2.2.1;have rk8:=K7.o.rk.trans K7.o.kq.bel.size gi.o.2.2.2.1;have ab8:=gi.o.2.1.blk K7.o.bs K7.o.ab qd;have rb8:=gi.o.2.1.blk K7.o.bs K7.o.rb qd;have od:Hd (TkI W0 h mb C (J sa ss.length c1) (J ta ts.length c2) ss ts w ms s st av kv r is a cap (i+1) (w8.setCell ⟨dg3,i,N⟩ (F true)) j9 s3 av3 kv3 vs3 r3):=⟨λms4 s4 b q=>O4.o _ _ gg _ _ _ q,tm.o.le (zo EM.o),by have:=HH.o.sn;have:=gi.o.2.2.2.2;omega,sD,kq8.trans ra8 rk8 gi.o.1 kD,ra8,rk8,HRX3.o,kD.blk gi.o.1 ab8 qd,kD.blk gi.o.1 rb8 qd⟩;obtain⟨-,-,-,-,-,-,y6,-⟩:=gi.o.1.rs.cellsB;rw[ed3]at y6;have hiI3:(i:Int)<(s3.R.length:Int):=qb;have hiz:(0:Int)<=(i:Int):=qb;clear dq hq kq8 ra8 rk8 ab8 rb8 sD kD gg hnoh hqx3 err1 err3 ed3 hdn3 HG8 HSE HSD tm gi K7 dp jo D2 HHIT2 O4 HBAD2 HH HRX3
        go_upto_region 16 with fail
        go_wp2_with fail;exact⟨⟨i+1,j9,s3,av3,kv3,vs3,r3,qb,qj,od.o⟩,qaj⟩
def KeepB(B h mb k:X)(C:Gg)(sv tv:Z)(ss:L S2)(ts:L T2)(ms:Mm)(mk st:L By)(al:X)(av kv:Z)(vs:By->Z)(s:Sb)(r:Rv)(is:L I3)(ls:L G3)(c:Int)(t:By)(w:E)(e:Ending)(w':E):Prop:=
 (∃s' r',e=H (Y #[])/\Fw C.n s is ls c t s' N/\BS B h mb k C sv tv ss ts w' ms mk st al av kv vs s' r'/\KQ B h mb C av kv r r' w w'/\r'.sn=r.sn)\/
 (∃v b s' r',e=Lb v/\Fw C.n s is ls c t s' (M b)/\Cz B C w' b v/\KQ B h mb C av kv r r' w w')
theorem Tryz.info4b:(prog.info? 4).map (λi=>(i.zero,i.size,i.bytes))=M (M (F false),1,1):=qi
theorem keepB_any(W0:E)(h mb k:X)(C:Gg)(sv tv:Z)(ss:L S2)(ts:L T2)(ms:Mm)(mk st:L By)(al:X)(av kv:Z)(vs:By->Z)(s:Sb)(r:Rv)(a la:Option Addr)(ac lc:X)(is:L I3)(ls:L G3)(xs:L Z)(c:Int)(t:By)(w:E)(q:BS W0.heap.size h mb k C sv tv ss ts w ms mk st al av kv vs s r)(hW:Bw W0 w)(ft:Jz C.n s)(hT:Kd W0)(hr:Bu W0 a is)(hp:Au is=true)(hx:∀i,(ix is i).text.size<=9223372036854775807)(hl:w.ownsRow W0.heap.size 199 3 (J la ls.length lc) ls.length xs)(hf:Bk ls ls.length xs)(hle:ls.length<=200)(hls:Mk ls)(c0:0<=c)(c5:c<=5)(ht:t.size<=2000):Calls prog 147 #[D (p_ C.hb),G #[J a is.length ac],J la ls.length lc,G #[I c,S t,nS]] w λe w'=>KeepB W0.heap.size h mb k C sv tv ss ts ms mk st al av kv vs s r is ls c t w e w':=by
 have fy:=hW.size;obtain⟨W,eW⟩:=Aj ((w.alloc (O #[J a is.length ac] 91)).alloc (O #[I c,S t,nS] 120));have bn:Bw w W:=qbo
 have HAB:Hd (W.heap[w.heap.size]?=M (O #[J a is.length ac] 91 (0,0))):=by
  exact qdk
 have jv:Hd (W.heap[w.heap.size+1]?=M (O #[I c,S t,nS] 120 (0,0))):=by
  show _=_;rw[<- eW];have:=Hc (w.alloc (O #[J a is.length ac] 91)) (O #[I c,S t,nS] 120)
  rwa [show(w.alloc (O #[J a is.length ac] 91)).heap.size=w.heap.size+1 from qg]at this
 have HQ:=Ac q;have yp:=Ac (q.bl bn);have pi:Hd (KQ W0.heap.size h mb C av kv r r w W):=KQ.of_below q bn fy;have HL0:=Ac (Ab hl bn);have HFL:=Ac hf;have O7:=Ac hls;have xm:=Ac ft;have HW:=Ac hW;have jk:=Ac (show Kd W0/\Bu W0 a is/\Au is=true from ⟨hT,hr,hp⟩);have HX:=Ac hx;have uz:=Ac (show 0<=c/\c<=5/\t.size<=2000 from ⟨c0,c5,ht⟩);obtain⟨m,em⟩:=Aj ls.length;have EM:=Ac em;have rd:m<=200:=by rw[←em];exact hle
 rw[em]at HL0 ⊢;clear q hW ft hT hr hp hx hl hf hls bn em c0 c5 ht hle;go_enter func147,ntmps147;go_wp2_with fail;clear eW
 go_loopw [12] (λi wr=>∃(j:X)(U:L By)(r1:Rv),j<=m/\i=I j/\Hd (Dj C.n s.T (Iu (ls.take j)) U N)/\Hd (Uk C.n U)/\Hd (KQ W0.heap.size h mb C av kv r r1 w wr/\r1.sn=r.sn)/\Hd (BS W0.heap.size h mb k C sv tv ss ts wr ms mk st al av kv vs ⟨U,s.R,s.ran,s.held⟩ r1)/\Hd (wr.ownsRow W0.heap.size 199 3 (J la m lc) m xs/\wr.heap[w.heap.size]?=M (O #[J a is.length ac] 91 (0,0))/\wr.heap[w.heap.size+1]?=M (O #[I c,S t,nS] 120 (0,0)))) (λi _=>m-(intOf i).toNat)
 case atStart=>exact⟨0,s.T,r,Nat.zero_le _,rfl,.nil,xm.o.1,⟨pi.o,rfl⟩,yp,⟨HL0.o,HAB.o,jv.o⟩⟩
 case round=>
  clear yp pi HL0 HAB jv;obtain⟨j,U,r1,hj,rfl,we,rv,HK,HS,HL⟩:=hrel;have hwr:=HK.o.1.bel.size
  by_cases aj:j<m
  ·have io:(j:Int)<(m:Int):=qb
   have iy:(0:Int)<=(j:Int):=qb;have oa:j<ls.length:=qbz;obtain⟨a2,c2,e2,F1⟩:=Ha (by rw[EM.o];exact HL.o.1) HFL.o;rw[EM.o]at e2;cases e2;obtain⟨b,off,rfl,g1,g2,g3⟩:=F1 j oa;have hz:(gx ls j).sum.size<=2002:=(O7.o _ (Lp oa)).2;(have Y9:Hd ((gx ls j).ask=false->Dj C.n s.T (Iu (ls.take (j+1))) U N):=λq=>by rw[Oz oa,Nv,q];simpa using we.o);have Z6:Hd ((gx ls j).ask=true->∀U',Dj C.n U [(gx ls j).sum] U' N->Dj C.n s.T (Iu (ls.take (j+1))) U' N):=λq U' k=>by rw[Oz oa,Nv,q];exact we.o.app rfl k
   have HFALL:Hd ((gx ls j).ask=true->∀b,Dj C.n U [(gx ls j).sum] U (M b)->Dj C.n s.T (Iu ls++[Bi c t]) U (M b)):=λq b k=>by
    obtain⟨ys,ey⟩:=Xe oa;rw[ey,q,List.append_assoc];exact we.o.app rfl (by simpa using (k.more (ys++[Bi c t])).1)
   clear F1;generalize (gx ls j).name=x at *;generalize (gx ls j).sum=z at *;generalize (gx ls j).ask=y at *;obtain⟨wG,eWG⟩:=Aj (wr.alloc (O #[S x,F y,S z] 199));have xe:=aB eWG;(have P0:Hd (wG.heap[wr.heap.size]?=M (O #[S x,F y,S z] 199 (0,0))):=by show _=_;rw[←eWG];exact Hc _ _);have uw:=Ac (HS.o.bl xe);have HKG:Hd (KQ W0.heap.size h mb C av kv r r1 w wG):=HK.o.1.after (An.refl _ _) (An.refl _ _) HS.o xe qb;have HLG:=Ac (show wG.ownsRow W0.heap.size 199 3 (J (M ⟨b,off,N⟩) m lc) m xs/\wG.heap[w.heap.size]?=M (O #[J a is.length ac] 91 (0,0))/\wG.heap[w.heap.size+1]?=M (O #[I c,S t,nS] 120 (0,0)) from ⟨Ab HL.o.1 xe,Ad xe HL.o.2.1,Ad xe HL.o.2.2⟩);obtain⟨-,d1,d2⟩:=Bd P0.o;have hbG':=xe.size;clear xe;cases y
   ·go_wp2_with fail
    clear eWG g1 g2 g3;exact⟨⟨j+1,U,r1,qb,qj,Y9.o qad,rv,⟨HKG.o,HK.o.2⟩,uw,HLG⟩,qaj⟩
   ·go_wp2_with fail
    clear eWG g1 g2 g3 d1 d2;refine(Qy W0.heap.size h mb k C sv tv ss ts ms mk st al av kv vs _ r1 z wG uw.o qb rv.o hz).mono ?_;rintro e w1 (⟨v,rfl,U',r2,rfl,pz,kh,wt,kw⟩|⟨v,rfl,bb,r2,pz,F6,wt⟩)
    ·have pg:=Ac (Z6.o qad U' pz)
     have HT2:Hd (Uk C.n U'):=pz.ok rv.o (λx hx=>by rw[List.mem_singleton]at hx;rw[hx];exact hz);have fs:=Ac (show KQ W0.heap.size h mb C av kv r r2 w w1/\r2.sn=r.sn from ⟨HKG.o.trans (An.refl _ _) (An.refl _ _) uw.o wt,kw.trans HK.o.2⟩);have R5:=Ac (show w1.ownsRow W0.heap.size 199 3 (J (M ⟨b,off,N⟩) m lc) m xs/\w1.heap[w.heap.size]?=M (O #[J a is.length ac] 91 (0,0))/\w1.heap[w.heap.size+1]?=M (O #[I c,S t,nS] 120 (0,0)) from ⟨wt.ownK uw.o HLG.o.1 qd,wt.blk uw.o HLG.o.2.1 qd,wt.blk uw.o HLG.o.2.2 qd⟩);have cr:=Ac kh;clear pz kh wt kw;go_wp2_with fail;exact⟨⟨j+1,U',r2,qb,qj,pg,HT2,fs,cr,R5⟩,qaj⟩
    ·have D9:=Ac (HFALL.o qad bb pz)
     have uf:=Ac (show KQ W0.heap.size h mb C av kv r r2 w w1/\Cz W0.heap.size C w1 bb v from ⟨HKG.o.trans (An.refl _ _) (An.refl _ _) uw.o wt,F6⟩);exact qkj
  ·have io:¬ (j:Int)<(m:Int):=qb
   (have G7:Hd (Dj C.n s.T (Iu ls) U N):=by have:=we.o;rwa [List.take_of_length_le qca]at this);obtain⟨z0,z1,z2,zf⟩:=Dw HL.o.2.2;obtain⟨fo,efo⟩:=Aj (Bi c t);have EF:=Ac efo;(have HFO:Hd (∀V:E,Calls prog 167 #[G #[I c,S t,nS]] V λe w'=>e=H (S fo)/\Bw V w'):=λV=>by rw[<- efo];exact Rh c t V uz.o.1 uz.o.2.1 uz.o.2.2);(have hfos:fo.size<=2002:=by rw[←efo];exact Dp uz.o.2.2);clear efo;go_wp2_with fail;refine(HFO.o _).mono ?_;rintro e w1 ⟨rfl,af⟩;have gy:=Ac (HS.o.bl af);have du:Hd (KQ W0.heap.size h mb C av kv r r1 w w1):=HK.o.1.after (An.refl _ _) (An.refl _ _) HS.o af qb;have R6:=Ac (show w1.ownsRow W0.heap.size 199 3 (J la m lc) m xs/\w1.heap[w.heap.size]?=M (O #[J a is.length ac] 91 (0,0))/\w1.heap[w.heap.size+1]?=M (O #[I c,S t,nS] 120 (0,0)) from ⟨Ab HL.o.1 af,Ad af HL.o.2.1,Ad af HL.o.2.2⟩);have hb1':=af.size;clear af z0 z1 z2 zf;go_wp2_with fail;refine(Qy W0.heap.size h mb k C sv tv ss ts ms mk st al av kv vs _ r1 fo w1 gy.o qb rv.o hfos).mono ?_;rintro e w2 (⟨v,rfl,U',r2,rfl,pz,kh,wt,kw⟩|⟨v,rfl,bb,r2,pz,F6,wt⟩);rotate_left 1
   ·have D9:Hd (Dj C.n s.T (Iu ls++[Bi c t]) U (M bb)):=by show Dj _ _ _ _ _;rw[EF.o];exact G7.o.app rfl pz
    have uf:=Ac (show KQ W0.heap.size h mb C av kv r r2 w w2/\Cz W0.heap.size C w2 bb v from ⟨du.o.trans (An.refl _ _) (An.refl _ _) gy.o wt,F6⟩);exact qkj
   (have HPC:Hd (Dj C.n s.T (Iu ls++[Bi c t]) U' N):=by show Dj _ _ _ _ _;rw[EF.o];exact G7.o.app rfl pz);have fs:=Ac (show KQ W0.heap.size h mb C av kv r r2 w w2/\r2.sn=r.sn from ⟨du.o.trans (An.refl _ _) (An.refl _ _) gy.o wt,kw.trans HK.o.2⟩);have R5:=Ac (show w2.ownsRow W0.heap.size 199 3 (J la m lc) m xs/\w2.heap[w.heap.size]?=M (O #[J a is.length ac] 91 (0,0))/\w2.heap[w.heap.size+1]?=M (O #[I c,S t,nS] 120 (0,0)) from ⟨wt.ownK gy.o R6.o.1 qd,wt.blk gy.o R6.o.2.1 qd,wt.blk gy.o R6.o.2.2 qd⟩);have cr:Hd (BS W0.heap.size h mb k C sv tv ss ts w2 ms mk st al av kv vs ⟨U',s.R,s.ran,s.held⟩ r2):=kh;have E7:=fs.o.1.bel.size;clear pz kh wt kw gy du R6 HS HK HL we G7 rv;obtain⟨zs,cv,lv,qr⟩:=cr.o.rs.qs;obtain⟨qa,qc,eqv⟩:=Ay qr.row;have EQV:=Ac eqv;have HQR:=Ac qr;obtain⟨y0,-,-,-,-,-,-,-,y8,-,S0,-⟩:=cr.o.rs.cellsB;rw[eqv]at S0;obtain⟨mR,emR⟩:=Aj s.R.length;have EMR:=Ac emR;have hmR:mR<=2000:=by rw[←emR];exact xm.o.2.1
   try dsimp only at S0
   rw[emR]at S0;clear eqv qr emR
   by_cases hfull:mR=2000
   ·have hfI:((mR:Int) == 2000)=true:=qh
    have Z8:Hd (Fw C.n s is ls c t ⟨U',s.R,s.ran,s.held⟩ (M .full)):=.recs HPC.o (by rw[EMR.o];omega);have R7:Hd (Cz W0.heap.size C w2 .full (G #[I 11,ze,nS])):=⟨by rw[cH cr.o.rs.bd];rfl,by rw[cH cr.o.rs.bd];rfl,rfl⟩;clear hfull;go_wp2_with fail;exact⟨rfl,Or.inr ⟨_,_,_,r2,rfl,Z8.o,R7.o,fs.o.1⟩⟩
   have hfI:((mR:Int) == 2000)=false:=qh
   go_upto_region 10 with fail
   clear y0 y8 S0;obtain⟨U,eU⟩:=Aj w2.drew;have bm:Bw w2 U:=qbs;have dp:=Ac (cr.o.bl bm);have T5:=dp.o.rs.sh;rw[EQV.o]at T5
   try dsimp only at T5
   rw[EMR.o]at T5;have gt:Hd (U.heap[C.hb]?=M (O (Pv C h r2) 168 (0,0))/\U.heap[C.hs]?=M (O #[I C.n,r2.tx,J qa mR qc,r2.su] 171 (0,0))/\U.heap[w.heap.size]?=M (O #[J a is.length ac] 91 (0,0))/\U.heap[w.heap.size+1]?=M (O #[I c,S t,nS] 120 (0,0))):=⟨dp.o.rs.bd,T5,Ad bm R5.o.2.1,Ad bm R5.o.2.2⟩;have jo:Hd (KQ W0.heap.size h mb C av kv r r2 w U):=fs.o.1.after (An.refl _ _) (An.refl _ _) cr.o bm qb;have HLU:=Ac (Ab R5.o.1 bm);have hbU2:=bm.size;have hbWU:Bw W0 U:=HW.o.trans jo.o.bel
   have O3:Hd (Calls prog 168 #[G #[J a is.length ac],J la m lc,G #[I c,S t,nS],I C.n] U λe w'=>Bw U w'∧(((∀i,i<m→Ar (gx ls i).name)∧∃v1 v2,e=H (G #[v1,v2,S (Av C.n (Bi c t))])∧RecOwn U.heap.size w' v1 v2 is (ls.map (Hg C.n)))∨((∃i,i<m∧¬ Ar (gx ls i).name)∧e=H (G #[nS,nS,ze])))):=by
    have F1:Fr U la ls:=by
     obtain⟨a2,c2,e2,F1⟩:=Ha (by rw[EM.o];exact HLU.o) HFL.o;rw[EM.o]at e2;cases e2;exact F1
    have:=Vs a la N ac lc 0 is ls c t 0 C.n (Bi c t) U (jk.o.1.bl hbWU) (jk.o.2.1.bl hbWU) F1 (zo ((La jk.o.2.2).2)) HX.o (by rw[EM.o];exact rd) (λa2 mh V=>by
     obtain⟨d,rfl⟩:=Int.eq_ofNat_of_zero_le uz.o.1;have:=Pr d t a2 mh V (zo uz.o.2.1) uz.o.2.2
     exact this) jk.o.2.2 dp.o.rs.wd.1 dp.o.rs.wd.2 (formB_ne c t) (Dp uz.o.2.2) (λi hi=>by have:=(O7.o _ (Lp hi)).2;omega) (λi=>by
     rcases Nat.lt_or_ge i ls.length with q|q
     ·have:=(O7.o _ (Lp q)).1.2.1;omega
     ·unfold gx;rw[gG,List.getElem?_eq_none q];exact Nat.zero_le _)
    rw[EM.o]at this;exact this
   have ry:=Ac bm;refine Lt.begin 29 (λw'=>w'.heap[C.hb]?=M (O (Pv C h r2) 168 (0,0))/\w'.heap[C.hs]?=M (O #[I C.n,r2.tx,J qa mR qc,r2.su] 171 (0,0))/\w'.heap[w.heap.size]?=M (O #[J a is.length ac] 91 (0,0))/\w'.heap[w.heap.size+1]?=M (O #[I c,S t,nS] 120 (0,0))) qi ?_;rw[eU];clear eU T5 bm;change K 0 _
   iterate 23
    refine Lt.ti (v:=?_) gt.o ?_ ?_;rotate_left 1
    ·exact qjd
    simp only[gX]
   refine Lt.sp (i:=23) (λK hK=>?_);go_simp;refine O3.o.mono ?_;rintro e w4 ⟨co,⟨hnames,v1,v2,rfl,rx1,rx2,kd,zt,jq,sr⟩|⟨⟨i,hi,pq⟩,_⟩⟩;rotate_left 1
   ·exact absurd (O7.o _ (Lp (by rw[EM.o];exact hi))).1 pq
   obtain⟨va1,vc1,ev1⟩:=Ay kd;obtain⟨va2,vc2,ev2⟩:=Ay jq;rw[List.length_map]at ev2;rw[ev1,ev2];have gw:=Ac (dp.o.bl co);have On:Hd (w4.heap[C.hb]?=M (O (Pv C h r2) 168 (0,0))/\w4.heap[C.hs]?=M (O #[I C.n,r2.tx,J qa mR qc,r2.su] 171 (0,0))/\w4.heap[w.heap.size]?=M (O #[J a is.length ac] 91 (0,0))/\w4.heap[w.heap.size+1]?=M (O #[I c,S t,nS] 120 (0,0))):=⟨Ad co gt.o.1,Ad co gt.o.2.1,Ad co gt.o.2.2.1,Ad co gt.o.2.2.2⟩;refine hK.out _ _ (λ_=>On.o) (λ_=>?_);clear hK K 
   try simp only[gX]
   refine Lt.sp (i:=24) (λK hK=>?_);go_simp;refine Dn (Q:=λx=>K _ x) ?_;intro w5 cj jm
   try dsimp only
   have ib:Hd (w5.heap[C.hb]?=M (O (Pv C h r2) 168 (0,0))/\w5.heap[C.hs]?=M (O #[I C.n,r2.tx,J qa mR qc,r2.su] 171 (0,0))/\w5.heap[w.heap.size]?=M (O #[J a is.length ac] 91 (0,0))/\w5.heap[w.heap.size+1]?=M (O #[I c,S t,nS] 120 (0,0))):=⟨Ad cj On.o.1,Ad cj On.o.2.1,Ad cj On.o.2.2.1,Ad cj On.o.2.2.2⟩;have ie:=Ac (gw.o.bl cj);refine hK.out _ _ (λ_=>ib.o) (λ_=>?_);clear hK K 
   try simp only[gX]
   refine Lt.sp (i:=25) (λK hK=>?_);have hU4:=co.size;have h45:=cj.size;have qr5:=((HQR.o.bl ry.o).bl co).bl cj;have J0:=qr5.row;rw[EQV.o]at J0
   try dsimp only at J0 qr5
   rw[EMR.o]at J0;have yu:=jm.o;refine step_appQ2 rfl qo W0.heap.size (J qa mR qc) mR zs qo J0 w4.heap.size _ _ _ qo jm.o qcs qb qb ?_;intro g' ai w7 ah ae ci U1;have hq5n:=λ(b:X) (cs:Array Z) (T:TypeId) (hT:T≠94) (hb:w5.heap[b]?=M (O cs T (0,0)))=>Ae J0 hT hb;have zc:∀(b:X)(cs:Array Z)(T:TypeId),T≠94->w5.heap[b]?=M (O cs T (0,0))->w7.heap[b]?=M (O cs T (0,0)):=λb cs T hT hb=>Br hb ae (hq5n b cs T hT hb);have gv:Hd (w7.heap[C.hb]?=M (O (Pv C h r2) 168 (0,0))/\w7.heap[C.hs]?=M (O #[I C.n,r2.tx,J qa mR qc,r2.su] 171 (0,0))/\w7.heap[w.heap.size]?=M (O #[J a is.length ac] 91 (0,0))/\w7.heap[w.heap.size+1]?=M (O #[I c,S t,nS] 120 (0,0))):=⟨zc _ _ _ qd ib.o.1,zc _ _ _ qd ib.o.2.1,zc _ _ _ qd ib.o.2.2.1,zc _ _ _ qd ib.o.2.2.2⟩;(have gk:w5.grownBy w7 r2.qv.ownBlock:=by rw[EQV.o,EMR.o];exact ae);(have hold2:Ka r2.qv w5 w7:=by rw[EQV.o,EMR.o];exact U1);(have aq:w7.ownsRow W0.heap.size 94 3 (J (p_ g') (mR+1) ai) (s.R.length+1) (zs++[J va1 is.length vc1,J va2 ls.length vc2,S (Av C.n (Bi c t))]):=by rw[EMR.o];exact ah);have X8:=Jd.addI (h:=C.hs) (rec:=⟨is,ls.map (Hg C.n),Av C.n (Bi c t)⟩) qr5 gk aq (Ah (Ab (ev1▸kd) cj) qb) zt (Ah (Ab (ev2▸jq) cj) qb) sr (λi hi b q1 q2=>by rw[←ev1]at q2;have h1:=(kd.lt b q2).1;obtain⟨ys,r1,_⟩:=HQR.o.code i hi;have h2:=(r1.lt b q1).2;omega) (λi hi b q1 q2=>by rw[←ev2]at q2;have h1:=(jq.lt b q2).1;obtain⟨ys,r1,_⟩:=HQR.o.look i hi;have h2:=(r1.lt b q1).2;omega) gv.o.2.1 (J (p_ g') (mR+1) ai);have hq5b:∀b,r2.qv.ownBlock=M b->W0.heap.size<=b:=λb e=>(qr5.row.lt b e).1;have hM:=Fc.of ie.o.rs
   have hG:=hM.gQ (w2:=w7) qb ie.o.ownA.1 ie.o.ownA.2 ((Below.refl _ _).grown gk qb hq5b) (λb h1 h2=>gk.block b h1 (λe=>h2 e.symm)) X8 (λys hy i hi=>by
    have h1:=hy i hi
    rcases Nat.lt_or_ge i s.R.length with q|q
    ·rw[Yi q];exact h1
    ·obtain⟨k1,h2,_⟩:=h1
     unfold qx at h2;rw[gG,List.getElem?_eq_none q]at h2
     exact absurd h2 (Nat.not_lt_zero _)) (λb q=>by
    obtain rfl:g'=b:=qaq
    rcases ci with q|q
    ·exact Or.inl (by rw[EQV.o,EMR.o];exact q)
    ·right;omega)
   have HG:=Ac hG
   have HOQ:Hd (Ka r2.qv w2 (w7.setCell ⟨C.hs,2,N⟩ (J (p_ g') (mR+1) ai))):=by
    refine Ka.next (w1:=w7) (λg l cp cs e hb=>?_) (λg cs hb=>?_)
    ·exact hold2 g l cp cs e (Ad cj (Ad co (Ad ry.o hb)))
    ·rw[hC w7 ⟨C.hs,2,N⟩ _ g (λe=>by have e:g=C.hs:=e;subst e;have o:=gv.o.2.1;rw[hb]at o;injection o with o;injection o with _ o;exact absurd o qd)];exact hb
   have fu:Hd (FrR W0.heap.size C r2 r2 w2 w5):=FrR.of_below (Ba ry.o (Ba co cj)) qb;have h57:w5.heap.size<=w7.heap.size:=ae.size;refine hK.out _ _ (λ_=>gv.o) (λ_=>?_);clear hK K ae ah U1 gk hold2 aq X8 hM hG qr5 J0 hq5n zc ci hq5b cj co kd jq zt sr ev1 ev2;simp only[gX];refine Lt.sp (i:=26) (λK hK=>?_);go_simp;refine hK.out _ _ (λ_=>gv.o) (λ_=>?_);clear hK K 
   try simp only[gX]
   refine Lt.sp (i:=27) (λK hK=>?_);go_simp;refine hK.out _ _ (λ_=>gv.o) (λ_=>?_);clear hK K 
   try simp only[gX]
   refine Lt.ti (i:=28) (v:=?_) gv.o ?_ ?_;rotate_left 1
   ·exact qjd
   simp only[gX];obtain⟨-,-,n2,-,nf⟩:=Lu gv.o.2.1;refine Lt.sp (i:=29) (λK hK=>?_);go_simp;refine hK.out _ _ (λh=>absurd rfl h) (λ_=>?_);clear hK K n2 nf
   try simp only[gX]
   refine Lt.done qi ?_ _;obtain⟨za,e10⟩:=Aj (w7.setCell ⟨C.hs,2,N⟩ (J (p_ g') (mR+1) ai));rw[e10]at HG HOQ ⊢;(have hs10:w7.heap.size<=za.heap.size:=by rw[←e10];simp);obtain⟨nq,enq⟩:=Aj (Value.slice (p_ g') (mR+1) ai);have ENQ:=Ac enq;rw[enq]at HG;clear e10 enq;obtain⟨ux,uo⟩:=HG.o.1.us;obtain⟨ua,uc,eu⟩:=Ay uo;rw[EMR.o]at eu uo;have EU:=Ac eu;rw[eu]at uo;have HUA:Hd (∀o:Obj,(za.alloc o).ownsRow W0.heap.size 4 1 (J ua mR uc) mR (ux.map .bool)):=λo=>uo.alloc o;have HUO:=Ac uo;have vv:=HG.o.1.bd;(have y3:za.cell? ⟨C.hb,3,N⟩=M (J ua mR uc):=by rw[cH vv,←eu];rfl);have hhb:C.hb<za.heap.size:=Ag vv;obtain⟨i0,ye,bq,bg,bv⟩:=info_parts Tryz.info4b;clear eu uo
   go_upto_region 12 with(at_builtin;refine wpList_append_lies _ rfl (.tmp 72) (.tmp 73) 124 rfl W0.heap.size 4 i0 (F false) 1 1 underlying124 ye bq bg bv rfl qd _ mR (ux.map .bool) rfl (HUA.o _) ⟨za.heap.size,0,N⟩ 1 1 [F true] rfl rfl (cell_one_new _ _ _) qae qb qm qb qh (za.heap.size+1) qg ?_;intro g11 cp11 B6 U0 wv hl11 hlt11;have hh11:B6.heap[C.hb]?=M (O (Pv C h ⟨r2.tx,r2.su,nq,r2.nv,r2.ev,r2.uv,r2.dv,r2.sn⟩) 168 (0,0)):=(by rw[wv.block C.hb qh (λe=>Ae HUO.o qd vv e.symm),Lib.alloc_old _ _ _ hhb];exact vv);have y3b:B6.cell? ⟨C.hb,3,N⟩=M r2.uv:=(by rw[cH hh11];rfl);have y3f:∀j,B6.frozen? ⟨C.hb,j,N⟩=false:=(λj=>fH hh11 j))
   (have hub:∀b,r2.uv.ownBlock=M b->W0.heap.size<=b:=λb e=>by have e2:=EU.o;dsimp only at e2;rw[e2]at e;exact(HUO.o.lt b e).1);have hgu:(za.alloc (O #[F true] 4)).grownBy B6 r2.uv.ownBlock:=by have e2:=EU.o;dsimp only at e2;rw[e2];exact wv
   have hG2:=HG.o.1.gU (w2:=B6) (nw:=J (p_ g11) (mR+1) cp11) (nxs:=ux++[true]) (lu2:=mR+1) qb (λb e=>by have:=ie.o.ownA.1 b e;omega) (λb e=>by have:=ie.o.ownA.2 b e;omega) (bel_of hgu qb hub) (k2_of hgu) (by rw[List.map_append];exact U0) (λb q=>by
    obtain rfl:g11=b:=qaq;have e2:=EU.o;dsimp only at e2 ⊢;rw[e2]
    rcases hl11 with q|q;exact Or.inl q;exact Or.inr qb)
   (have HK11:Hd (∀(g:X)(cs:Array Z),za.heap[g]?=M (O cs 94 (0,0))->(B6.setCell ⟨C.hb,3,N⟩ (J (p_ g11) (mR+1) cp11)).heap[g]?=M (O cs 94 (0,0))):=λg cs hb=>by rw[hC B6 ⟨C.hb,3,N⟩ _ g (λe=>by have e:g=C.hb:=e;subst e;have o:=vv;rw[hb]at o;injection o with o;injection o with _ o;exact absurd o qd),k2_of hgu g (Ag hb) (λe=>by have e2:=EU.o;(try dsimp only at e2);rw[e2]at e;exact Ae HUO.o qd hb e)];exact hb);have E3:=Ac hG2;clear hG2 hgu wv U0 y3 y3b y3f hh11 hl11 hlt11 vv hhb HUA HUO gt On ib gv;obtain⟨Is,e12⟩:=Aj (B6.setCell ⟨C.hb,3,N⟩ (J (p_ g11) (mR+1) cp11));obtain⟨nu,enu⟩:=Aj (Value.slice (p_ g11) (mR+1) cp11);rw[e12]at E3 HK11 ⊢;rw[enu]at E3;have hs12:za.heap.size<=Is.heap.size:=E3.o.2.bel.size;clear e12 enu;obtain⟨dx,do_,dd⟩:=E3.o.1.df;obtain⟨da,dc,ed⟩:=Ay do_;rw[EMR.o]at ed do_;have ED:=Ac ed;rw[ed]at do_;have HDD:=Ac dd;have HDA:Hd (∀o:Obj,(Is.alloc o).ownsRow W0.heap.size 4 1 (J da mR dc) mR (dx.map .bool)):=λo=>do_.alloc o;have yx:=Ac do_;have zy:=E3.o.1.bd;(have y12:Is.cell? ⟨C.hb,12,N⟩=M (J da mR dc):=by rw[cH zy,←ed];rfl);have hhb2:C.hb<Is.heap.size:=Ag zy;clear ed do_ dd
   go_wp2_with (at_builtin;refine wpList_append_lies _ rfl (.tmp 81) (.tmp 82) 124 rfl W0.heap.size 4 i0 (F false) 1 1 underlying124 ye bq bg bv rfl qd _ mR (dx.map .bool) rfl (HDA.o _) ⟨Is.heap.size,0,N⟩ 1 1 [F false] rfl rfl (cell_one_new _ _ _) qae qb qm qb qh (Is.heap.size+1) qg ?_;intro g13 cp13 S1 hown13 J3 hl13 hlt13;have hh13:S1.heap[C.hb]?=M (O (Pv C h ⟨r2.tx,r2.su,nq,r2.nv,r2.ev,nu,r2.dv,r2.sn⟩) 168 (0,0)):=(by rw[J3.block C.hb qh (λe=>Ae yx.o qd zy e.symm),Lib.alloc_old _ _ _ hhb2];exact zy);have y12b:S1.cell? ⟨C.hb,12,N⟩=M r2.dv:=(by rw[cH hh13];rfl);have y12f:∀j,S1.frozen? ⟨C.hb,j,N⟩=false:=(λj=>fH hh13 j))
   (have hdb:∀b,r2.dv.ownBlock=M b->W0.heap.size<=b:=λb e=>by have e2:=ED.o;(try dsimp only at e2);rw[e2]at e;exact(yx.o.lt b e).1);have ri:(Is.alloc (O #[F false] 4)).grownBy S1 r2.dv.ownBlock:=by have e2:=ED.o;(try dsimp only at e2);rw[e2];exact J3
   have hG3:=E3.o.1.gD (w2:=S1) (nw:=J (p_ g13) (mR+1) cp13) (nxs:=dx++[false]) (ld2:=mR+1) qb (λb e=>by have:=ie.o.ownA.1 b e;omega) (λb e=>by have:=ie.o.ownA.2 b e;omega) (bel_of ri qb hdb) (k2_of ri) (by rw[List.map_append];exact hown13) (λi hi=>HDD.o i (by
    rcases Nat.lt_or_ge i dx.length with q|q
    ·rwa [List.getElem?_append_left q]at hi
    ·rw[List.getElem?_append_right q]at hi
     rcases Nat.eq_zero_or_pos (i-dx.length)with q2|q2
     ·rw[q2]at hi;simp at hi
     ·rw[List.getElem?_eq_none qh]at hi;cases hi)) (λb q=>by
    obtain rfl:g13=b:=qaq;have e2:=ED.o;(try dsimp only at e2);(try dsimp only);rw[e2]
    rcases hl13 with q|q;exact Or.inl q;exact Or.inr qb)
   have HG3:=Ac hG3;clear hG3;(have HK13:Hd (∀(g:X)(cs:Array Z),Is.heap[g]?=M (O cs 94 (0,0))->(S1.setCell ⟨C.hb,12,N⟩ (J (p_ g13) (mR+1) cp13)).heap[g]?=M (O cs 94 (0,0))):=λg cs hb=>by rw[hC S1 ⟨C.hb,12,N⟩ _ g (λe=>by have e:g=C.hb:=e;subst e;have o:=zy;rw[hb]at o;injection o with o;injection o with _ o;exact absurd o qd),k2_of ri g (Ag hb) (λe=>by have e2:=ED.o;(try dsimp only at e2);rw[e2]at e;exact Ae yx.o qd hb e)];exact hb);have hF:=fu.o.trans (HG.o.2.trans (E3.o.2.trans HG3.o.2));(have el:(s.R++[(⟨is,ls.map (Hg C.n),Av C.n (Bi c t)⟩:T3)]).length=mR+1:=by rw[List.length_append,EMR.o];rfl);obtain⟨b1,k1⟩:=cr.o.upd hF.bel hF.keep (Fc.to (s:=⟨U',s.R++[⟨is,ls.map (Hg C.n),Av C.n (Bi c t)⟩],s.ran,s.held⟩) (by dsimp only;rw[el];exact HG3.o.1)) hF.new ((HOQ.o.next HK11.o).next HK13.o) (by rw[EQV.o,←ENQ.o];simp only[slen];rw[EMR.o];omega);refine bodyPost_end (v:=Y #[]) (by simp[results,results147,go_sem]) rfl ?_;exact Or.inl ⟨_,_,rfl,Fw.ok HPC.o (by rw[EMR.o];omega),b1,fs.o.1.trans (An.refl _ _) (An.refl _ _) cr.o k1,fs.o.2⟩
structure RnF (C:Gg) (ss:L S2) (ts:L T2) (ms:Mm) (s:Sb) (st:L By) (r:Rv) (is:L I3) (m1:Mm) (s1:Sb) (m2:Mm) (s2:Sb) (ys:L R3) (ls:L G3) (c:Int) (t:By) (AB:_) (r2:Rv):Prop where
 full:Ce is ys Lz (.over c t AB)
 ro:Gf is ys ls
 ln:ys.length<=200
 lok:Mk ls
 dd:∀j9 s3 x,Bc ss ts C.n m2 s2 st (.run is ys ls) j9 s3 x->Bc ss ts C.n m1 s1 st (.run is [] []) j9 s3 x
 pre:Fd ss ts C.n m2 s2 st r2.sn 0
 sn:r2.sn+400200*Db ts ms st<=r.sn+200*s.R.length+400200*Db ts m2 st
structure RnJ (B h mb:X) (C:Gg) (sv tv:Z) (ss:L S2) (ts:L T2) (w:E) (st:L By) (av kv:Z) (r:Rv) (tn:By) (ga:Option Addr) (cap il:X) (m2:Mm) (s2:Sb) (lv:Z) (ls:L G3) (av2 kv2:Z) (vs2:By->Z) (r2:Rv) (wx:E):Prop where
 bs:Iw B h mb C sv tv ss ts wx m2 st av2 kv2 vs2 s2 r2
 kq:KQ B h mb C av kv r r2 w wx
 ra:An w av av2
 rk:An w kv kv2
 lo:Ek wx B lv ls
 tb:wx.heap[w.heap.size]?=M (O #[S tn,J ga il cap] 99 (0,0))
 rb:wx.heap[w.heap.size+1]?=M (O #[I 0,ze,nS] 120 (0,0))
section
variable {B h mb:X} {C:Gg} {sv tv:Z} {ss:L S2} {ts:L T2} {w:E} {st:L By} {av kv:Z} {r:Rv} {tn:By} {ga:Option Addr} {cap il:X} {m2:Mm} {s2:Sb} {lv:Z} {ls:L G3} {av2 kv2:Z} {vs2:By->Z} {r2:Rv} {wx wy:E}
theorem RnJ.bl(k:RnJ B h mb C sv tv ss ts w st av kv r tn ga cap il m2 s2 lv ls av2 kv2 vs2 r2 wx)(hb:Bw wx wy)(hB:B<=w.heap.size):RnJ B h mb C sv tv ss ts w st av kv r tn ga cap il m2 s2 lv ls av2 kv2 vs2 r2 wy:=
 ⟨k.bs.bl hb,k.kq.after k.ra k.rk k.bs hb (zo k.kq.bel.size),k.ra,k.rk,k.lo.same (λb cs q=>Ad hb q),Ad hb k.tb,Ad hb k.rb⟩
theorem RnJ.set3(k:RnJ B h mb C sv tv ss ts w st av kv r tn ga cap il m2 s2 lv ls av2 kv2 vs2 r2 wx){P:X}{u0 u1 u2:Z}(hp:wx.heap[P]?=M (O #[u0,u1,u2] 120 (0,0)))(hn:w.heap.size+1<P)(hB:B<=w.heap.size)(v0 v1 v2:Z):RnJ B h mb C sv tv ss ts w st av kv r tn ga cap il m2 s2 lv ls av2 kv2 vs2 r2 (((wx.setCell ⟨P,0,N⟩ v0).setCell ⟨P,1,N⟩ v1).setCell ⟨P,2,N⟩ v2):=
 ⟨k.bs.set3 hp qd _ _ _,k.kq.set3 qb qb _ _ _,k.ra,k.rk,k.lo.same (λb cs q=>by rw[Fg (λe=>by rw[e,hp]at q;injection q with q;injection q with _ q;exact absurd q qd)];exact q),by rw[Fg qb];exact k.tb,by rw[Fg qb];exact k.rb⟩
end
theorem workB_any(W0:E)(h mb:X)(C:Gg)(sa ta:Option Addr)(c1 c2:X)(ss:L S2)(ts:L T2)(hE:Hn W0 sa ta ss ts)(st:L By)(hU:Gb W0 h mb C (J sa ss.length c1) (J ta ts.length c2) ss ts st)(tn:By)(a:Option Addr)(cap:X)(is:L I3)(hr:Bu W0 a is)(hv:Au is=true)(hT:Kd W0)(hP:Lj W0)(hx:∀i,(ix is i).text.size<=9223372036854775807):Kn W0 h mb C (J sa ss.length c1) (J ta ts.length c2) ss ts st tn a cap is:=by
 intro w ms av kv vs s r q hp hW;have fy:=hW.size;have zq:=(La hv).2;have ru:s.R.length<=2000:=hp.ok.2.1;obtain⟨W,eW⟩:=Aj ((w.alloc (O #[S tn,J a is.length cap] 99)).alloc (O #[I 0,ze,nS] 120));have bn:Bw w W:=qbo
 have A7:Hd (W.heap[w.heap.size]?=M (O #[S tn,J a is.length cap] 99 (0,0))):=by
  exact qdk
 have jv:Hd (W.heap[w.heap.size+1]?=M (O #[I 0,ze,nS] 120 (0,0))):=by
  show _=_;rw[<- eW];have:=Hc (w.alloc (O #[S tn,J a is.length cap] 99)) (O #[I 0,ze,nS] 120)
  rwa [show(w.alloc (O #[S tn,J a is.length cap] 99)).heap.size=w.heap.size+1 from qg]at this
 have HQ:=Ac q;have yo:=Ac (q.bl bn);have HKW:Hd (KQ W0.heap.size h mb C av kv r r w W):=KQ.of_below q bn fy;have HPRE:=Ac hp;have HW:=Ac hW;have HE:=Ac hE;have HU:=Ac hU;have jk:=Ac (show Kd W0/\Bu W0 a is/\Au is=true/\Lj W0 from ⟨hT,hr,hv,hP⟩);have HX:=Ac hx;have hbW2:=bn.size;have HTK:Hd (Calls prog 145 #[D (p_ C.hb),G #[J a is.length cap]] W λe w'=>TakeB W0.heap.size h mb C (J sa ss.length c1) (J ta ts.length c2) ss ts ms s st av kv r is W e w'):=take_any W0 h mb C sa ta c1 c2 ss ts hE st hU ms s av kv vs r a cap is W yo.o (hp.le qb) (hW.trans (bn.mono fy)) hr zq;obtain⟨t0,t1,tf⟩:=Kv A7.o;clear q hp hW hE hU hT hr hv hP hx bn;go_enter func128,ntmps128;go_wp2_with fail;clear eW t0 t1 tf;refine HTK.o.mono ?_;clear HTK;rintro e w1 (⟨m1,s1,av1,kv1,vs1,r1,hans,d9,cq,ha1,hk1b,hsn1⟩|⟨b,v,r1,m1,s1,rfl,cq,hd1,zt⟩);rotate_left 1
 ·have HD:=Ac (show Bc ss ts C.n ms s st (.tri is 0 s.R.length) m1 s1 (.bad b)/\Cz W0.heap.size C w1 b v/\KQ W0.heap.size h mb C av kv r r1 w w1 from ⟨hd1,zt,HKW.o.trans (An.refl _ _) (An.refl _ _) yo.o cq⟩)
  clear cq hd1 zt;unfold Lb;go_wp2_with fail;exact⟨rfl,Or.inr ⟨b,v,r1,m1,s1,rfl,HD.o.2.2,.tfell HD.o.1,HD.o.2.1⟩⟩
 have gy:=Ac d9;have du:=Ac (show KQ W0.heap.size h mb C av kv r r1 w w1/\An w av av1/\An w kv kv1 from ⟨HKW.o.trans (An.refl _ _) (An.refl _ _) yo.o cq,ha1.less qb,hk1b.less qb⟩);have B3:=Ac hsn1;have HTB1:Hd (w1.heap[w.heap.size]?=M (O #[S tn,J a is.length cap] 99 (0,0))):=cq.blk yo.o A7.o qd;have HRB1:Hd (w1.heap[w.heap.size+1]?=M (O #[I 0,ze,nS] 120 (0,0))):=cq.blk yo.o jv.o qd;have E8:=du.o.1.bel.size;have kl:=Ag HRB1.o;clear d9 cq ha1 hk1b hsn1 A7 jv HKW yo
 rcases hans with⟨c,t,hb,rfl⟩|⟨hb,rfl⟩
 ·have HB:=Ac hb
  have jr:Hd (Fd ss ts C.n m1 s1 st r1.sn (400200-200*s.R.length)):=HPRE.o.step HE.o.v hb (Nat.le_refl _) (λ_ e=>qu) rfl (by simp[Ot]) qb B3.o;clear hb
  go_upto_region 3 with fail
  obtain⟨w2,ew2⟩:=Aj (w1.alloc (O #[I c,S t,nS] 120));have ag:=aB ew2;obtain⟨P,eP⟩:=Aj w1.heap.size;have HPx:=Ac (nW ew2 eP);have HSx:=Ac (gy.o.bl ag);have HTx:=Ac (Ad ag HTB1.o);have HRx:=Ac (Ad ag HRB1.o);have wf:=Ac (show KQ W0.heap.size h mb C av kv r r1 w w2/\An w av av1/\An w kv kv1 from ⟨du.o.1.after du.o.2.1 du.o.2.2 gy.o ag qb,du.o.2⟩);have E7:=ag.size;clear ag;rw[ew2,eP];clear ew2 eP;obtain⟨ea,ec,eev⟩:=Ay HSx.o.rs.held;obtain⟨el,eel⟩:=Aj s1.held.length;rw[eel]at eev;have EEV:=Ac eev;have EEL:=Ac eel;(have hel:el<=200:=by rw[←eel];have:=(jr.o.small HE.o.l2).2.2.2;omega);obtain⟨U,eU⟩:=Aj w2.drew;have bm:Bw w2 U:=qbs;have dp:=Ac (HSx.o.bl bm);have gt:Hd (U.heap[C.hb]?=M (O (Pv C h r1) 168 (0,0))/\U.heap[w.heap.size]?=M (O #[S tn,J a is.length cap] 99 (0,0))):=⟨dp.o.rs.bd,Ad bm HTx.o⟩;have ki:=Ac (Ad bm HRx.o);have Z1:=Ac (Ad bm HPx.o);have jo:Hd (KQ W0.heap.size h mb C av kv r r1 w U):=wf.o.1.after wf.o.2.1 wf.o.2.2 HSx.o bm qb;have hbU2:=bm.size;refine Lt.begin 11 (λw'=>w'.heap[C.hb]?=M (O (Pv C h r1) 168 (0,0))/\w'.heap[w.heap.size]?=M (O #[S tn,J a is.length cap] 99 (0,0))) qi ?_;rw[eU];clear eU bm eev eel;change K 0 _
  iterate 7
   refine Lt.ti (v:=?_) gt.o ?_ ?_;rotate_left 1
   ·rintro w ⟨s1,s2⟩
    obtain⟨t0,t1,-⟩:=Kv s2;(have y0:w.cell? ⟨C.hb,2,N⟩=M (J ea el ec):=by rw[cH s1,←EEV.o];rfl);exact qaw
   simp only[gX]
  refine Lt.sp (i:=7) (λK hK=>?_);go_simp;refine Dn (Q:=λx=>K _ x) ?_;intro w5 cj jm
  try dsimp only
  have ib:Hd (w5.heap[C.hb]?=M (O (Pv C h r1) 168 (0,0))/\w5.heap[w.heap.size]?=M (O #[S tn,J a is.length cap] 99 (0,0))):=⟨Ad cj gt.o.1,Ad cj gt.o.2⟩;refine hK.out _ _ (λ_=>ib.o) (λ_=>?_);clear hK K 
  try simp only[gX]
  refine Lt.sp (i:=8) (λK hK=>?_);(have J0:w5.ownsRow W0.heap.size 9 1 (J ea el ec) el (Aq s1.held):=by have:=Ab dp.o.rs.held cj;rw[EEV.o,EEL.o]at this;exact this);have h5:=cj.size;refine Qb rfl qo W0.heap.size ea el ec (Aq s1.held) qo J0 U.heap.size tn qo jm.o qb qb ?_;intro g' ai w7 ah ae ci;have zc:∀(b:X)(cs:Array Z)(T:TypeId),T≠9->w5.heap[b]?=M (O cs T (0,0))->w7.heap[b]?=M (O cs T (0,0)):=λb cs T hT hb=>Br hb ae (Ae J0 hT hb);have gv:Hd (w7.heap[C.hb]?=M (O (Pv C h r1) 168 (0,0))/\w7.heap[w.heap.size]?=M (O #[S tn,J a is.length cap] 99 (0,0))):=⟨zc _ _ _ qd ib.o.1,zc _ _ _ qd ib.o.2⟩;have gk:w5.grownBy w7 r1.ev.ownBlock:=by rw[EEV.o];exact ae
  have hG:=dp.o.grE (w2:=w7) (nw:=J (p_ g') (el+1) ai) (x:=tn) qb (bel_via cj gk qb (λb e=>(dp.o.rs.held.lt b e).1)) (k2_via cj gk) (by rw[List.length_append,EEL.o,Aq,List.map_append];exact ah) (λb q=>by
   obtain rfl:g'=b:=qaq
   rcases ci with q|q
   ·exact Or.inl (by rw[EEV.o];exact q)
   ·right;omega)
  have HG:=Ac hG;have HR7:Hd (w7.heap[w.heap.size+1]?=_):=zc _ _ _ qd (Ad cj ki.o);have HP7:Hd (w7.heap[P]?=_):=zc _ _ _ qd (Ad cj Z1.o);refine hK.out _ _ (λ_=>gv.o) (λ_=>?_);clear hK K ae ah gk hG J0 zc ci cj gt ib jm
  try simp only[gX]
  refine Lt.sp (i:=9) (λK hK=>?_);go_simp;refine hK.out _ _ (λ_=>gv.o) (λ_=>?_);clear hK K 
  try simp only[gX]
  refine Lt.sp (i:=10) (λK hK=>?_);go_simp;refine hK.out _ _ (λ_=>gv.o) (λ_=>?_);clear hK K 
  try simp only[gX]
  have y2f:=fZ gv.o.1;have y2:=cK gv.o.1 2;refine Lt.sp (i:=11) (λK hK=>?_);go_simp;refine hK.out _ _ (λh=>absurd rfl h) (λ_=>?_);clear hK K y2 y2f
  try simp only[gX]
  refine Lt.done qi ?_ _;(have ne7:∀(b:X)(cs:Array Z)(T:TypeId),T≠168->w7.heap[b]?=M (O cs T (0,0))->(w7.setCell ⟨C.hb,2,N⟩ (J (p_ g') (el+1) ai)).heap[b]?=M (O cs T (0,0)):=λb cs T hT hb=>by rw[hC w7 ⟨C.hb,2,N⟩ _ b (λe=>by have e:b=C.hb:=e;have o:=gv.o.1;rw[←e,hb]at o;injection o with o;injection o with _ o;exact hT o)];exact hb);have HR8:Hd ((w7.setCell ⟨C.hb,2,N⟩ (J (p_ g') (el+1) ai)).heap[w.heap.size+1]?=_):=ne7 _ _ _ qd HR7.o;have HP8:Hd ((w7.setCell ⟨C.hb,2,N⟩ (J (p_ g') (el+1) ai)).heap[P]?=_):=ne7 _ _ _ qd HP7.o;have t8:=Ac (jo.o.trans wf.o.2.1 wf.o.2.2 dp.o HG.o.2);obtain⟨nw,enw⟩:=Aj (Value.slice (p_ g') (el+1) ai);have gi:=Ac HG.o.1;clear ne7 HR7 HP7 HG gv ki Z1 dp jo HSx HRx HPx HTx;obtain⟨w8,e8⟩:=Aj (w7.setCell ⟨C.hb,2,N⟩ (J (p_ g') (el+1) ai));rw[e8]at gi t8 HR8 HP8 ⊢;rw[enw]at gi t8;clear e8 enw
  go_upto_region 4 with fail
  obtain⟨U8,eU8⟩:=Aj w8.drew;(have te:Bw w8 U8:=by rw[←eU8];exact(Below.refl _ _).drew);have A9:=Ac (gi.o.bl te);have wm:=t8.o.bel.size;have HK9:=Ac (t8.o.after wf.o.2.1 wf.o.2.2 gi.o te qb);have G5:=Ac (Ad te HR8.o);obtain⟨x0,x1,x2,xf⟩:=Dw (Ad te HP8.o);obtain⟨z0,z1,z2,zf⟩:=Dw G5.o;clear te gi t8 HR8 HP8;go_region;clear eU8 x0 x1 x2 xf z0 z1 z2 zf
  all_goals
   have z8:=Bn G5.o (I c) (S t) nS;obtain⟨z0,z1,z2,zf⟩:=Dw z8;go_wp2_with fail;refine bR (v:=Y #[nS,G #[I c,S t,nS]]) (by simp[results,results128,go_sem,z0,z1,z2]) rfl (Or.inl ⟨m1,_,⟨c,t,[]⟩,_,av1,kv1,vs1,_,rfl,⟨N,0,0,rfl⟩,.held HB.o,A9.o.set3 G5.o qd _ _ _,HK9.o.set3 qb qb _ _ _,wf.o.2.1,wf.o.2.2,?_⟩);have:=B3.o;dsimp only;omega
 have HB:=Ac hb;have jr:Hd (Fd ss ts C.n m1 s1 st r1.sn (400200-200*s.R.length)):=HPRE.o.step HE.o.v hb (Nat.le_refl _) (λ_ e=>qu) rfl (by simp[Ot]) qb B3.o;clear hb
 go_upto_region 5 with fail
 obtain⟨w2,ew2⟩:=Aj (w1.alloc (O #[I 0,ze,nS] 120));have ag:=aB ew2;obtain⟨P6,eP6⟩:=Aj w1.heap.size;rw[ew2,eP6];clear ew2 eP6;obtain⟨U,eU⟩:=Aj w2.drew;have bm:Bw w1 U:=by rw[←eU];exact Ba ag (Below.refl _ _).drew
 have dp:=Ac (gy.o.bl bm);have jo:=Ac (show KQ W0.heap.size h mb C av kv r r1 w U/\An w av av1/\An w kv kv1 from ⟨du.o.1.after du.o.2.1 du.o.2.2 gy.o bm qb,du.o.2⟩);have ki:=Ac (Ad bm HRB1.o);have gt:Hd (U.cell? ⟨C.hb,10,N⟩=M (D (p_ h))/\U.heap[w.heap.size]?=M (O #[S tn,J a is.length cap] 99 (0,0))):=⟨by rw[cH dp.o.rs.bd];rfl,Ad bm HTB1.o⟩;have hUsz:=jo.o.1.bel.size;have hU1:=Ag ki.o;have B1:Hd (∀V,Bw U V->Calls prog 146 #[D (p_ h),G #[S tn,J a is.length cap]] V λe w'=>RunB W0.heap.size h mb C (J sa ss.length c1) (J ta ts.length c2) ss ts m1 s1 st av1 kv1 r1 is V e w'):=λV hV=>runB_any W0 h mb C sa ta a c1 c2 cap ss ts is tn m1 s1 st av1 kv1 vs1 r1 V HE.o HU.o (dp.o.bl hV) (jr.o.le qb) (HW.o.trans (jo.o.1.bel.trans (hV.mono qb))) jk.o.2.1 jk.o.2.2.1 jk.o.1 jk.o.2.2.2;clear bm ag gy du HRB1 HTB1
 go_cut [8,9] (λp q wx=>∃(P:X)(la:Option Addr)(lc:X)(m2:Mm)(s2:Sb)(ys:L R3)(ls:L G3)(c:Int)(t:By)(AB:_)(av2 kv2:Z)(vs2:By->Z)(r2:Rv),p=J la ls.length lc/\q=D (p_ P)/\Hd (RnF C ss ts ms s st r is m1 s1 m2 s2 ys ls c t AB r2)/\Hd (RnJ W0.heap.size h mb C (J sa ss.length c1) (J ta ts.length c2) ss ts w st av kv r tn a cap is.length m2 s2 (J la ls.length lc) ls av2 kv2 vs2 r2 wx)/\Hd (wx.heap[P]?=M (O #[I c,S t,nS] 120 (0,0))))
 case first=>
  refine Lt.begin 11 (λw'=>w'.cell? ⟨C.hb,10,N⟩=M (D (p_ h))/\w'.heap[w.heap.size]?=M (O #[S tn,J a is.length cap] 99 (0,0))) qi ?_;rw[eU];clear eU;change K 0 _
  iterate 5
   refine Lt.ti (v:=?_) gt.o ?_ ?_;rotate_left 1
   ·exact qdb
   simp only[gX]
  refine Lt.two (i:=5) (j:=9) (oi:={ dst:=M 36,op:=Op.call { callee:=Callee.value (Operand.func 146),args:=#[Operand.tmp 34,Operand.tmp 35],argTypes:=#[165,99] },type:=229,pos := "l5_build.go:101",after:=#[{ on:=3,ground:=Ground.data },{ on:=4,ground:=Ground.data }],guard:=N }) (oj:={ dst:=M 9,op:=Op.alloc 120,type:=0,pos := "l5_build.go:101",after:=#[],guard:=N }) qi rfl rfl (λK hK=>?_) (λK hK=>?_)
  ·go_simp
   have dm:=dp;have me:=jo;have K5:=ki;have Of:=gt;refine(B1.o U (Below.refl _ _)).mono ?_;rintro e w5 (⟨m2,s2,ys,ls,c,t,AB,lv,av2,kv2,vs2,r2,rfl,-,f1,f2,f3,f4,f5,f6,f7,vp,jb,ra5,rk5,sq,-⟩|⟨b,v,r2,m2,s2,rfl,jb,hd5,hf5⟩);rotate_left 1
   ·exact qhw
   have D7:Hd (RnF C ss ts ms s st r is m1 s1 m2 s2 ys ls c t AB r2):=⟨f1,f2,f3,f4,f5,f6,by have:=B3.o;omega⟩;obtain⟨la,lc,elv⟩:=Ay sq.choose_spec.1;have hVsz:=me.o.1.bel.size;have md:Hd (RnJ W0.heap.size h mb C (J sa ss.length c1) (J ta ts.length c2) ss ts w st av kv r tn a cap is.length m2 s2 lv ls av2 kv2 vs2 r2 w5):=⟨vp,me.o.1.trans me.o.2.1 me.o.2.2 dm.o jb,me.o.2.1.trans qb ra5,me.o.2.2.trans qb rk5,sq,jb.blk dm.o Of.o.2 qd,jb.blk dm.o K5.o qd⟩;rw[elv]at md ⊢;have ib:Hd (w5.cell? ⟨C.hb,10,N⟩=M (D (p_ h))/\w5.heap[w.heap.size]?=M (O #[S tn,J a is.length cap] 99 (0,0))):=⟨by rw[cH md.o.bs.rs.bd];rfl,md.o.tb⟩;refine hK.out _ _ (λ_=>ib.o) (λ_=>?_);clear hK K f1 f2 f3 f4 f5 f6 f7 vp jb ra5 rk5 sq dp jo ki gt dm me K5 Of B1
   try simp only[gX]
   change K 6 _
   iterate 3
    refine Lt.ti (v:=?_) ib.o ?_ ?_;rotate_left 1
    ·exact qdb
    simp only[gX]
   refine Lt.sp (i:=9) (λK hK=>?_);go_simp;refine Dn (Q:=λx=>K _ x) ?_;intro w6 bz yz
   try dsimp only
   have HRK:Hd (RnJ W0.heap.size h mb C (J sa ss.length c1) (J ta ts.length c2) ss ts w st av kv r tn a cap is.length m2 s2 (J la ls.length lc) ls av2 kv2 vs2 r2 w6):=md.o.bl bz qb;have HSS6:Hd (w6.cell? ⟨C.hb,10,N⟩=M (D (p_ h))/\w6.heap[w.heap.size]?=M (O #[S tn,J a is.length cap] 99 (0,0))):=⟨by rw[cH HRK.o.bs.rs.bd];rfl,HRK.o.tb⟩;refine hK.out _ _ (λ_=>HSS6.o) (λ_=>?_);clear hK K 
   try simp only[gX]
   refine Lt.sp (i:=10) (λK hK=>?_);go_simp;refine hK.out _ _ (λ_=>HSS6.o) (λ_=>?_);clear hK K 
   try simp only[gX]
   obtain⟨k0,k1,k2,kf⟩:=Dw yz.o;refine Lt.sp (i:=11) (λK hK=>?_);go_simp;refine hK.out _ _ (λh=>absurd rfl h) (λ_=>?_);clear hK K k0 k1 k2 kf
   try simp only[gX]
   refine Lt.done qi ?_ _;go_wp2_with fail;go_meet;have h5z:=Ag md.o.rb;exact⟨w5.heap.size,la,lc,m2,s2,ys,ls,c,t,AB,av2,kv2,vs2,r2,rfl,rfl,D7,HRK.o.set3 yz.o qb qb _ _ _,Bn yz.o _ _ _⟩
  ·go_simp
   refine Dn (Q:=λx=>K _ x) ?_;intro V ll ui
   try dsimp only
   have dm:=Ac (dp.o.bl ll);have me:=Ac (show KQ W0.heap.size h mb C av kv r r1 w V/\An w av av1/\An w kv kv1 from ⟨jo.o.1.after jo.o.2.1 jo.o.2.2 dp.o ll qb,jo.o.2⟩);have K5:=Ac (Ad ll ki.o);have Of:Hd (V.cell? ⟨C.hb,10,N⟩=M (D (p_ h))/\V.heap[w.heap.size]?=M (O #[S tn,J a is.length cap] 99 (0,0))):=⟨by rw[cH dm.o.rs.bd];rfl,Ad ll gt.o.2⟩;refine hK.out _ _ (λ_=>Of.o) (λ_=>?_);clear hK K gt dp jo ki
   try simp only[gX]
   refine Lt.sp (i:=5) (λK hK=>?_);go_simp;refine(B1.o V ll).mono ?_;rintro e w5 (⟨m2,s2,ys,ls,c,t,AB,lv,av2,kv2,vs2,r2,rfl,-,f1,f2,f3,f4,f5,f6,f7,vp,jb,ra5,rk5,sq,-⟩|⟨b,v,r2,m2,s2,rfl,jb,hd5,hf5⟩);rotate_left 1
   ·exact qhw
   have D7:Hd (RnF C ss ts ms s st r is m1 s1 m2 s2 ys ls c t AB r2):=⟨f1,f2,f3,f4,f5,f6,by have:=B3.o;omega⟩;obtain⟨la,lc,elv⟩:=Ay sq.choose_spec.1;have hVsz:=me.o.1.bel.size;have md:Hd (RnJ W0.heap.size h mb C (J sa ss.length c1) (J ta ts.length c2) ss ts w st av kv r tn a cap is.length m2 s2 lv ls av2 kv2 vs2 r2 w5):=⟨vp,me.o.1.trans me.o.2.1 me.o.2.2 dm.o jb,me.o.2.1.trans qb ra5,me.o.2.2.trans qb rk5,sq,jb.blk dm.o Of.o.2 qd,jb.blk dm.o K5.o qd⟩;rw[elv]at md ⊢;have ib:Hd (w5.cell? ⟨C.hb,10,N⟩=M (D (p_ h))/\w5.heap[w.heap.size]?=M (O #[S tn,J a is.length cap] 99 (0,0))):=⟨by rw[cH md.o.bs.rs.bd];rfl,md.o.tb⟩;have jm:Hd (w5.heap[U.heap.size]?=_):=jb.blk dm.o ui.o qd;refine hK.out _ _ (λ_=>ib.o) (λ_=>?_);clear hK K f1 f2 f3 f4 f5 f6 f7 vp jb ra5 rk5 sq dm me K5 Of B1 ui
   try simp only[gX]
   change K 6 _
   iterate 3
    refine Lt.ti (v:=?_) ib.o ?_ ?_;rotate_left 1
    ·exact qdb
    simp only[gX]
   refine Lt.ti (i:=10) (v:=?_) ib.o ?_ ?_;rotate_left 1
   ·exact qdb
   simp only[gX];obtain⟨k0,k1,k2,kf⟩:=Dw jm.o;refine Lt.sp (i:=11) (λK hK=>?_);go_simp;refine hK.out _ _ (λh=>absurd rfl h) (λ_=>?_);clear hK K k0 k1 k2 kf
   try simp only[gX]
   refine Lt.done qi ?_ _;go_wp2_with fail;go_meet;exact⟨U.heap.size,la,lc,m2,s2,ys,ls,c,t,AB,av2,kv2,vs2,r2,rfl,rfl,D7,md.o.set3 jm.o qb qb _ _ _,Bn jm.o _ _ _⟩
 case rest=>
  obtain⟨P,la,lc,m2,s2,ys,ls,c,t,AB,av2,kv2,vs2,r2,rfl,rfl,D7,md,D9⟩:=hcut;obtain⟨wk,rfl⟩:∃wk,wk=wc:=⟨_,rfl⟩;clear B1 dp jo ki gt eU hU1 hUsz;have HBk:Hd (Bw W0 wk):=HW.o.trans md.o.kq.bel;have hwk:=md.o.kq.bel.size;obtain⟨xs,xo,xf⟩:=md.o.lo;have hov:=D7.o.ro.over D7.o.full
  have HKE:Hd (Calls prog 147 #[D (p_ C.hb),G #[J a is.length cap],J la ls.length lc,G #[I c,S t,nS]] wk λe w'=>KeepB W0.heap.size h mb 0 C (J sa ss.length c1) (J ta ts.length c2) ss ts m2 st st (m2.length+st.length) av2 kv2 vs2 s2 r2 is ls c t wk e w'):=
   keepB_any W0 h mb 0 C _ _ ss ts m2 st st _ av2 kv2 vs2 s2 r2 a la cap lc is ls xs c t wk md.o.bs HBk.o D7.o.pre.ok jk.o.1 jk.o.2.1 jk.o.2.2.1 HX.o xo xf (by have:=D7.o.ro.eq;have:=D7.o.ln;omega) D7.o.lok hov.2.1 hov.2.2 hov.1
  obtain⟨t0,t1,tf⟩:=Kv md.o.tb;obtain⟨x0,x1,x2,xf⟩:=Dw D9.o;clear xo xf hov;go_wp2_with fail;clear t0 t1 tf x0 x1 x2 xf;refine HKE.o.mono ?_;clear HKE;rintro e w6 (⟨s3,r3,rfl,Q0,xz,ip,hsn6⟩|⟨v,b,s3,r3,rfl,Q0,F6,ip⟩);rotate_left 1
  ·have HD:=Ac (show Bc ss ts C.n m1 s1 st (.run is [] []) m2 s3 (.bad b)/\Cz W0.heap.size C w6 b v/\KQ W0.heap.size h mb C av kv r r3 w w6 from ⟨D7.o.dd _ _ _ (.overbad D7.o.full Q0),F6,md.o.kq.trans md.o.ra md.o.rk md.o.bs ip⟩)
   clear Q0 F6 ip;unfold Lb;go_wp2_with fail;exact⟨rfl,Or.inr ⟨b,v,r3,m2,s3,rfl,HD.o.2.2,.rfell HB.o HD.o.1,HD.o.2.1⟩⟩
  have HSx:=Ac xz;have HTx:Hd (w6.heap[w.heap.size]?=_):=ip.blk md.o.bs md.o.tb qd;have HRx:Hd (w6.heap[w.heap.size+1]?=_):=ip.blk md.o.bs md.o.rb qd;have HPx:Hd (w6.heap[P]?=_):=ip.blk md.o.bs D9.o qd;have wf:=Ac (show KQ W0.heap.size h mb C av kv r r3 w w6/\An w av av2/\An w kv kv2 from ⟨md.o.kq.trans md.o.ra md.o.rk md.o.bs ip,md.o.ra,md.o.rk⟩);have jw:Hd (Bc ss ts C.n m1 s1 st (.run is [] []) m2 s3 (.ok ⟨c,t,ls⟩)):=D7.o.dd _ _ _ (.over D7.o.full Q0);have HSN:Hd (r3.sn+400200*Db ts ms st<=r.sn+200*s.R.length+400200*Db ts m2 st):=by have:=D7.o.sn;rw[←hsn6]at this;exact this
  have hw6:=wf.o.1.bel.size;have hr6:=Ag HRx.o
  have hran:s3.ran.length<=200:=by
   have h1:=(D7.o.pre.small HE.o.l2).2.2.2
   cases Q0 with
   | ok _ _=>dsimp only;omega
  clear Q0 xz ip hsn6 md D9 HBk
  go_upto_region 7 with fail
  obtain⟨ea,ec,eev⟩:=Ay HSx.o.rs.ran;obtain⟨el,eel⟩:=Aj s3.ran.length;rw[eel]at eev;have EEV:=Ac eev;have EEL:=Ac eel;have hel:el<=200:=by rw[←eel];exact hran
  obtain⟨U,eU⟩:=Aj w6.drew;have bm:Bw w6 U:=qbs;have dp:=Ac (HSx.o.bl bm);have gt:Hd (U.heap[C.hb]?=M (O (Pv C h r3) 168 (0,0))/\U.heap[w.heap.size]?=M (O #[S tn,J a is.length cap] 99 (0,0))):=⟨dp.o.rs.bd,Ad bm HTx.o⟩;have ki:=Ac (Ad bm HRx.o);have Z1:=Ac (Ad bm HPx.o);have jo:Hd (KQ W0.heap.size h mb C av kv r r3 w U):=wf.o.1.after wf.o.2.1 wf.o.2.2 HSx.o bm qb;have hbU2:=bm.size;refine Lt.begin 11 (λw'=>w'.heap[C.hb]?=M (O (Pv C h r3) 168 (0,0))/\w'.heap[w.heap.size]?=M (O #[S tn,J a is.length cap] 99 (0,0))) qi ?_;rw[eU];clear eU bm eev eel;change K 0 _
  iterate 7
   refine Lt.ti (v:=?_) gt.o ?_ ?_;rotate_left 1
   ·rintro w ⟨s1,s2⟩
    obtain⟨t0,t1,-⟩:=Kv s2;(have y0:w.cell? ⟨C.hb,1,N⟩=M (J ea el ec):=by rw[cH s1,←EEV.o];rfl);exact qaw
   simp only[gX]
  refine Lt.sp (i:=7) (λK hK=>?_);go_simp;refine Dn (Q:=λx=>K _ x) ?_;intro w5 cj jm
  try dsimp only
  have ib:Hd (w5.heap[C.hb]?=M (O (Pv C h r3) 168 (0,0))/\w5.heap[w.heap.size]?=M (O #[S tn,J a is.length cap] 99 (0,0))):=⟨Ad cj gt.o.1,Ad cj gt.o.2⟩;refine hK.out _ _ (λ_=>ib.o) (λ_=>?_);clear hK K 
  try simp only[gX]
  refine Lt.sp (i:=8) (λK hK=>?_);have J0:w5.ownsRow W0.heap.size 9 1 (J ea el ec) el (Aq s3.ran):=by have:=Ab dp.o.rs.ran cj;rw[EEV.o,EEL.o]at this;exact this
  have h5:=cj.size;refine Qb rfl qo W0.heap.size ea el ec (Aq s3.ran) qo J0 U.heap.size tn qo jm.o qb qb ?_;intro g' ai w7 ah ae ci;have zc:∀(b:X)(cs:Array Z)(T:TypeId),T≠9->w5.heap[b]?=M (O cs T (0,0))->w7.heap[b]?=M (O cs T (0,0)):=λb cs T hT hb=>Br hb ae (Ae J0 hT hb);have gv:Hd (w7.heap[C.hb]?=M (O (Pv C h r3) 168 (0,0))/\w7.heap[w.heap.size]?=M (O #[S tn,J a is.length cap] 99 (0,0))):=⟨zc _ _ _ qd ib.o.1,zc _ _ _ qd ib.o.2⟩;have gk:w5.grownBy w7 r3.nv.ownBlock:=by rw[EEV.o];exact ae
  have hG:=dp.o.grN (w2:=w7) (nw:=J (p_ g') (el+1) ai) (x:=tn) qb (bel_via cj gk qb (λb e=>(dp.o.rs.ran.lt b e).1)) (k2_via cj gk) (by rw[List.length_append,EEL.o,Aq,List.map_append];exact ah) (λb q=>by
   obtain rfl:g'=b:=qaq
   rcases ci with q|q
   ·exact Or.inl (by rw[EEV.o];exact q)
   ·right;omega)
  have HG:=Ac hG;have HR7:Hd (w7.heap[w.heap.size+1]?=_):=zc _ _ _ qd (Ad cj ki.o);have HP7:Hd (w7.heap[P]?=_):=zc _ _ _ qd (Ad cj Z1.o);refine hK.out _ _ (λ_=>gv.o) (λ_=>?_);clear hK K ae ah gk hG J0 zc ci cj gt ib jm
  try simp only[gX]
  refine Lt.sp (i:=9) (λK hK=>?_);go_simp;refine hK.out _ _ (λ_=>gv.o) (λ_=>?_);clear hK K 
  try simp only[gX]
  refine Lt.sp (i:=10) (λK hK=>?_);go_simp;refine hK.out _ _ (λ_=>gv.o) (λ_=>?_);clear hK K 
  try simp only[gX]
  have y2f:=fZ gv.o.1;have y2:=cK gv.o.1 1;refine Lt.sp (i:=11) (λK hK=>?_);go_simp;refine hK.out _ _ (λh=>absurd rfl h) (λ_=>?_);clear hK K y2 y2f
  try simp only[gX]
  refine Lt.done qi ?_ _;have ne7:∀(b:X)(cs:Array Z)(T:TypeId),T≠168->w7.heap[b]?=M (O cs T (0,0))->(w7.setCell ⟨C.hb,1,N⟩ (J (p_ g') (el+1) ai)).heap[b]?=M (O cs T (0,0)):=λb cs T hT hb=>by rw[hC w7 ⟨C.hb,1,N⟩ _ b (λe=>by have e:b=C.hb:=e;have o:=gv.o.1;rw[←e,hb]at o;injection o with o;injection o with _ o;exact hT o)];exact hb
  have HR8:Hd ((w7.setCell ⟨C.hb,1,N⟩ (J (p_ g') (el+1) ai)).heap[w.heap.size+1]?=_):=ne7 _ _ _ qd HR7.o;have HP8:Hd ((w7.setCell ⟨C.hb,1,N⟩ (J (p_ g') (el+1) ai)).heap[P]?=_):=ne7 _ _ _ qd HP7.o;have t8:=Ac (jo.o.trans wf.o.2.1 wf.o.2.2 dp.o HG.o.2);obtain⟨nw,enw⟩:=Aj (Value.slice (p_ g') (el+1) ai);have gi:=Ac HG.o.1;clear ne7 HR7 HP7 HG gv ki Z1 dp jo HSx HRx HPx HTx;obtain⟨w8,e8⟩:=Aj (w7.setCell ⟨C.hb,1,N⟩ (J (p_ g') (el+1) ai));rw[e8]at gi t8 HR8 HP8 ⊢;rw[enw]at gi t8;clear e8 enw
  go_upto_region 8 with fail
  obtain⟨U8,eU8⟩:=Aj w8.drew;have te:Bw w8 U8:=by rw[←eU8];exact(Below.refl _ _).drew
  have A9:=Ac (gi.o.bl te);have wm:=t8.o.bel.size;have HK9:=Ac (t8.o.after wf.o.2.1 wf.o.2.2 gi.o te qb);have G5:=Ac (Ad te HR8.o);obtain⟨x0,x1,x2,xf⟩:=Dw (Ad te HP8.o);obtain⟨z0,z1,z2,zf⟩:=Dw G5.o;clear te gi t8 HR8 HP8;go_region;clear eU8 x0 x1 x2 xf z0 z1 z2 zf
  all_goals
   have z8:=Bn G5.o (I c) (S t) nS;obtain⟨z0,z1,z2,zf⟩:=Dw z8;go_wp2_with fail;refine bR (v:=Y #[J la ls.length lc,G #[I c,S t,nS]]) (by simp[results,results128,go_sem,z0,z1,z2]) rfl (Or.inl ⟨m2,_,⟨c,t,ls⟩,_,av2,kv2,vs2,_,rfl,⟨la,ls.length,lc,rfl⟩,.ran HB.o jw.o,A9.o.set3 G5.o qd _ _ _,HK9.o.set3 qb qb _ _ _,wf.o.2.1,wf.o.2.2,?_⟩);have:=HSN.o;dsimp only;omega
theorem underB_all(W0:E)(h mb:X)(C:Gg)(sa ta:Option Addr)(c1 c2:X)(ss:L S2)(ts:L T2)(hE:Hn W0 sa ta ss ts)(hT:Kd W0)(hP:Lj W0):∀(n:X)(st:L By),60-st.length=n->st.length<=60->Gb W0 h mb C (J sa ss.length c1) (J ta ts.length c2) ss ts st:=by
 intro n
 induction n with
 | zero=>
   intro st hn jg;exact Wf W0 h mb C sa ta c1 c2 ss ts hE st jg (λnm cm i a cap q1 q2 q3 q4=>qb)
 | succ n ih=>
   intro st hn jg;exact Wf W0 h mb C sa ta c1 c2 ss ts hE st jg (λnm cm i a cap q1 q2 q3 q4=>workB_any W0 h mb C sa ta c1 c2 ss ts hE (st++[nm]) (ih (st++[nm]) qh qh) nm a cap (tx ts i).code q3 (hE.v.pr i q1) hT hP (hE.xc i))
theorem catch_panB(AD:X)(c:Int)(t:By)(ca:Option Addr)(cn cc:X)(older:L PanicEntry)(w:E)(hO:w.heap[AD]?=M (O #[F false,I 0,ze,nS,ze,nS] 213 (0,0))):CallsD prog 148 #[D (p_ AD)] (.panicking ({ v:=.iface 231 (G #[I c,S t,J ca cn cc]),recovered:=false }::older)) w λe u' w'=>
 e=H (Y #[])/\u'=.panicking ({ v:=.iface 231 (G #[I c,S t,J ca cn cc]),recovered:=true }::older)/\w'=((((((w.setCell ⟨AD,0,N⟩ (F false)).setCell ⟨AD,1,N⟩ (I c)).setCell ⟨AD,2,N⟩ (S t)).setCell ⟨AD,3,N⟩ (J ca cn cc)).setCell ⟨AD,4,N⟩ ze).setCell ⟨AD,5,N⟩ nS).alloc (O #[I c,S t,J ca cn cc] 231):=by
 refine callsD_of_wpS func148 rfl λc₀ cs hu=>?_
 apply wpS_seq
 apply wpS_region
 simp[wpOpsS,go_sem,recoverD,hu,ntmps148,Exit.thenS]
 obtain⟨⟨z0,z1,z2,z3,z4,z5⟩,zf⟩:=Rm hO
 have hOl:AD<w.heap.size:=Ag hO
 have hta:∀w:E,(Instr.typeAssert (.iface 231 (G #[I c,S t,J ca cn cc])) 20 231 true).run prog w=.ok (Y #[G #[I c,S t,J ca cn cc],F true]) w:=λw=>qi
 have bx:∀(p x:Z),#[p]++(((Array.replicate 15 undef).setIfInBounds 3 x).setIfInBounds 0 x)=#[p,x,undef,undef,x,undef,undef,undef,undef,undef,undef,undef,undef,undef,undef,undef]:=λp x=>rfl
 refine wpS_of_wp ?_
 rw[bx]
 go_wp2_with fail
 simp[bodyPostS,results,results148]
theorem catch_idleB(AD:X)(w:E):CallsD prog 148 #[D (p_ AD)] .returning w λe u' w'=>e=H (Y #[])/\u'=.returning/\w'=w.alloc (O #[I 0,ze,nS] 231):=by
 refine callsD_of_wpS func148 rfl λc₀ cs hu=>?_
 apply wpS_seq
 apply wpS_region
 simp[wpOpsS,go_sem,recoverD,hu,ntmps148,Exit.thenS]
 have hta:∀w:E,(Instr.typeAssert .nilIface 20 231 true).run prog w=.ok (Y #[G #[I 0,ze,nS],F false]) w:=λw=>qi
 have hne:∀w:E,(binOp BinOp.neq 20 .nilIface .nilIface).run prog w=.ok (F false) w:=λ_=>qi
 have bx:∀(p x:Z),#[p]++(((Array.replicate 15 undef).setIfInBounds 3 x).setIfInBounds 0 x)=#[p,x,undef,undef,x,undef,undef,undef,undef,undef,undef,undef,undef,undef,undef,undef]:=λp x=>rfl
 refine wpS_of_wp ?_
 rw[bx]
 go_wp2_with fail
 cases c₀
 simp_all [bodyPostS,results,results148]

theorem Cz.parts{v:Z}(h:Cz B C w b v):∃c t ca cn cc,v=G #[I c,S t,J ca cn cc]:=by
 obtain⟨_,_,h⟩:=h
 cases b with
 | circle ch=>obtain⟨ca,cn,cc,e,_⟩:=h;exact⟨_,_,_,_,_,e⟩
 | deep nm=>exact⟨_,_,_,_,_,h⟩
 | clash A B=>exact⟨_,_,_,_,_,h⟩
 | full=>exact⟨_,_,_,_,_,h⟩
theorem Cz.kept{v:Z}(h:Cz B C w b v)(hb:w'.heap[C.hb]?=w.heap[C.hb]?)(hk:∀(b:X)(cur:Array Z),w.heap[b]?=M (Obj.cells cur 9 (0,0))->w'.heap[b]?=w.heap[b]?):Cz B C w' b v:=by
 obtain⟨h1,h2,h3⟩:=h;refine⟨(Dd hb).trans h1,(Dd hb).trans h2,?_⟩
 cases b with
 | circle ch=>
   obtain⟨ca,cn,cc,e,ho⟩:=h3;exact⟨ca,cn,cc,e,Al ho λb' q=>by obtain⟨_,cur,hh⟩:=Dr ho q;exact hk b' cur hh⟩
 | deep nm=>exact h3
 | clash A B=>exact h3
 | full=>exact h3
def FirstB(B h mb:X)(C:Gg)(sv tv:Z)(ss:L S2)(ts:L T2)(s:Sb)(av kv:Z)(r:Rv)(nm:By)(w:E)(e:Ending)(w':E):Prop:=
 ∃ms' s' a,Bc ss ts C.n [] s [] (.make nm) ms' s' a/\
  ((∃d lv av' kv' vs' r',a=.ok d/\e=H (Fh d lv)/\(∃la ln lc,lv=J la ln lc)/\Iw B h mb C sv tv ss ts w' ms' [] av' kv' vs' s' r'/\KQ B h mb C av kv r r' w w')\/
   (∃b c t ca cn cc r',a=.bad b/\e=H (G #[F false,I c,S t,J ca cn cc,ze,nS])/\Cz B C w' b (G #[I c,S t,J ca cn cc])/\KQ B h mb C av kv r r' w w'))
theorem firstB_any(W0:E)(h mb:X)(C:Gg)(sa ta:Option Addr)(c1 c2:X)(ss:L S2)(ts:L T2)(nm:By)(av kv:Z)(vs:By->Z)(s:Sb)(r:Rv)(w:E)(hE:Hn W0 sa ta ss ts)(hT:Kd W0)(hP:Lj W0)(cm:Ar nm)(q:Iw W0.heap.size h mb C (J sa ss.length c1) (J ta ts.length c2) ss ts w [] [] av kv vs s r)(hp:Fd ss ts C.n [] s [] r.sn 0)(hW:Bw W0 w):Calls prog 129 #[D (p_ h),S nm] w λe w'=>FirstB W0.heap.size h mb C (J sa ss.length c1) (J ta ts.length c2) ss ts s av kv r nm w e w':=by
 have hB:=hW.size;have M6:C.hb<w.heap.size:=Ag q.rs.bd;have hmf:∀(fn:Fn)(first cap:Array Z)(w:E),(Instr.makeFunc fn first cap).run prog w=.ok (.func fn first cap) w:=λ_ _ _ _=>rfl;obtain⟨W,eW⟩:=Aj (w.alloc (O #[F false,I 0,ze,nS,ze,nS] 213));have bn:Bw w W:=qba
 have G8:Hd (W.heap[w.heap.size]?=M (O #[F false,I 0,ze,nS,ze,nS] 213 (0,0))):=by
  exact qbk
 have yo:=Ac (q.bl bn);have HKW:Hd (KQ W0.heap.size h mb C av kv r r w W):=KQ.of_below q bn hB;have HU:Hd (Calls prog 149 #[D (p_ h),S nm] W λe w'=>Nl W0.heap.size h mb C (J sa ss.length c1) (J ta ts.length c2) ss ts [] s [] av kv vs r nm (λd vs'=>Fh d (vs' nm)) W e w'):=underB_all W0 h mb C sa ta c1 c2 ss ts hE hT hP 60 [] rfl qg W [] nm av kv vs s r yo.o hp cm (hW.trans (bn.mono hB));clear q hW hE hT hP cm bn hp
 go_enter_defers func129,ntmps129
 go_wp2_with fail;refine HU.o.mono ?_;rintro e w4 ⟨ms',s',an,mq,⟨⟨dc,dt,dls⟩,av',kv',vs',r',rfl,rfl,B8,re,ha4,V9,-⟩|⟨b,v,r',rfl,rfl,hv,re⟩⟩
 ·have tu:Hd (w4.heap[w.heap.size]?=_):=re.blk yo.o G8.o qd
  obtain⟨la,ln,lc,hlv⟩:=B8.mkr.vsl nm;obtain⟨fo,efo⟩:=Aj (Bi dc dt);have EF:Hd (Bi dc dt=fo):=efo;unfold Fh;simp only[efo,hlv];have gw:=Ac B8;have Eq:=Ac (HKW.o.trans (An.refl _ _) (An.refl _ _) yo.o re)
  have yx:=Ac mq
  have HA4:=Ac (show An w av av'/\An w kv kv' from ⟨ha4.less HKW.o.bel.size,V9.less HKW.o.bel.size⟩);obtain⟨⟨z0,z1,z2,z3,z4,z5⟩,zf⟩:=Rm tu.o;clear re mq B8 ha4 V9 hlv efo eW yo HKW G8;go_wp2_with fail;refine leaves_cons (f:=148) (args:=#[D (p_ w.heap.size)]) qg qk ?_;refine(catch_idleB w.heap.size _).mono ?_;rintro e u' w'' ⟨rfl,rfl,rfl⟩;have e7:=Ad (Ai _ (O #[I 0,ze,nS] 231)) (Ii tu.o (F true) (I dc) (S dt) nS (S fo) (J la ln lc));obtain⟨⟨y0,y1,y2,y3,y4,y5⟩,_⟩:=Rm e7;have xz:=gw.o.set6 tu.o qd (F true) (I dc) (S dt) nS (S fo) (J la ln lc);have ip:=Eq.o.set6 (b:=w.heap.size) hB (Nat.le_refl _) (F true) (I dc) (S dt) nS (S fo) (J la ln lc);refine⟨Fh ⟨dc,dt,dls⟩ (J la ln lc),by simp[results,results129,go_sem,Fh,EF.o,y0,y1,y2,y3,y4,y5],ms',s',_,yx.o,Or.inl ⟨_,_,av',kv',vs',r',rfl,rfl,⟨_,_,_,rfl⟩,xz.bl (Ai _ _),ip.after HA4.o.1 HA4.o.2 xz (Ai _ _) (Nat.le_trans hB ip.bel.size)⟩⟩
 ·obtain⟨c,t,ca,cn,cc,rfl⟩:=hv.parts
  unfold Lb;dsimp only;have tu:Hd (w4.heap[w.heap.size]?=_):=re.blk yo.o G8.o qd;have Eq:=Ac (HKW.o.trans (An.refl _ _) (An.refl _ _) yo.o re);have uf:=Ac (show Bc ss ts C.n [] s [] (.make nm) ms' s' (.bad b)/\Cz W0.heap.size C w4 b (G #[I c,S t,J ca cn cc]) from ⟨mq,hv⟩);clear re mq hv eW yo HKW G8;go_wp2_with fail;refine leaves_cons (f:=148) (args:=#[D (p_ w.heap.size)]) qg qk ?_;refine(catch_panB w.heap.size c t ca cn cc [] _ tu.o).mono ?_;rintro e u' w'' ⟨rfl,rfl,rfl⟩;have e7:=Ad (Ai _ (O #[I c,S t,J ca cn cc] 231)) (Ii tu.o (F false) (I c) (S t) (J ca cn cc) ze nS);obtain⟨⟨y0,y1,y2,y3,y4,y5⟩,_⟩:=Rm e7;have ip:=Eq.o.set6 (b:=w.heap.size) hB (Nat.le_refl _) (F false) (I c) (S t) (J ca cn cc) ze nS;have hen1:=Cz.kept uf.o.2 (Er (w:=w4) (b:=w.heap.size) (show C.hb≠w.heap.size from qb) (F false) (I c) (S t) (J ca cn cc) ze nS) (λb cur q=>Er (w:=w4) (b:=w.heap.size) (λe=>by subst e;have q2:=tu.o;rw[q]at q2;injection q2 with q2;injection q2 with _ q2;exact absurd q2 qd) (F false) (I c) (S t) (J ca cn cc) ze nS);have hen:=hen1.bl (Ai _ (O #[I c,S t,J ca cn cc] 231));refine⟨G #[F false,I c,S t,J ca cn cc,ze,nS],by simp[results,results129,go_sem,y0,y1,y2,y3,y4,y5],ms',s',_,uf.o.1,Or.inr ⟨b,c,t,ca,cn,cc,r',rfl,rfl,hen,⟨ip.bel.trans ((Ai _ _).mono (Nat.le_trans hB ip.bel.size)),λb' hl h1 h2 h3 h4 h5=>by rw[(Ai _ _).block b' (Nat.lt_of_lt_of_le hl ip.bel.size)];exact ip.keep b' hl h1 h2 h3 h4 h5,ip.new,ip.old.next (λg cs q=>Ad (Ai _ _) q),ip.len⟩⟩⟩
def bdO(hs:X)(r:Rv)(pm vm:Z):Array Z:=#[D (p_ hs),r.nv,r.ev,r.uv,I 0,I 0,nS,nS,ze,ze,pm,vm,r.dv]
structure RstO (B hb hs n:X) (w:E) (s:Sb) (r:Rv) (pm vm:Z):Prop where
 lb:B<=hb/\B<=hs
 wd:1<=n/\n<=8
 bd:w.heap[hb]?=M (O (bdO hs r pm vm) 168 (0,0))
 sh:w.heap[hs]?=M (O #[I n,r.tx,r.qv,r.su] 171 (0,0))
 tx:w.ownsRow B 9 1 r.tx s.T.length (Aq s.T)
 su:w.ownsRow B 9 1 r.su s.T.length (Aq (s.T.map (Av n)))
 qs:Ex w B r.qv s.R
 ran:w.ownsRow B 9 1 r.nv s.ran.length (Aq s.ran)
 held:w.ownsRow B 9 1 r.ev s.held.length (Aq s.held)
 us:∃xs:L Bool,w.ownsRow B 4 1 r.uv s.R.length (xs.map .bool)
 ap:Hp [r.tx,r.su,r.nv,r.ev]
theorem Tu(n:X):(madeCells (Value.bool false).cells (n*1)).toList=(List.replicate n false).map .bool:=by
 exact qls
theorem RstO.fresh{hb hs n mb sb:X}{pm vm nd:Z}(k:RstO B hb hs n w s r pm vm)(hk:∀b,b<w.heap.size->b≠hb->w'.heap[b]?=w.heap[b]?)(hB:B<=w.heap.size)(f9:w'.heap[hb]?=M (O (Pv ⟨hb,hs,sb,n⟩ h ⟨r.tx,r.su,r.qv,r.nv,r.ev,r.uv,nd,0⟩) 168 (0,0)))(hh:w.heap.size<=h)(hmb:w.heap.size<=mb)(hsb:w.heap.size<=sb)(hms:mb≠sb)(hm:w'.heap[h]?=M (O #[sv,tv,.map (M mb),nS,nS,fvC ⟨hb,hs,sb,n⟩] 211 (0,0)))(hmp:Jb w' mb 0 (λ_=>N))(kw:Kb w' sb 0 (λ_ _=>N))(hnd:w'.ownsRow w.heap.size 4 1 nd s.R.length ((List.replicate s.R.length false).map .bool)):Iw B h mb ⟨hb,hs,sb,n⟩ sv tv ss ts w' [] [] nS nS (λ_=>nS) s ⟨r.tx,r.su,r.qv,r.nv,r.ev,r.uv,nd,0⟩:=by
 obtain⟨xs,u1⟩:=k.us;obtain⟨zs,cv,lv,qr⟩:=k.qs
 have um:∀(b:X)(cs:Array Z)(T:TypeId),T≠168->w.heap[b]?=M (O cs T (0,0))->b≠hb:=λb cs T hT hb e=>by
  exact qbd
 have kc:∀(b:X)(cs:Array Z)(T:TypeId),T≠168->w.heap[b]?=M (O cs T (0,0))->w'.heap[b]?=M (O cs T (0,0)):=λb cs T hT hb=>by rw[hk b (Ag hb) (um b cs T hT hb)];exact hb
 have kk:∀ {e sz n:X} {u:Z} {ys:L Z},w.ownsRow B e sz u n ys->e≠168->w'.ownsRow B e sz u n ys:=λho he=>Al ho λb q=>by
  obtain⟨cs,c1⟩:=Az ho b q;rw[c1];exact kc b cs _ he c1
 refine⟨⟨qb,qb,hm,⟨0,qg,hmp.congr (λx=>by rw[Wt (by simp[fd]) (λe=>by obtain⟨j,hj,_⟩:=e;simp at hj)])⟩,⟨[],rfl,World.ownsRow_nil _ _ _ _⟩,World.ownsRow_nil _ _ _ _,λb e=>qbg,λx=>⟨_,_,_,rfl⟩⟩,⟨⟨k.lb.1,k.lb.2,by show B<=sb;omega,hms⟩,k.wd,f9,kc _ _ _ qd k.sh,⟨_,kw,λx y v e=>qu⟩,kk k.tx qd,kk k.su qd,k.qs.kept (λb q=>by obtain⟨cs,c1⟩:=Az qr.row b q;rw[c1];exact kc b cs _ qd c1) (λb cs T hT q=>kc b cs T (by rcases hT with e|e<;>rw[e]<;>decide) q),kk k.ran qd,kk k.held qd,⟨xs,kk u1 qd⟩,⟨_,Ah hnd hB,λi hi=>?_⟩,λb e1 e2=>?_,?_⟩⟩
 ·rw[List.getElem?_replicate]at hi
  split at hi<;>cases hi
 ·have h1:=(u1.lt b e1).2
  have h2:=(hnd.lt b e2).1;omega
 ·have:=k.ap
  unfold Hp at this ⊢;refine List.Pairwise.cons (λu _ b e=>qbg) (List.Pairwise.cons (λu _ b e=>qbg) this)
def BuildB(B hb hs n:X)(sv tv:Z)(ss:L S2)(ts:L T2)(s:Sb)(nm:By)(w:E)(e:Ending)(w':E):Prop:=
 (¬ Ar nm/\e=H (G #[I 9,ze,nS])/\Bw w w')\/
 (Ar nm/\Below B w w'/\(∀(b:X)(cs:Array Z)(T:TypeId),TyO T->w.heap[b]?=M (O cs T (0,0))->w'.heap[b]?=M (O cs T (0,0)))/\∃h mb sb ms' s' a,Bc ss ts n [] s [] (.make nm) ms' s' a/\
   ((∃d av' kv' vs' r',a=.ok d/\e=H (G #[I d.c,S d.t,nS])/\Iw B h mb ⟨hb,hs,sb,n⟩ sv tv ss ts w' ms' [] av' kv' vs' s' r')\/
    (∃b c t ca cn cc,a=.bad b/\e=H (G #[I c,S t,J ca cn cc])/\Cz B ⟨hb,hs,sb,n⟩ w' b (G #[I c,S t,J ca cn cc]))))
theorem buildB_any(W0:E)(hb hs n:X)(sa ta:Option Addr)(c1 c2:X)(ss:L S2)(ts:L T2)(nm:By)(s:Sb)(r:Rv)(pm vm:Z)(w:E)(hE:Hn W0 sa ta ss ts)(hT:Kd W0)(hP:Lj W0)(cm:nm.size<=9223372036854775807)(k:RstO W0.heap.size hb hs n w s r pm vm)(ft:Jz n s)(hran:s.ran=[])(hheld:s.held=[])(hW:Bw W0 w):Calls prog 95 #[D (p_ hb),G #[J sa ss.length c1,J ta ts.length c2],S nm] w λe w'=>BuildB W0.heap.size hb hs n (J sa ss.length c1) (J ta ts.length c2) ss ts s nm w e w':=by
 have fy:=hW.size;have hmf:∀(fn:Fn)(first cap:Array Z)(w:E),(Instr.makeFunc fn first cap).run prog w=.ok (.func fn first cap) w:=λ_ _ _ _=>rfl;have hmm:∀w:E,(Instr.makeMap 166 N).run prog w=.ok (.map (M w.heap.size)) (w.alloc (.map #[] 0)):=λw=>qi;have M9:∀(v0 v1 v2 v3 v4 v5:Z)(w:E),(Instr.field 213 (G #[v0,v1,v2,v3,v4,v5]) 1).run prog w=.ok (G #[v1,v2,v3]) w:=λ_ _ _ _ _ _ _=>qi;have de:∀(a:Addr)(fn:Fn)(x y:Array Z)(m:Mode)(w:E),(store a (.func fn x y) m).run prog w=stored prog w a (.func fn x y) m:=λa fn x y m w=>run_store prog w a _ m rfl;obtain⟨W,eW⟩:=Aj ((w.alloc (O #[J sa ss.length c1,J ta ts.length c2] 40)).alloc (O #[I 0,ze,nS] 120));have bn:Bw w W:=qbo
 have HSP:Hd (W.heap[w.heap.size]?=M (O #[J sa ss.length c1,J ta ts.length c2] 40 (0,0))):=by
  exact qdk
 have jv:Hd (W.heap[w.heap.size+1]?=M (O #[I 0,ze,nS] 120 (0,0))):=by
  show _=_;rw[<- eW];have:=Hc (w.alloc (O #[J sa ss.length c1,J ta ts.length c2] 40)) (O #[I 0,ze,nS] 120)
  rwa [show(w.alloc (O #[J sa ss.length c1,J ta ts.length c2] 40)).heap.size=w.heap.size+1 from qg]at this
 have HVN:=Ac (λV=>Df nm V cm);have HK:=Ac k;have HW:=Ac hW;have my:=Ac bn;have HEN:=Ac (show Hn W0 sa ta ss ts/\Kd W0/\Lj W0 from ⟨hE,hT,hP⟩);have xm:=Ac ft;have HEM:=Ac (show s.ran=[]/\s.held=[] from ⟨hran,hheld⟩);have vg:=bn.size;have cz:=Ag jv.o;obtain⟨z0,z1,z2,zf⟩:=Dw jv.o;clear k hE hT hP ft hran hheld hW bn
 by_cases gg:Ar nm
 rotate_left 1
 ·have HNB:=Ac (Cn gg)
  go_enter func95,ntmps95;go_wp2_with fail;refine(HVN.o W).mono ?_;rintro e w1 ⟨rfl,rfl⟩;rw[HNB.o];clear eW;go_wp2_with fail;have z8:=Bn jv.o (I 9) ze nS;obtain⟨z0,z1,z2,zf⟩:=Dw z8;refine bR (v:=G #[I 9,ze,nS]) qfz rfl (Or.inl ⟨gg,rfl,Gl my.o qb _ _ _⟩)
 have HNB:=Ac (Cs gg);have im:=Ac gg
 have hsl:∃qa qc,r.qv=J qa s.R.length qc:=by
  obtain⟨zs,cv,lv,qr⟩:=HK.o.qs;exact Ay qr.row
 obtain⟨qa,qc,eqv⟩:=hsl;have EQV:=Ac eqv;obtain⟨mR,emR⟩:=Aj s.R.length;have hmR:mR<=2000:=by rw[←emR];exact xm.o.2.1
 have EMR:=Ac emR;have hhb:=Ag HK.o.bd;have hhs:=Ag HK.o.sh;obtain⟨x0,x1⟩:=Fq HSP.o;clear gg eqv emR z0 z1 z2 zf;go_enter func95,ntmps95;go_wp2_with fail;refine(HVN.o W).mono ?_;rintro e w1 ⟨rfl,rfl⟩;rw[HNB.o];clear eW HVN HNB;go_wp2_with fail;refine(Ys sa ta ss.length ts.length c1 c2 W).mono ?_;rintro e w2 ⟨rfl,e2⟩;have ag:Bw W w2:=by rw[e2];exact mkW_below _ _ W
 have ku:Hd (w2.heap[W.heap.size+1+1]?=M (O #[J sa ss.length c1,J ta ts.length c2,.map (M (W.heap.size+1)),nS,nS,.nilFunc] 211 (0,0))):=by show _=_;rw[e2];exact mkW_blk _ _ W
 have pg:Hd (Jb w2 (W.heap.size+1) 0 (λ_=>N)):=by show Jb _ _ _ _;rw[e2];exact mkW_map _ _ W
 have fw:=Ac (Ba my.o ag);have mx:Hd (w2.heap[w.heap.size+1]?=_):=Ad ag jv.o;have uh:Hd (w2.heap[hb]?=M (O (bdO hs r pm vm) 168 (0,0))):=Ad fw.o HK.o.bd;obtain⟨h,eh⟩:=Aj (W.heap.size+1+1);obtain⟨mb,emb⟩:=Aj (W.heap.size+1);have M6:w.heap.size+1<h:=qb;have sj:w.heap.size+1<mb:=qb;have hne:mb≠h:=qb;rw[eh,emb]at ku;rw[emb]at pg;rw[eh];clear e2 eh emb ag x0 x1 HSP jv my;have S0:=cK uh.o 10;have yf:=λj=>fH uh.o j
 go_upto_region 4 with fail
 obtain⟨w3,e3⟩:=Aj (w2.setCell ⟨hb,10,N⟩ (D (p_ h)));have hx3:∀b,b≠hb->w3.heap[b]?=w2.heap[b]?:=λb e=>by rw[←e3];exact hC w2 ⟨hb,10,N⟩ _ b e
 have HD3:Hd (w3.heap[hb]?=M (O (bdO hs r (D (p_ h)) vm) 168 (0,0))):=by show _=_;rw[←e3,jB uh.o];rfl
 have HZ3:Hd (w3.heap.size=w2.heap.size):=by show _=_;rw[←e3];simp
 have B5:Hd (w3.heap[h]?=_):=(hx3 h qb).trans ku.o;have HP3:=Ac (pg.o.same (hx3 mb qb));have d7:Hd (Below W0.heap.size w w3):=by show Below _ _ _;rw[←e3];exact(fw.o.mono fy).setCell (p:=⟨hb,10,N⟩) HK.o.lb.1 _
 rw[e3];clear e3 S0 yf;have S0:=cK HD3.o 10;obtain⟨⟨m0,m1,m2,m3,m4,m5⟩,mf⟩:=Rm B5.o
 go_upto_region 5 with fail
 obtain⟨w4,e4⟩:=Aj (w3.setCell ⟨h,5,N⟩ (.func (.func 128) #[D (p_ hb)] #[]));have hx4:∀b,b≠h->w4.heap[b]?=w3.heap[b]?:=λb e=>by rw[←e4];exact hC w3 ⟨h,5,N⟩ _ b e
 have HM4:Hd (w4.heap[h]?=M (O #[J sa ss.length c1,J ta ts.length c2,.map (M mb),nS,nS,.func (.func 128) #[D (p_ hb)] #[]] 211 (0,0))):=by show _=_;rw[←e4,jB B5.o];rfl
 have HZ4:Hd (w4.heap.size=w3.heap.size):=by show _=_;rw[←e4];simp
 have HD4:Hd (w4.heap[hb]?=_):=(hx4 hb qb).trans HD3.o;have HP4:=Ac (HP3.o.same (hx4 mb qb));have wh:Hd (Below W0.heap.size w w4):=by show Below _ _ _;rw[←e4];exact d7.o.setCell (p:=⟨h,5,N⟩) (show W0.heap.size<=h from qb) _
 have hm4:=HP4.o.lt;rw[e4];clear e4 S0 m0 m1 m2 m3 m4 m5 mf;obtain⟨w5,e5⟩:=Aj (w4.alloc (.map #[] 0));have cj:Bw w4 w5:=qgl;obtain⟨sb,esb⟩:=Aj w4.heap.size;have HSN5:Hd (Kb w5 sb 0 (λ_ _=>N)):=by show Kb _ _ _ _;rw[←e5,←esb];exact Kb.made w4
 have HD5:Hd (w5.heap[hb]?=_):=Ad cj HD4.o;have HM5:Hd (w5.heap[h]?=_):=Ad cj HM4.o;have Z2:=Ac (HP4.o.same (cj.block _ HP4.o.lt));have HZ5:Hd (w5.heap.size=w4.heap.size+1):=by show _=_;rw[←e5];simp
 have y11:=cK HD5.o 11;have yf:=λj=>fH HD5.o j;have pn:=Z2.o.lt;have hhl:=Ag HM5.o;have hmm4:(Instr.makeMap 166 N).run prog w4=.ok (.map (M sb)) w5:=by rw[hmm,e5,esb]
 clear hmm
 go_upto_region 6 with fail
 obtain⟨w6,e6⟩:=Aj (w5.setCell ⟨hb,11,N⟩ (.map (M sb)));have hx6:∀b,b≠hb->w6.heap[b]?=w5.heap[b]?:=λb e=>by rw[←e6];exact hC w5 ⟨hb,11,N⟩ _ b e
 have HD6:Hd (w6.heap[hb]?=M (O (bdO hs r (D (p_ h)) (.map (M sb))) 168 (0,0))):=by show _=_;rw[←e6,jB HD5.o];rfl
 have HZ6:Hd (w6.heap.size=w5.heap.size):=by show _=_;rw[←e6];simp
 have HM6:Hd (w6.heap[h]?=_):=(hx6 h qb).trans HM5.o;have HP6:=Ac (Z2.o.same (hx6 mb qb));have HSN6:=Ac (HSN5.o.same (hx6 sb qb));have yz:Hd (Below W0.heap.size w w6):=by show Below _ _ _;rw[←e6];exact(wh.o.trans (cj.mono (zo wh.o.size))).setCell (p:=⟨hb,11,N⟩) HK.o.lb.1 _
 rw[e6];clear e6 y11 yf hmm4 e5
 have ip:∀b,b<w.heap.size->b≠hb->w6.heap[b]?=w.heap[b]?:=λb h1 h2=>by
  have E7:=fw.o.size;have hz3:=HZ3.o;have hz4:=HZ4.o;rw[hx6 b h2,cj.block b qb,hx4 b qb,hx3 b h2,fw.o.block b h1]
 have hhsb:hs≠hb:=λe=>by have q:=HK.o.sh;rw[e,HK.o.bd]at q;injection q with q;injection q with _ q;exact absurd q qd
 have HSH6:Hd (w6.heap[hs]?=M (O #[I n,r.tx,r.qv,r.su] 171 (0,0))):=(ip hs hhs hhsb).trans HK.o.sh;have y0:=cK HD6.o 0;have v2:w6.cell? ⟨hs,2,N⟩=M (J qa mR qc):=by rw[cH HSH6.o,←EMR.o,←EQV.o];rfl
 obtain⟨i0,ye,bq,bg,bv⟩:=info_parts Tryz.info4b
 go_upto_region 7 with(at_make;refine wpList_make_full _ rfl (.tmp 37) (.tmp 37) 124 rfl w6.heap.size 4 i0 (F false) 1 underlying124 ye bq bg .i64 .i64 _ _ mR rfl rfl rfl rfl qan qm (Nat.le_refl _) ?_;intro w7 dw W4;have ce:Bw w6 w7:=((Below.refl _ _).grown W4 (Nat.le_refl _) qg);have HD7:Hd (w7.heap[hb]?=M (O (bdO hs r (D (p_ h)) (.map (M sb))) 168 (0,0))):=(Ad ce HD6.o);have y12:w7.cell? ⟨hb,12,N⟩=M r.dv:=(by rw[cH HD7.o];rfl);have y12f:∀j,w7.frozen? ⟨hb,j,N⟩=false:=(λj=>fH HD7.o j))
 rw[Tu]at dw;obtain⟨w8,e8⟩:=Aj (w7.setCell ⟨hb,12,N⟩ (J (p_ w6.heap.size) mR mR));obtain⟨nd,end_⟩:=Aj (Value.slice (p_ w6.heap.size) mR mR);have hx8:∀b,b≠hb->w8.heap[b]?=w7.heap[b]?:=λb e=>by rw[←e8];exact hC w7 ⟨hb,12,N⟩ _ b e
 have hD8:w8.heap[hb]?=M (O (Pv ⟨hb,hs,sb,n⟩ h ⟨r.tx,r.su,r.qv,r.nv,r.ev,r.uv,nd,0⟩) 168 (0,0)):=by rw[←e8,jB HD7.o,←end_];rfl
 have hz3:=HZ3.o;have hz4:=HZ4.o;have hz5:=HZ5.o;have hz6:=HZ6.o;have hw6:w.heap.size<=w6.heap.size:=zo fw.o.size;have h67:=ce.size;have T6:w8.heap.size=w7.heap.size:=by rw[←e8];simp
 have l5:∀b,b<w.heap.size->b≠hb->w8.heap[b]?=w.heap[b]?:=λb h1 h2=>by rw[hx8 b h2,ce.block b qb,ip b h1 h2]
 have hM8:=(hx8 h qb).trans ((ce.block h (Ag HM6.o)).trans HM6.o);have hP8:=(HP6.o.same (ce.block mb HP6.o.lt)).same (hx8 mb qb);have jy:=(HSN6.o.same (ce.block sb HSN6.o.lt)).same (hx8 sb qb)
 have hN8:w8.ownsRow w.heap.size 4 1 nd s.R.length ((List.replicate s.R.length false).map .bool):=by
  rw[EMR.o,←end_];have:=Ah dw hw6;exact Al this λb q=>hx8 b (λe=>by obtain⟨cs,c1⟩:=Az this b q;have o:=HD7.o;rw[←e,c1]at o;injection o with o;injection o with _ o;exact absurd o qd)
 have hR8:w8.heap[w.heap.size+1]?=M (O #[I 0,ze,nS] 120 (0,0)):=by
  rw[hx8 _ qb,ce.block _ qb,hx6 _ qb,cj.block _ qb,hx4 _ qb,hx3 _ qb];exact mx.o
 have kh:Iw W0.heap.size h mb ⟨hb,hs,sb,n⟩ (J sa ss.length c1) (J ta ts.length c2) ss ts w8 [] [] nS nS (λ_=>nS) s ⟨r.tx,r.su,r.qv,r.nv,r.ev,r.uv,nd,0⟩:=RstO.fresh HK.o l5 fy hD8 qb qb qb qb hM8 hP8 jy hN8;have T8:Fd ss ts n [] s [] 0 0:=⟨Fv.nil ss ts,xm.o,Nat.zero_le _,by unfold Ku;rw[HEM.o.1,HEM.o.2];exact Nat.zero_le _,Nat.zero_le _⟩
 have hb08:Below W0.heap.size w w8:=by
  rw[←e8];exact(yz.o.trans (ce.mono qb)).setCell (p:=⟨hb,12,N⟩) HK.o.lb.1 _
 rw[e8];clear e8 hx8 hx6 hx4 hx3 cj ip HD7 HD6 HM6 HP6 HSN6 HD5 HM5 Z2 HSN5 HD4 HM4 HP4 HD3 B5 HP3 uh ku pg HSH6 dw W4 y12 y12f y0 v2 ce hN8 hM8 hP8 jy mx fw;have gi:=Ac kh;have HR8:=Ac hR8;have t8:=Ac l5;have HB8:=Ac hb08;have HF:=Ac (firstB_any W0 h mb ⟨hb,hs,sb,n⟩ sa ta c1 c2 ss ts nm _ _ _ s _ w8 HEN.o.1 HEN.o.2.1 HEN.o.2.2 im.o kh T8 (HW.o.trans hb08));have S0:=cK hD8 10;clear kh T8 hR8 l5 hb08 hD8;go_wp2_with fail;refine HF.o.mono ?_;have HKEEP:Hd (∀(V:E)(r':Rv),KQ W0.heap.size h mb ⟨hb,hs,sb,n⟩ nS nS ⟨r.tx,r.su,r.qv,r.nv,r.ev,r.uv,nd,0⟩ r' w8 V->∀(b:X)(cs:Array Z)(T:TypeId),TyO T->w.heap[b]?=M (O cs T (0,0))->V.heap[b]?=M (O cs T (0,0))):=λV r' K b cs T hT q=>K.blk gi.o ((t8.o b (Ag q) (λe=>by have o:=HK.o.bd;rw[←e,q]at o;injection o with o;injection o with _ o;exact hT.2.1 o)).trans q) hT;rintro e w9 ⟨ms',s',an,bi,⟨⟨dc,dt,dls⟩,lv,av',kv',vs',r',rfl,rfl,⟨la,ln,lc,rfl⟩,hs9,hk9⟩|⟨b,c,t,ca,cn,cc,r',rfl,rfl,F6,hk9⟩⟩
 ·have G5:Hd (w9.heap[w.heap.size+1]?=_):=hk9.blk gi.o HR8.o qd
  have HX:=Ac (show Bc ss ts n [] s [] (.make nm) ms' s' (.ok ⟨dc,dt,dls⟩)/\Below W0.heap.size w w9 from ⟨bi,HB8.o.trans hk9.bel⟩);have HKE:=Ac (HKEEP.o _ _ hk9);have A9:=Ac hs9;obtain⟨z0,z1,z2,zf⟩:=Dw G5.o;unfold Fh;dsimp only;clear hk9 bi hs9 S0;go_wp2_with fail;have z8:=Bn G5.o (I dc) (S dt) nS;clear z0 z1 z2 zf;obtain⟨z0,z1,z2,zf⟩:=Dw z8;refine bR (v:=G #[I dc,S dt,nS]) qfz rfl (Or.inr ⟨im.o,Gl HX.o.2 qb _ _ _,λb cs T hT q=>by rw[Fg (zo (Ag q))];exact HKE.o b cs T hT q,h,mb,sb,ms',s',_,HX.o.1,Or.inl ⟨⟨dc,dt,dls⟩,av',kv',vs',r',rfl,rfl,A9.o.set3 G5.o qd _ _ _⟩⟩)
 ·have G5:Hd (w9.heap[w.heap.size+1]?=_):=hk9.blk gi.o HR8.o qd
  have HX:=Ac (show Bc ss ts n [] s [] (.make nm) ms' s' (.bad b)/\Below W0.heap.size w w9/\Cz W0.heap.size ⟨hb,hs,sb,n⟩ w9 b (G #[I c,S t,J ca cn cc]) from ⟨bi,HB8.o.trans hk9.bel,F6⟩);have HKE:=Ac (HKEEP.o _ _ hk9);obtain⟨z0,z1,z2,zf⟩:=Dw G5.o;clear hk9 bi F6 S0;go_wp2_with fail;have z8:=Bn G5.o (I c) (S t) (J ca cn cc);clear z0 z1 z2 zf;obtain⟨z0,z1,z2,zf⟩:=Dw z8;refine bR (v:=G #[I c,S t,J ca cn cc]) qfz rfl (Or.inr ⟨im.o,Gl HX.o.2.1 qb _ _ _,λb cs T hT q=>by rw[Fg (zo (Ag q))];exact HKE.o b cs T hT q,h,mb,sb,ms',s',_,HX.o.1,Or.inr ⟨b,c,t,ca,cn,cc,rfl,rfl,HX.o.2.2.kept (Fg (show hb≠w.heap.size+1 from qb) _ _ _) (λb' cur q=>Fg (λe=>by subst e;have q2:=G5.o;rw[q]at q2;injection q2 with q2;injection q2 with _ q2;exact absurd q2 qd) _ _ _)⟩⟩)
end Go.Proofs.YtbkkjodaaijimaaGreatDoor
