import Derived.Test.YtoakjccojifagaaGreatDoorBuE
import Derived.Test.YtoakjccojifagaaGreatDoorBuH
import Derived.Test.YtoakjccojifagaaGreatDoorBuJ
import Derived.Test.YtoakjccojifagaaGreatDoorBuL
import Derived.Test.YtoakjccojifagaaGreatDoorBuQ
namespace Go.Proofs.YtoakjccojifagaaGreatDoor
open _root_.Go.Proofs.Tryz Go.RowKit Go.Deep
open Value renaming slice->J,string->S,bool->F,agg->G,pointer->D,tuple->Y
open Option renaming some->M,none->N
open Obj renaming cells->O
open Go renaming Value->Z,World->E
open Ending renaming returned->H
open _root_ renaming List->L,Nat->X
set_option linter.unusedVariables false
set_option linter.unusedSimpArgs false
set_option maxHeartbeats 8000000
set_option maxRecDepth 100000
variable {W0 w wr w':E} {h cap i B:X} {C:Ga} {sv tv av kv v:Z} {ss:L S2} {ts:L T2} {ms ms1:Mm} {s s1:Sb} {st:L By} {r:Rv} {is:L I3} {a:Option Addr} {b:Gl}
structure TkI (W0:E) (h mb:X) (C:Ga) (sv tv:Z) (ss:L S2) (ts:L T2) (w:E) (ms:Mm) (s:Sb) (st:L By) (av kv:Z) (r:Rv) (is:L I3) (a:Option Addr) (cap i:X) (wr:E) (ms1:Mm) (s1:Sb) (av1 kv1:Z) (vs1:By->Z) (r1:Rv):Prop where
 dd:∀bv s2 b,Ba ss ts C.n ms1 s1 st (.tri is i s.R.length) bv s2 b->Ba ss ts C.n ms s st (.tri is 0 s.R.length) bv s2 b
 pre:Ff ss ts C.n ms1 s1 st r1.sn (200*(s.R.length-i))
 sn:r1.sn+400200*Dh ts ms st<=r.sn+200*i+400200*Dh ts ms1 st
 bs:Je W0.heap.size h mb C sv tv ss ts wr ms1 st av1 kv1 vs1 s1 r1
 kq:KQ W0.heap.size h mb C av kv r r1 w wr
 ra:An w av av1
 rk:An w kv kv1
 rx:∃rr,s1.R=s.R++rr
 ab:wr.heap[w.heap.size]?=M (O #[J a is.length cap] 92 (0,0))
 rb:wr.heap[w.heap.size+1]?=M (O #[I 0,ze,nS] 121 (0,0))
theorem TkI.bl{mb:X}{av1 kv1:Z}{vs1:By->Z}{r1:Rv}(q:TkI W0 h mb C sv tv ss ts w ms s st av kv r is a cap i wr ms1 s1 av1 kv1 vs1 r1)(hb:Bw wr w')(hB:W0.heap.size<=wr.heap.size):TkI W0 h mb C sv tv ss ts w ms s st av kv r is a cap i w' ms1 s1 av1 kv1 vs1 r1:=
 ⟨q.dd,q.pre,q.sn,q.bs.bl hb,q.kq.after q.ra q.rk q.bs hb hB,q.ra,q.rk,q.rx,Ab hb q.ab,Ab hb q.rb⟩
theorem Zb{R rr:L T3}(h:i<R.length):qx (R++rr) i=qx R i:=by
 exact qmd
structure HoI (W0:E) (h mb:X) (C:Ga) (sv tv:Z) (ss:L S2) (ts:L T2) (w:E) (ms:Mm) (s:Sb) (st:L By) (av kv:Z) (r:Rv) (is:L I3) (a:Option Addr) (cap i:X) (ms1:Mm) (s1:Sb) (ls:L G3) (P AM ml:X) (pv lv:Z) (ot:By) (rc:Int) (rt:By) (zs:L Z) (k:X) (wr:E) (bv:Mm) (s2:Sb) (av2 kv2:Z) (vs2:By->Z) (r2:Rv):Prop where
 dd:∀lx s3 b,Ba ss ts C.n bv s2 st (.holds ls k) lx s3 b->Ba ss ts C.n ms1 s1 st (.holds ls 0) lx s3 b
 eq:Eqs ss ts C.n bv ls k
 pre:Ff ss ts C.n bv s2 st r2.sn (200*(s.R.length-i)-k)
 sn:r2.sn+400200*Dh ts ms st<=r.sn+200*i+k+400200*Dh ts bv st
 bs:Je W0.heap.size h mb C sv tv ss ts wr bv st av2 kv2 vs2 s2 r2
 kq:KQ W0.heap.size h mb C av kv r r2 w wr
 ra:An w av av2
 rk:An w kv kv2
 rx:∃rr,s2.R=s.R++rr
 ab:wr.heap[w.heap.size]?=M (O #[J a is.length cap] 92 (0,0))
 rb:wr.heap[w.heap.size+1]?=M (O #[I 0,ze,nS] 121 (0,0))
 pb:wr.heap[P]?=M (O #[pv,lv,S ot] 95 (0,0))
 fp:Fre h mb C av2 kv2 r2 P
 xb:wr.heap[AM]?=M (O #[I rc,S rt,nS] 121 (0,0))
 lr:wr.ownsRow W0.heap.size 136 3 lv ml zs
theorem HoI.kq2{mb:X}{ls:L G3}{P AM ml:X}{pv lv:Z}{ot:By}{rc:Int}{rt:By}{zs:L Z}{k k':X}{bv lx:Mm}{s2 s3:Sb}{av2 kv2 av3 kv3:Z}{vs2 vs3:By->Z}{r2 r3:Rv}(q:HoI W0 h mb C sv tv ss ts w ms s st av kv r is a cap i ms1 s1 ls P AM ml pv lv ot rc rt zs k wr bv s2 av2 kv2 vs2 r2)(K:KQ W0.heap.size h mb C av2 kv2 r2 r3 wr w')(ha:An wr av2 av3)(hk:An wr kv2 kv3)(b3:Je W0.heap.size h mb C sv tv ss ts w' lx st av3 kv3 vs3 s3 r3)(dd:∀ms4 s4 b,Ba ss ts C.n lx s3 st (.holds ls k') ms4 s4 b->Ba ss ts C.n ms1 s1 st (.holds ls 0) ms4 s4 b)(eq:Eqs ss ts C.n lx ls k')(pre:Ff ss ts C.n lx s3 st r3.sn (200*(s.R.length-i)-k'))(sn:r3.sn+400200*Dh ts ms st<=r.sn+200*i+k'+400200*Dh ts lx st)(rx:∃rr,s3.R=s.R++rr):HoI W0 h mb C sv tv ss ts w ms s st av kv r is a cap i ms1 s1 ls P AM ml pv lv ot rc rt zs k' w' lx s3 av3 kv3 vs3 r3:=
 ⟨dd,eq,pre,sn,b3,q.kq.trans q.ra q.rk q.bs K,q.ra.trans q.kq.bel.size ha,q.rk.trans q.kq.bel.size hk,rx,K.blk q.bs q.ab qd,K.blk q.bs q.rb qd,K.keepF q.pb q.fp,K.fre ha hk (Ag q.pb) q.fp,K.blk q.bs q.xb qd,K.ownK q.bs q.lr qd⟩
theorem take_any(W0:E)(h mb:X)(C:Ga)(sa ta:Option Addr)(c1 c2:X)(ss:L S2)(ts:L T2)(hE:He W0 sa ta ss ts)(st:L By)(hU:Gg W0 h mb C (J sa ss.length c1) (J ta ts.length c2) ss ts st)(ms:Mm)(s:Sb)(av kv:Z)(vs:By->Z)(r:Rv)(a:Option Addr)(cap:X)(is:L I3)(w:E)(q:Je W0.heap.size h mb C (J sa ss.length c1) (J ta ts.length c2) ss ts w ms st av kv vs s r)(hp:Ff ss ts C.n ms s st r.sn (200*s.R.length))(hW:Bw W0 w)(hr:Ch W0 a is)(E4:is.length<=200):Calls prog 109 #[D (p_ C.hb),G #[J a is.length cap]] w λe w'=>TakeB W0.heap.size h mb C (J sa ss.length c1) (J ta ts.length c2) ss ts ms s st av kv r is w e w':=by
 have gi:=hW.size;obtain⟨W,eW⟩:=Aj ((w.alloc (O #[J a is.length cap] 92)).alloc (O #[I 0,ze,nS] 121));have bq:Bw w W:=qbs
 have HAB:Hd (W.heap[w.heap.size]?=M (O #[J a is.length cap] 92 (0,0))):=by
  exact qea
 have lj:Hd (W.heap[w.heap.size+1]?=M (O #[I 0,ze,nS] 121 (0,0))):=by
  show _=_;rw[<- eW];have:=Hj (w.alloc (O #[J a is.length cap] 92)) (O #[I 0,ze,nS] 121)
  rwa [show(w.alloc (O #[J a is.length cap] 92)).heap.size=w.heap.size+1 from qg]at this
 have HQ:=Ad q;have C7:=Ad (q.bl bq);have HI0:Hd (TkI W0 h mb C (J sa ss.length c1) (J ta ts.length c2) ss ts w ms s st av kv r is a cap 0 W ms s av kv vs r):=⟨λ_ _ _ k=>k,hp,qb,C7.o,KQ.of_below q bq gi,An.refl _ _,An.refl _ _,⟨[],qg⟩,HAB.o,lj.o⟩;obtain⟨zs,cv,lv,qr⟩:=q.rs.qs;obtain⟨qa,qc,eqv⟩:=Ax qr.row;obtain⟨y0,-,-,-,-,-,-,-,-,-,y2,-⟩:=C7.o.rs.cellsB;rw[eqv]at y2;obtain⟨m,em⟩:=Aj s.R.length;rw[em]at y2 eqv;have EQV:=Ad eqv;have EM:=Ad em;have rm:m<=2000:=by rw[←em];exact hp.ok.2.1
 have HE:=Ad hE;have HW:=Ad hW;have HU:=Ad hU;have HRW:=Ad hr;clear q hp hW hr hE hU bq qr eqv C7 em;go_enter func109,ntmps109;go_wp2_with fail;refine wp_scope_straight (wp_seq (wp_label ?_));simp only[Exit.then];go_wp2_with fail;clear eW y0 y2
 go_loopw [23] (λv wr=>∃(i:X)(ms1:Mm)(s1:Sb)(av1 kv1:Z)(vs1:By->Z)(r1:Rv),i<=m/\v=I i/\Hd (TkI W0 h mb C (J sa ss.length c1) (J ta ts.length c2) ss ts w ms s st av kv r is a cap i wr ms1 s1 av1 kv1 vs1 r1)) (λi _=>m-(intOf i).toNat)
 case atStart=>exact⟨0,ms,s,av,kv,vs,r,Nat.zero_le _,rfl,HI0⟩
 case round=>
  clear HI0 HAB lj;obtain⟨i,ms1,s1,av1,kv1,vs1,r1,hi,rfl,HI⟩:=hrel;have G6:=HI.o.kq.bel.size
  by_cases aj:i<m
  rotate_left 1
  ·have iy:¬ (i:Int)<(m:Int):=qb
   have HY:=Ad (HI.o.dd _ _ _ (.tend (ss:=ss) (ts:=ts) (n:=C.n) (ms:=ms1) (s:=s1) (st:=st) (is:=is) (i:=i) (m:=s.R.length) qas));obtain⟨z0,z1,z2,zf⟩:=Dx HI.o.rb;go_wp2_with fail;obtain⟨y0,y1,y2,_⟩:=Dx (Bp HI.o.rb (I 0) ze nS);refine bR (v:=Y #[G #[I 0,ze,nS],F false]) (by simp[results,results109,go_sem,y0,y1,y2]) rfl (Or.inl ⟨ms1,s1,av1,kv1,vs1,r1,Or.inr ⟨HY.o,rfl⟩,HI.o.bs.set3 HI.o.rb qd _ _ _,HI.o.kq.set3 qb qb _ _ _,HI.o.ra,HI.o.rk,?_⟩);have:=HI.o.sn;have:=EM.o;omega
  have iy:(i:Int)<(m:Int):=qb;have jr:(0:Int)<=(i:Int):=qb;have hiR:i<s.R.length:=qbb;obtain⟨rr,err⟩:=HI.o.rx;(have hqx:qx s1.R i=qx s.R i:=by rw[err];exact Zb hiR);(have hi1:i<s1.R.length:=by rw[err,List.length_append];omega);obtain⟨g,cp,ca,cc,la,lc,eq2,g1,g2,g3,wv,zs,l1,l2⟩:=HI.o.kq.recAt HQ.o hiR;rw[EQV.o,EM.o]at eq2
  obtain⟨rfl,rfl⟩:qa=p_ g/\qc=cp:=by
   simp only[Value.slice.injEq,true_and]at eq2;exact eq2
  have pc:=Ad (HI.o.pre.ok.2.2 i hi1);have jl:Hd (Vp C.n s1 is i↔((qx s1.R i).code=is/\Za (Ly C.n s1.T (qx s1.R i).out))):=Iff.rfl;have HOTH:Hd (¬ Vp C.n s1 is i->∀bv s2 b,Ba ss ts C.n ms1 s1 st (.tri is (i+1) s.R.length) bv s2 b->Ba ss ts C.n ms s st (.tri is 0 s.R.length) bv s2 b):=λq1 bv s2 b q2=>HI.o.dd _ _ _ (.tother hiR q1 q2);have vq:Hd (Vp C.n s1 is i->∀bv s2,Ba ss ts C.n ms1 s1 st (.holds (qx s1.R i).looks 0) bv s2 .yes->Ba ss ts C.n ms s st (.tri is 0 s.R.length) bv s2 (.hit (rdC (Ly C.n s1.T (qx s1.R i).out)) (rdT (Ly C.n s1.T (qx s1.R i).out)))):=λq1 bv s2 q2=>HI.o.dd _ _ _ (.thit hiR q1 q2);have jk:Hd (Vp C.n s1 is i->∀bv s2,Ba ss ts C.n ms1 s1 st (.holds (qx s1.R i).looks 0) bv s2 .no->∀lx s3 b,Ba ss ts C.n bv s2 st (.tri is (i+1) s.R.length) lx s3 b->Ba ss ts C.n ms s st (.tri is 0 s.R.length) lx s3 b):=λq1 bv s2 q2 lx s3 b q3=>HI.o.dd _ _ _ (.tno hiR q1 q2 q3);have vv:Hd (Vp C.n s1 is i->∀bv s2 b,Ba ss ts C.n ms1 s1 st (.holds (qx s1.R i).looks 0) bv s2 (.bad b)->Ba ss ts C.n ms s st (.tri is 0 s.R.length) bv s2 (.bad b)):=λq1 bv s2 b q2=>HI.o.dd _ _ _ (.tbad hiR q1 q2);obtain⟨dg,dcp,db,edv,hdc,hdn,hdf⟩:=HI.o.bs.dfAt hi1;have HDN:Hd (db=true->NoH ss ts C.n ms1 (qx s1.R i).looks):=hdn
  have A4:Hd (∀V:E,Bw wr V->¬ Vp C.n s1 is i\/NoH ss ts C.n ms1 (qx s1.R i).looks->TkI W0 h mb C (J sa ss.length c1) (J ta ts.length c2) ss ts w ms s st av kv r is a cap (i+1) V ms1 s1 av1 kv1 vs1 r1):=λV hV hA=>by
   have q:=HI.o.bl hV qb;refine⟨λbv s2 b k=>?_,q.pre.le qb,by have:=q.sn;omega,q.bs,q.kq,q.ra,q.rk,q.rx,q.ab,q.rb⟩
   by_cases iw:Vp C.n s1 is i
   ·rcases hA with hA|hA
    ·exact absurd iw hA
    ·exact jk.o iw ms1 s1 (hA.bld s1 st) _ _ _ k
   ·exact HOTH.o iw _ _ _ k
  rw[←hqx]at g1 g2 g3 wv l1 l2;obtain⟨cd,ls,ot,erx⟩:∃x y z,qx s1.R i=⟨x,y,z⟩:=⟨_,_,_,rfl⟩;rw[erx]at g1 g2 g3 wv l1 l2 pc jl vq jk vv HDN A4;dsimp only at g1 g2 g3 wv l1 l2 pc jl vq jk vv HDN A4;have Z6:=Ad l1;have R6:=Ad l2;have it:=Ad wv;have HQX:=Ad erx;have hcdl:cd.length<=200:=(Gx pc.o.1).2;clear l1 l2 wv erx hqx err hdn HOTH;obtain⟨P,eP⟩:=Aj wr.heap.size;obtain⟨wC,eWC⟩:=Aj (wr.alloc (O #[J ca cd.length cc,J la ls.length lc,S ot] 95));have gu:=aB eWC;have HBC:=Ad gu;have I0:=Ad (nW eWC eP);have HIC:=Ad (HI.o.bl gu qb);have HFP:Hd (Fre h mb C av1 kv1 r1 P):=HI.o.bs.fresh qb;(have hPw:w.heap.size+1<P:=by rw[←eP];exact Ag HI.o.rb);obtain⟨d0,d1,d2⟩:=Bb I0.o;obtain⟨y0,-,-,-,-,-,y6,-⟩:=HIC.o.bs.rs.cellsB;rw[edv]at y6;have p0:=Jk HIC.o.ab;have hdc':=Aa gu hdc;have hiI:(i:Int)<(s1.R.length:Int):=qb;clear gu hdc hdf edv;have HDC:=Ad hdc'
  cases db with
  | true=>
    have px:=Ad (A4.o wC HBC.o (Or.inr (HDN.o rfl)))
    go_upto_region 4 with fail
    clear eWC g1 g2 g3 A4 jl vq jk vv HDN pc Z6 R6 it HQX I0 HIC HFP d0 d1 d2 p0
    go_upto_region 16 with fail
    clear y0 y6 hdc';go_wp2_with fail;exact⟨⟨i+1,ms1,s1,av1,kv1,vs1,r1,qb,qj,px.o⟩,qak⟩
  | false=>
    go_upto_region 4 with fail
    clear eWC g1 g2 g3;go_wp2_with fail;clear d0 d1 d2 p0 y0 y6 hdc';refine(equal_any ca a cc cap cd is wC (it.o.bl HBC.o) (HRW.o.bl (HW.o.trans HIC.o.kq.bel)) qb qb).mono ?_;rintro e w1 ⟨af,bb,rfl,hbb⟩;have HBI:=Ad hbb;have d7:=Ad (Ay HBC.o af);have HI1C:=Ad (HIC.o.bl af (zo HBC.o.size));have jp:=Ad (Ab af I0.o);have hP1:P<w1.heap.size:=Ag jp.o;clear af hbb it
    cases bb with
    | false=>
      (have HNA:Hd (¬ Vp C.n s1 is i):=λq=>by have:=HBI.o.2 (jl.o.1 q).1;cases this);have px:=Ad (A4.o w1 d7.o (Or.inl HNA.o));clear HBI A4 jl vq jk vv HDN pc Z6 R6 HQX I0 HIC HFP HI1C jp HNA;exact qkl
    | true=>
      have Q7:Hd (cd=is):=HBI.o.1 rfl;clear HBI;obtain⟨U,eU⟩:=Aj w1.drew;have bn:Bw w1 U:=qax;have vu:=Ad (Ay d7.o bn);have HIU:=Ad (HI1C.o.bl bn (zo d7.o.size));have HPU:=Ad (Ab bn jp.o);obtain⟨-,-,d2⟩:=Bb HPU.o;obtain⟨y0,-⟩:=HIU.o.bs.rs.cellsB;have HG:=Ad (HIU.o.bs.get HIU.o.pre.ok ot);clear bn HI1C jp
      go_upto_region 5 with fail
      refine Lt.begin 99 (λw'=>w'=U) qi ?_;rw[eU];clear eU;have hS:U=U:=rfl;change K 0 _
      iterate 6
       refine Lt.ti (v:=?_) hS ?_ ?_;rotate_left 1
       ·rintro w rfl
        exact qam
       simp only[gX]
      refine Lt.sp (i:=6) (λK hK=>?_);go_simp;refine HG.o.mono ?_;rintro e w2 ⟨O2,A,ok,rfl,hA,hAs⟩;subst O2;have EA:=Ad hA;clear hA;refine hK.out _ _ (λ_=>hS) (λ_=>?_);clear hK K 
      try simp only[gX]
      change K 7 _
      iterate 5
       refine Lt.ti (v:=?_) hS ?_ ?_;rotate_left 1
       ·rintro w rfl
        exact qam
       simp only[gX]
      refine Lt.done qi ?_ _;clear y0 d2 HG hS;go_wp2_with fail;refine(Zx A _ hAs).mono ?_;rintro e w3 ⟨au,⟨zl,rfl⟩|⟨zl,rfl⟩⟩;rotate_left 1
      ·have HNA:Hd (¬ Vp C.n s1 is i):=λq=>zl (by rw[EA.o];exact(jl.o.1 q).2)
       have px:=Ad (A4.o _ (Ay vu.o (Ay au (Ai w3 (O #[I 0,ze,nS] 121)))) (Or.inl HNA.o));clear A4 jl vq jk vv HDN pc Z6 R6 HQX I0 HIC HFP HIU HPU HNA zl au EA;exact qkl
      have vz:Hd (Vp C.n s1 is i):=jl.o.2 ⟨Q7.o,by rw[←EA.o];exact zl⟩;obtain⟨rc,erc⟩:=Aj (rdC A);obtain⟨rt,ert⟩:=Aj (rdT A);have EA2:Hd (Ly C.n s1.T ot=A/\rdC A=rc/\rdT A=rt):=⟨EA.o.symm,erc,ert⟩;rw[erc,ert];clear erc ert hAs EA
      go_upto_region 8 with fail
      obtain⟨w4,e4⟩:=Aj (w3.alloc (O #[I rc,S rt,nS] 121));rw[e4];have ce:Bw w3 w4:=qhd;(have HXB:Hd (w4.heap[w3.heap.size]?=M (O #[I rc,S rt,nS] 121 (0,0))):=by show _=_;rw[←e4];exact Hj _ _);have hb34:=Ay au ce;have vx:=Ad (Ay vu.o hb34);have HI4:=Ad (HIU.o.bl hb34 (zo vu.o.size));have HP4:=Ad (Ab hb34 HPU.o);have vk:=Ad (Ac Z6.o vx.o);(have hPX:P<w3.heap.size:=by have:=Ag HPU.o;have:=au.size;omega);obtain⟨-,d1,-⟩:=Bb HP4.o;have HHIT2:=Ad (vq.o vz.o);have W9:=Ad (jk.o vz.o);have HBAD2:=Ad (vv.o vz.o);rw[EA2.o.1,EA2.o.2.1,EA2.o.2.2]at HHIT2;clear zl au ce hb34 EA2 vq jk vv jl HPU HIU I0 HIC Z6 vu d7 HBC Q7 HDN e4;obtain⟨ml,eml⟩:=Aj ls.length;have EML:=Ad eml;(have zm:ml<=200:=by rw[←eml];exact pc.o.2.2.1);rw[eml]at d1 HP4 vk ⊢;clear eml;obtain⟨AM,eX⟩:=Aj w3.heap.size;rw[eX]at HXB hPX ⊢;clear eX;go_wp2_with fail;clear d1;have HH0:Hd (HoI W0 h mb C (J sa ss.length c1) (J ta ts.length c2) ss ts w ms s st av kv r is a cap i ms1 s1 ls P AM ml (J ca cd.length cc) (J la ml lc) ot rc rt zs 0 w4 ms1 s1 av1 kv1 vs1 r1):=⟨λ_ _ _ k=>k,(λj hj=>qb),HI4.o.pre,by have:=HI4.o.sn;omega,HI4.o.bs,HI4.o.kq,HI4.o.ra,HI4.o.rk,HI4.o.rx,HI4.o.ab,HI4.o.rb,HP4.o,HFP.o,HXB.o,vk.o⟩;have HGS:Hd (GsOk ls):=⟨pc.o.2.2.1,λj hj=>(pc.o.2.2.2 j hj).1⟩;clear HI4 HP4 vk HXB HFP pc vx A4 vz
      go_loopw [64] (λv wx=>∃(k:X)(bv:Mm)(s2:Sb)(av2 kv2:Z)(vs2:By->Z)(r2:Rv),k<=ml/\v=I k/\Hd (HoI W0 h mb C (J sa ss.length c1) (J ta ts.length c2) ss ts w ms s st av kv r is a cap i ms1 s1 ls P AM ml (J ca cd.length cc) (J la ml lc) ot rc rt zs k wx bv s2 av2 kv2 vs2 r2)) (λv _=>ml-(intOf v).toNat)
      case atStart=>exact⟨0,ms1,s1,av1,kv1,vs1,r1,Nat.zero_le _,rfl,HH0⟩
      case round=>
       clear HH0;obtain⟨k,bv,s2,av2,kv2,vs2,r2,hk,rfl,HH⟩:=hrel;have hwx:=HH.o.kq.bel.size;obtain⟨rr2,err2⟩:=HH.o.rx;(have hi2:i<s2.R.length:=by rw[err2,List.length_append];have:=EM.o;omega);have I2:=Ad hi2
       by_cases t6:k<ml
       rotate_left 1
       ·have hkJ:¬ (k:Int)<(ml:Int):=qb
        have HY:=Ad (HHIT2.o _ _ (HH.o.dd _ _ _ (.hend (ss:=ss) (ts:=ts) (n:=C.n) (ms:=bv) (s:=s2) (st:=st) (gs:=ls) (k:=k) (by rw[EML.o];omega))));obtain⟨ug,ucp,ub,eu,hu,huf⟩:=HH.o.bs.usAt hi2;obtain⟨-,-,-,y3,-⟩:=HH.o.bs.rs.cellsB;rw[eu]at y3;have hiI2:(i:Int)<(s2.R.length:Int):=qb;obtain⟨sU,kU⟩:=HH.o.bs.setUs eu hi2;have xU:=kU.blk HH.o.bs HH.o.xb qd;have rU:=kU.blk HH.o.bs HH.o.rb qd;have kqU:=HH.o.kq.trans HH.o.ra HH.o.rk HH.o.bs kU;have HZ:Hd (Je W0.heap.size h mb C (J sa ss.length c1) (J ta ts.length c2) ss ts (wr.setCell ⟨ug,i,N⟩ (F true)) bv st av2 kv2 vs2 s2 r2/\KQ W0.heap.size h mb C av kv r r2 w (wr.setCell ⟨ug,i,N⟩ (F true))/\(wr.setCell ⟨ug,i,N⟩ (F true)).heap[w.heap.size+1]?=M (O #[I 0,ze,nS] 121 (0,0))):=⟨sU,kqU,rU⟩;obtain⟨x0,x1,x2,-⟩:=Dx xU;obtain⟨q0,q1,q2,qf⟩:=Dx rU;clear sU kU xU rU kqU eu err2;go_wp2_with fail;obtain⟨v0,v1,v2,_⟩:=Dx (Bp HZ.o.2.2 (I rc) (S rt) nS);refine bR (v:=Y #[G #[I rc,S rt,nS],F true]) (by simp[results,results109,go_sem,v0,v1,v2]) rfl (Or.inl ⟨bv,s2,av2,kv2,vs2,r2,Or.inl ⟨rc,rt,HY.o,rfl⟩,HZ.o.1.set3 HZ.o.2.2 qd _ _ _,HZ.o.2.1.set3 qb qb _ _ _,HH.o.ra,HH.o.rk,?_⟩);have h1:=HH.o.sn;have h2:=EM.o;omega
       have hkJ:(k:Int)<(ml:Int):=qb;have hkJ0:(0:Int)<=(k:Int):=qb;have E0:k<ls.length:=qcv;obtain⟨a2,cc2,e2,J8⟩:=Gc (by rw[EML.o];exact HH.o.lr) R6.o;rw[EML.o]at e2;cases e2;obtain⟨gb,goff,rfl,g1,g2,g3⟩:=J8 k E0;have HNMk:=Ad (HGS.o.2 k E0);obtain⟨x,ex⟩:=Aj ((gx ls k).name);obtain⟨y,ey⟩:=Aj ((gx ls k).ask);obtain⟨z,ez⟩:=Aj ((gx ls k).sum);have EG:Hd ((gx ls k).name=x/\(gx ls k).ask=y/\(gx ls k).sum=z):=⟨ex,ey,ez⟩;(have sf:Hd (Ar x):=by show Ar x;rw[←ex];exact HNMk.o);rw[ex]at g1;rw[ey]at g2;rw[ez]at g3;clear ex ey ez J8 HNMk err2;obtain⟨AH,eG⟩:=Aj wr.heap.size;obtain⟨wG,eWG⟩:=Aj (wr.alloc (O #[S x,F y,S z] 136));have zv:=aB eWG;have X3:=Ad (nW eWG eG);obtain⟨U,eU⟩:=Aj wG.drew;(have bn:Bw wr U:=by rw[←eU];exact zv.drew);(have HGU:Hd (U.heap[AH]?=M (O #[S x,F y,S z] 136 (0,0))):=by show _=_;rw[←eU];exact X3.o);have dw:=Ad (HH.o.bs.bl bn);have ks:=Ad (HH.o.kq.after HH.o.ra HH.o.rk HH.o.bs bn qb);have R7:=Ad (HH.o.kq2 (KQ.of_below HH.o.bs bn qb) (An.refl _ _) (An.refl _ _) dw.o HH.o.dd HH.o.eq HH.o.pre HH.o.sn HH.o.rx);have uj:=Ad (sumAt_any W0 h mb C sa ta c1 c2 ss ts bv st av2 kv2 vs2 s2 r2 x y U HE.o dw.o (HW.o.trans ks.o.bel) HU.o (HH.o.pre.le qb) sf.o)
       go_upto_region 11 with fail
       clear eWG g1 g2 g3 zv X3 bn;refine Lt.begin 99 (λw'=>w'.heap[AH]?=M (O #[S x,F y,S z] 136 (0,0))) qi ?_;rw[eU];clear eU;change K 0 _
       iterate 6
        refine Lt.ti (v:=?_) HGU.o ?_ ?_;rotate_left 1
        ·exact qdl
        simp only[gX]
       change K 7 _
       iterate 2
        refine Lt.ti (v:=?_) HGU.o ?_ ?_;rotate_left 1
        ·exact qdl
        simp only[gX]
       refine Lt.sp (i:=6) (λK hK=>?_);go_simp;refine uj.o.mono ?_;rintro e w8 (⟨v,rfl,lx,s3,f,av3,kv3,vs3,r3,rfl,hse,hs8,mg,Q0,sy,zj⟩|⟨v,rfl,b,r3,lx,s3,mg,hy8,hf8⟩);rotate_left 1
       ·have vr:Hd (KQ W0.heap.size h mb C av kv r r3 w w8/\Ba ss ts C.n ms s st (.tri is 0 s.R.length) lx s3 (.bad b)/\Df W0.heap.size C w8 b v):=⟨ks.o.trans HH.o.ra HH.o.rk dw.o mg,HBAD2.o _ _ _ (HH.o.dd _ _ _ (.haskbad qcv (EG.o.2.1.trans hy8.1) (by rw[EG.o.1];exact hy8.2))),hf8⟩
        clear mg hy8 hf8;unfold Lh;go_wp2_with fail;exact⟨rfl,Or.inr ⟨b,v,r3,lx,s3,rfl,vr.o.1,vr.o.2.1,vr.o.2.2⟩⟩
       have HG8:Hd (w8.heap[AH]?=M (O #[S x,F y,S z] 136 (0,0))):=mg.blkK dw.o HGU.o qd;obtain⟨O6,G9,hfs⟩:=hse.said HE.o.v HH.o.pre.inv HH.o.pre.ok sf.o;have HSD:Hd (Jm ss ts lx (gx ls k).name (gx ls k).ask=M f/\Ext bv lx):=⟨by rw[EG.o.1,EG.o.2.1];exact O6,G9⟩;have vh:=Ad (hse.pre HE.o.v HH.o.pre sf.o (zo EM.o) zj);have HSE:=Ad hse;have gw:Hd (Je W0.heap.size h mb C (J sa ss.length c1) (J ta ts.length c2) ss ts w8 lx st av3 kv3 vs3 s3 r3/\KQ W0.heap.size h mb C av2 kv2 r2 r3 U w8/\An U av2 av3/\An U kv2 kv3/\r3.sn+400200*Dh ts bv st<=r2.sn+1+400200*Dh ts lx st):=⟨hs8,mg,Q0,sy,zj⟩
       have HRX3:Hd (∃rr,s3.R=s.R++rr):=by
        show ∃rr,_
        rcases HSE.o with⟨_,_,e3,_⟩|⟨_,d,hb,_⟩
        ·rw[e3];exact HH.o.rx
        ·obtain⟨q1,e1⟩:=(hb.inv HE.o.v HH.o.pre.inv HH.o.pre.ok sf.o (λb e=>qt)).2.2.1.recs
         obtain⟨q2,e2⟩:=HH.o.rx;exact⟨q2++q1,by rw[e1,e2,List.append_assoc]⟩
       obtain⟨sm,esm⟩:=Aj (Aq C.n f);have ESM:=Ad esm;rw[esm];clear O6 G9 hfs hse hs8 mg Q0 sy zj esm;refine hK.out _ _ (λ_=>HG8.o) (λ_=>?_);clear hK K 
       try simp only[gX]
       by_cases hq:sm=z
       ·have dq:=Fd hq
        refine Lt.ti (i:=9) (v:=?_) HG8.o ?_ ?_;rotate_left 1
        ·exact qdl
        simp only[gX];refine Lt.done qi ?_ _;have HQE:=Ad hq;clear dq hq;go_wp2_with fail;refine⟨⟨k+1,lx,s3,av3,kv3,vs3,r3,qb,qj,R7.o.kq2 gw.o.2.1 gw.o.2.2.1 gw.o.2.2.2.1 gw.o.1 (λms4 s4 b q=>HH.o.dd _ _ _ ?_) ((HH.o.eq.ext HSD.o.2).succ HSD.o.1 (by rw[ESM.o,HQE.o,EG.o.2.2])) (by have:=vh.o;rwa [Nat.sub_sub]at this) (by have:=HH.o.sn;have:=gw.o.2.2.2.2;omega) HRX3.o⟩,qak⟩;have E0:k<ls.length:=qcv
        rcases HSE.o with⟨e1,rfl,rfl,e4⟩|⟨e1,d,hb,e4⟩
        ·exact .hhas E0 (EG.o.2.1.trans e1) (by rw[EG.o.1,←e4,ESM.o,HQE.o,EG.o.2.2]) q
        ·exact .hask E0 (EG.o.2.1.trans e1) (by rw[EG.o.1];exact hb) (by rw[←e4,ESM.o,HQE.o,EG.o.2.2]) q
       ·have dq:=Hh hq
        refine Lt.ti (i:=9) (v:=?_) HG8.o ?_ ?_;rotate_left 1
        ·exact qdl
        simp only[gX];refine Lt.done qi ?_ _;obtain⟨rr3,err3⟩:=HRX3.o;(have hi3:i<s3.R.length:=by rw[err3,List.length_append];have:=EM.o;omega);obtain⟨rr1,err1⟩:=HI.o.rx
        have hqx3:qx s3.R i=⟨cd,ls,ot⟩:=by
         (have e1:qx s1.R i=qx s.R i:=by rw[err1];exact Zb hiR);rw[err3,Zb hiR,←e1];exact HQX.o
        have hnoh:NoH ss ts C.n lx (qx s3.R i).looks:=by
         rw[hqx3];exact⟨k,qcv,HH.o.eq.ext HSD.o.2,f,HSD.o.1,by rw[ESM.o,EG.o.2.2];exact hq⟩
        have im:Ba ss ts C.n ms1 s1 st (.holds ls 0) lx s3 .no:=by
         have E0:k<ls.length:=qcv;refine HH.o.dd _ _ _ ?_
         rcases HSE.o with⟨e1,rfl,rfl,e4⟩|⟨e1,d,hb,e4⟩
         ·exact .hhasno E0 (EG.o.2.1.trans e1) (by rw[EG.o.1,←e4,ESM.o,EG.o.2.2];exact hq)
         ·exact .haskno E0 (EG.o.2.1.trans e1) (by rw[EG.o.1];exact hb) (by rw[←e4,ESM.o,EG.o.2.2];exact hq)
        obtain⟨dg3,dcp3,db3,ed3,hd3,hdn3,hdf3⟩:=gw.o.1.dfAt hi3;obtain⟨sD,kD⟩:=gw.o.1.setDf ed3 hi3 hnoh;have kq8:=R7.o.kq.trans R7.o.ra R7.o.rk R7.o.bs gw.o.2.1;have ra8:=R7.o.ra.trans R7.o.kq.bel.size gw.o.2.2.1;have rk8:=R7.o.rk.trans R7.o.kq.bel.size gw.o.2.2.2.1;have ab8:=gw.o.2.1.blk R7.o.bs R7.o.ab qd;have rb8:=gw.o.2.1.blk R7.o.bs R7.o.rb qd;have px:Hd (TkI W0 h mb C (J sa ss.length c1) (J ta ts.length c2) ss ts w ms s st av kv r is a cap (i+1) (w8.setCell ⟨dg3,i,N⟩ (F true)) lx s3 av3 kv3 vs3 r3):=⟨λms4 s4 b q=>W9.o _ _ im _ _ _ q,vh.o.le (zo EM.o),by have:=HH.o.sn;have:=gw.o.2.2.2.2;omega,sD,kq8.trans ra8 rk8 gw.o.1 kD,ra8,rk8,HRX3.o,kD.blk gw.o.1 ab8 qd,kD.blk gw.o.1 rb8 qd⟩;obtain⟨-,-,-,-,-,-,y6,-⟩:=gw.o.1.rs.cellsB;rw[ed3]at y6;have hiI3:(i:Int)<(s3.R.length:Int):=qb;clear dq hq kq8 ra8 rk8 ab8 rb8 sD kD im hnoh hqx3 err1 err3 ed3 hdn3 HG8 HSE HSD vh gw R7 dw ks uj HHIT2 W9 HBAD2 HH HRX3
        go_upto_region 16 with fail
        go_wp2_with fail;exact⟨⟨i+1,lx,s3,av3,kv3,vs3,r3,qb,qj,px.o⟩,qak⟩
def KeepB(B h mb k:X)(C:Ga)(sv tv:Z)(ss:L S2)(ts:L T2)(ms:Mm)(mk st:L By)(al:X)(av kv:Z)(vs:By->Z)(s:Sb)(r:Rv)(is:L I3)(ls:L G3)(c:Int)(t:By)(w:E)(e:Ending)(w':E):Prop:=
 (∃s' r',e=H (Y #[])/\Fb C.n s is ls c t s' N/\BS B h mb k C sv tv ss ts w' ms mk st al av kv vs s' r'/\KQ B h mb C av kv r r' w w'/\r'.sn=r.sn)\/
 (∃v b s' r',e=Lh v/\Fb C.n s is ls c t s' (M b)/\Df B C w' b v/\KQ B h mb C av kv r r' w w')
theorem Tryz.info4b:(prog.info? 4).map (λi=>(i.zero,i.size,i.bytes))=M (M (F false),1,1):=qi
theorem keepB_any(W0:E)(h mb k:X)(C:Ga)(sv tv:Z)(ss:L S2)(ts:L T2)(ms:Mm)(mk st:L By)(al:X)(av kv:Z)(vs:By->Z)(s:Sb)(r:Rv)(a la:Option Addr)(ac lc:X)(is:L I3)(ls:L G3)(xs:L Z)(c:Int)(t:By)(w:E)(q:BS W0.heap.size h mb k C sv tv ss ts w ms mk st al av kv vs s r)(hW:Bw W0 w)(fw:Gi C.n s)(hT:Kk W0)(hr:Ch W0 a is)(hp:Ao is=true)(hx:∀i,(ix is i).text.size<=9223372036854775807)(hl:w.ownsRow W0.heap.size 201 3 (J la ls.length lc) ls.length xs)(hf:Bn ls ls.length xs)(hle:ls.length<=200)(hls:Mp ls)(c0:0<=c)(c5:c<=5)(ht:t.size<=2000):Calls prog 111 #[D (p_ C.hb),G #[J a is.length ac],J la ls.length lc,G #[I c,S t,nS]] w λe w'=>KeepB W0.heap.size h mb k C sv tv ss ts ms mk st al av kv vs s r is ls c t w e w':=by
 have gi:=hW.size;obtain⟨W,eW⟩:=Aj ((w.alloc (O #[J a is.length ac] 92)).alloc (O #[I c,S t,nS] 121));have bq:Bw w W:=qbs
 have HAB:Hd (W.heap[w.heap.size]?=M (O #[J a is.length ac] 92 (0,0))):=by
  exact qea
 have lj:Hd (W.heap[w.heap.size+1]?=M (O #[I c,S t,nS] 121 (0,0))):=by
  show _=_;rw[<- eW];have:=Hj (w.alloc (O #[J a is.length ac] 92)) (O #[I c,S t,nS] 121)
  rwa [show(w.alloc (O #[J a is.length ac] 92)).heap.size=w.heap.size+1 from qg]at this
 have M2:=Ad (q.bl bq);have sj:Hd (KQ W0.heap.size h mb C av kv r r w W):=KQ.of_below q bq gi;have HL0:=Ad (Ac hl bq);have HFL:=Ad hf;have X1:=Ad hls;have oh:=Ad fw;have HW:=Ad hW;have ig:=Ad (show Kk W0/\Ch W0 a is/\Ao is=true from ⟨hT,hr,hp⟩);have HX:=Ad hx;have om:=Ad (show 0<=c/\c<=5/\t.size<=2000 from ⟨c0,c5,ht⟩);obtain⟨m,em⟩:=Aj ls.length;have EM:=Ad em;have rm:m<=200:=by rw[←em];exact hle
 rw[em]at HL0 ⊢;clear q hW fw hT hr hp hx hl hf hls bq em c0 c5 ht hle;go_enter func111,ntmps111;go_wp2_with fail;clear eW
 go_loopw [12] (λi wr=>∃(j:X)(U:L By)(r1:Rv),j<=m/\i=I j/\Hd (Dq C.n s.T (Jc (ls.take j)) U N)/\Hd (Vg C.n U)/\Hd (KQ W0.heap.size h mb C av kv r r1 w wr/\r1.sn=r.sn)/\Hd (BS W0.heap.size h mb k C sv tv ss ts wr ms mk st al av kv vs ⟨U,s.R,s.ran,s.held⟩ r1)/\Hd (wr.ownsRow W0.heap.size 201 3 (J la m lc) m xs/\wr.heap[w.heap.size]?=M (O #[J a is.length ac] 92 (0,0))/\wr.heap[w.heap.size+1]?=M (O #[I c,S t,nS] 121 (0,0)))) (λi _=>m-(intOf i).toNat)
 case atStart=>exact⟨0,s.T,r,Nat.zero_le _,rfl,.nil,oh.o.1,⟨sj.o,rfl⟩,M2,⟨HL0.o,HAB.o,lj.o⟩⟩
 case round=>
  clear M2 sj HL0 HAB lj;obtain⟨j,U,r1,hj,rfl,yw,pq,HK,HS,HL⟩:=hrel;have G6:=HK.o.1.bel.size
  by_cases aj:j<m
  ·have iy:(j:Int)<(m:Int):=qb
   have jr:(0:Int)<=(j:Int):=qb;have t6:j<ls.length:=qbb;obtain⟨a2,c2,e2,J8⟩:=Gc (by rw[EM.o];exact HL.o.1) HFL.o;rw[EM.o]at e2;cases e2;obtain⟨b,off,rfl,g1,g2,g3⟩:=J8 j t6;have hz:(gx ls j).sum.size<=2002:=(X1.o _ (Lx t6)).2;(have HSKIP:Hd ((gx ls j).ask=false->Dq C.n s.T (Jc (ls.take (j+1))) U N):=λq=>by rw[Po t6,Oa,q];simpa using yw.o);have HNEXT:Hd ((gx ls j).ask=true->∀U',Dq C.n U [(gx ls j).sum] U' N->Dq C.n s.T (Jc (ls.take (j+1))) U' N):=λq U' k=>by rw[Po t6,Oa,q];exact yw.o.app rfl k
   have HFALL:Hd ((gx ls j).ask=true->∀b,Dq C.n U [(gx ls j).sum] U (M b)->Dq C.n s.T (Jc ls++[Bj c t]) U (M b)):=λq b k=>by
    obtain⟨ys,ey⟩:=Xx t6;rw[ey,q,List.append_assoc];exact yw.o.app rfl (by simpa using (k.more (ys++[Bj c t])).1)
   clear J8;generalize (gx ls j).name=x at *;generalize (gx ls j).sum=z at *;generalize (gx ls j).ask=y at *;obtain⟨wG,eWG⟩:=Aj (wr.alloc (O #[S x,F y,S z] 201));have zv:=aB eWG;(have X3:Hd (wG.heap[wr.heap.size]?=M (O #[S x,F y,S z] 201 (0,0))):=by show _=_;rw[←eWG];exact Hj _ _);have wo:=Ad (HS.o.bl zv);have HKG:Hd (KQ W0.heap.size h mb C av kv r r1 w wG):=HK.o.1.after (An.refl _ _) (An.refl _ _) HS.o zv qb;have HLG:=Ad (show wG.ownsRow W0.heap.size 201 3 (J (M ⟨b,off,N⟩) m lc) m xs/\wG.heap[w.heap.size]?=M (O #[J a is.length ac] 92 (0,0))/\wG.heap[w.heap.size+1]?=M (O #[I c,S t,nS] 121 (0,0)) from ⟨Ac HL.o.1 zv,Ab zv HL.o.2.1,Ab zv HL.o.2.2⟩);obtain⟨-,d1,d2⟩:=Bb X3.o;have hbG':=zv.size;clear zv;cases y
   ·go_wp2_with fail
    clear eWG g1 g2 g3;exact⟨⟨j+1,U,r1,qb,qj,HSKIP.o qae,pq,⟨HKG.o,HK.o.2⟩,wo,HLG⟩,qak⟩
   ·go_wp2_with fail
    clear eWG g1 g2 g3 d1 d2;refine(Rp W0.heap.size h mb k C sv tv ss ts ms mk st al av kv vs _ r1 z wG wo.o qb pq.o hz).mono ?_;rintro e w1 (⟨v,rfl,U',r2,rfl,tz,mo,zn,mn⟩|⟨v,rfl,bb,r2,tz,Le,zn⟩)
    ·have tr:=Ad (HNEXT.o qae U' tz)
     have HT2:Hd (Vg C.n U'):=tz.ok pq.o (λx hx=>by rw[List.mem_singleton]at hx;rw[hx];exact hz);have gg:=Ad (show KQ W0.heap.size h mb C av kv r r2 w w1/\r2.sn=r.sn from ⟨HKG.o.trans (An.refl _ _) (An.refl _ _) wo.o zn,mn.trans HK.o.2⟩);have R6:=Ad (show w1.ownsRow W0.heap.size 201 3 (J (M ⟨b,off,N⟩) m lc) m xs/\w1.heap[w.heap.size]?=M (O #[J a is.length ac] 92 (0,0))/\w1.heap[w.heap.size+1]?=M (O #[I c,S t,nS] 121 (0,0)) from ⟨zn.ownK wo.o HLG.o.1 qd,zn.blk wo.o HLG.o.2.1 qd,zn.blk wo.o HLG.o.2.2 qd⟩);have cu:=Ad mo;clear tz mo zn mn;go_wp2_with fail;exact⟨⟨j+1,U',r2,qb,qj,tr,HT2,gg,cu,R6⟩,qak⟩
    ·have I0:=Ad (HFALL.o qae bb tz)
     have vr:=Ad (show KQ W0.heap.size h mb C av kv r r2 w w1/\Df W0.heap.size C w1 bb v from ⟨HKG.o.trans (An.refl _ _) (An.refl _ _) wo.o zn,Le⟩);exact qkx
  ·have iy:¬ (j:Int)<(m:Int):=qb
   (have M5:Hd (Dq C.n s.T (Jc ls) U N):=by have:=yw.o;rwa [List.take_of_length_le qas]at this);obtain⟨z0,z1,z2,zf⟩:=Dx HL.o.2.2;obtain⟨fo,efo⟩:=Aj (Bj c t);have EF:=Ad efo;(have HFO:Hd (∀V:E,Calls prog 140 #[G #[I c,S t,nS]] V λe w'=>e=H (S fo)/\Bw V w'):=λV=>by rw[<- efo];exact Ry c t V om.o.1 om.o.2.1 om.o.2.2);(have hfos:fo.size<=2002:=by rw[←efo];exact Dt om.o.2.2);clear efo;go_wp2_with fail;refine(HFO.o _).mono ?_;rintro e w1 ⟨rfl,af⟩;have ir:=Ad (HS.o.bl af);have fa:Hd (KQ W0.heap.size h mb C av kv r r1 w w1):=HK.o.1.after (An.refl _ _) (An.refl _ _) HS.o af qb;have Z6:=Ad (show w1.ownsRow W0.heap.size 201 3 (J la m lc) m xs/\w1.heap[w.heap.size]?=M (O #[J a is.length ac] 92 (0,0))/\w1.heap[w.heap.size+1]?=M (O #[I c,S t,nS] 121 (0,0)) from ⟨Ac HL.o.1 af,Ab af HL.o.2.1,Ab af HL.o.2.2⟩);have hb1':=af.size;clear af z0 z1 z2 zf;go_wp2_with fail;refine(Rp W0.heap.size h mb k C sv tv ss ts ms mk st al av kv vs _ r1 fo w1 ir.o qb pq.o hfos).mono ?_;rintro e w2 (⟨v,rfl,U',r2,rfl,tz,mo,zn,mn⟩|⟨v,rfl,bb,r2,tz,Le,zn⟩);rotate_left 1
   ·have I0:Hd (Dq C.n s.T (Jc ls++[Bj c t]) U (M bb)):=by show Dq _ _ _ _ _;rw[EF.o];exact M5.o.app rfl tz
    have vr:=Ad (show KQ W0.heap.size h mb C av kv r r2 w w2/\Df W0.heap.size C w2 bb v from ⟨fa.o.trans (An.refl _ _) (An.refl _ _) ir.o zn,Le⟩);exact qkx
   (have HPC:Hd (Dq C.n s.T (Jc ls++[Bj c t]) U' N):=by show Dq _ _ _ _ _;rw[EF.o];exact M5.o.app rfl tz);have gg:=Ad (show KQ W0.heap.size h mb C av kv r r2 w w2/\r2.sn=r.sn from ⟨fa.o.trans (An.refl _ _) (An.refl _ _) ir.o zn,mn.trans HK.o.2⟩);have R6:=Ad (show w2.ownsRow W0.heap.size 201 3 (J la m lc) m xs/\w2.heap[w.heap.size]?=M (O #[J a is.length ac] 92 (0,0))/\w2.heap[w.heap.size+1]?=M (O #[I c,S t,nS] 121 (0,0)) from ⟨zn.ownK ir.o Z6.o.1 qd,zn.blk ir.o Z6.o.2.1 qd,zn.blk ir.o Z6.o.2.2 qd⟩);have cu:Hd (BS W0.heap.size h mb k C sv tv ss ts w2 ms mk st al av kv vs ⟨U',s.R,s.ran,s.held⟩ r2):=mo;have O2:=gg.o.1.bel.size;clear tz mo zn mn ir fa Z6 HS HK HL yw M5 pq;obtain⟨zs,cv,lv,qr⟩:=cu.o.rs.qs;obtain⟨qa,qc,eqv⟩:=Ax qr.row;have EQV:=Ad eqv;have HQR:=Ad qr;obtain⟨y0,-,-,-,-,-,-,-,y8,-,y10,-⟩:=cu.o.rs.cellsB;rw[eqv]at y10;obtain⟨mR,emR⟩:=Aj s.R.length;have EMR:=Ad emR;have hmR:mR<=2000:=by rw[←emR];exact oh.o.2.1
   try dsimp only at y10
   rw[emR]at y10;clear eqv qr emR
   by_cases hfull:mR=2000
   ·have hfI:((mR:Int) == 2000)=true:=qh
    have HNA:Hd (Fb C.n s is ls c t ⟨U',s.R,s.ran,s.held⟩ (M .full)):=.recs HPC.o (by rw[EMR.o];omega);have Z8:Hd (Df W0.heap.size C w2 .full (G #[I 11,ze,nS])):=⟨by rw[cH cu.o.rs.bd];rfl,by rw[cH cu.o.rs.bd];rfl,rfl⟩;clear hfull;go_wp2_with fail;exact⟨rfl,Or.inr ⟨_,_,_,r2,rfl,HNA.o,Z8.o,gg.o.1⟩⟩
   have hfI:((mR:Int) == 2000)=false:=qh
   go_upto_region 10 with fail
   clear y0 y8 y10;obtain⟨U,eU⟩:=Aj w2.drew;have bn:Bw w2 U:=qbu;have dw:=Ad (cu.o.bl bn);have hshU:=dw.o.rs.sh;rw[EQV.o]at hshU
   try dsimp only at hshU
   rw[EMR.o]at hshU;have ft:Hd (U.heap[C.hb]?=M (O (Tw C h r2) 119 (0,0))/\U.heap[C.hs]?=M (O #[I C.n,r2.tx,J qa mR qc,r2.su] 124 (0,0))/\U.heap[w.heap.size]?=M (O #[J a is.length ac] 92 (0,0))/\U.heap[w.heap.size+1]?=M (O #[I c,S t,nS] 121 (0,0))):=⟨dw.o.rs.bd,hshU,Ab bn R6.o.2.1,Ab bn R6.o.2.2⟩;have ks:Hd (KQ W0.heap.size h mb C av kv r r2 w U):=gg.o.1.after (An.refl _ _) (An.refl _ _) cu.o bn qb;have HLU:=Ad (Ac R6.o.1 bn);have hbU2:=bn.size;have hbWU:Bw W0 U:=HW.o.trans ks.o.bel
   have W8:Hd (Calls prog 141 #[G #[J a is.length ac],J la m lc,G #[I c,S t,nS],I C.n] U λe w'=>Bw U w'∧(((∀i,i<m→Ar (gx ls i).name)∧∃v1 v2,e=H (G #[v1,v2,S (Aq C.n (Bj c t))])∧RecOwn U.heap.size w' v1 v2 is (ls.map (Hm C.n)))∨((∃i,i<m∧¬ Ar (gx ls i).name)∧e=H (G #[nS,nS,ze])))):=by
    have J8:Gk U la ls:=by
     obtain⟨a2,c2,e2,J8⟩:=Gc (by rw[EM.o];exact HLU.o) HFL.o;rw[EM.o]at e2;cases e2;exact J8
    have:=Wm a la N ac lc 0 is ls c t 0 C.n (Bj c t) U (ig.o.1.bl hbWU) (ig.o.2.1.bl hbWU) J8 (zo ((Gx ig.o.2.2).2)) HX.o (by rw[EM.o];exact rm) (λa2 oc V=>by
     obtain⟨d,rfl⟩:=Int.eq_ofNat_of_zero_le om.o.1;have:=Qi d t a2 oc V (zo om.o.2.1) om.o.2.2
     exact this) ig.o.2.2 dw.o.rs.wd.1 dw.o.rs.wd.2 (formB_ne c t) (Dt om.o.2.2) (λi hi=>by have:=(X1.o _ (Lx hi)).2;omega) (λi=>by
     rcases Nat.lt_or_ge i ls.length with q|q
     ·have:=(X1.o _ (Lx q)).1.2.1;omega
     ·unfold gx;rw[gG,List.getElem?_eq_none q];exact Nat.zero_le _)
    rw[EM.o]at this;exact this
   have vu:=Ad bn;refine Lt.begin 29 (λw'=>w'.heap[C.hb]?=M (O (Tw C h r2) 119 (0,0))/\w'.heap[C.hs]?=M (O #[I C.n,r2.tx,J qa mR qc,r2.su] 124 (0,0))/\w'.heap[w.heap.size]?=M (O #[J a is.length ac] 92 (0,0))/\w'.heap[w.heap.size+1]?=M (O #[I c,S t,nS] 121 (0,0))) qi ?_;rw[eU];clear eU hshU bn;change K 0 _
   iterate 3
    refine Lt.ti (v:=?_) ft.o ?_ ?_;rotate_left 1
    ·exact qbj
    simp only[gX]
   refine Lt.ti (i:=3) (v:=?_) ft.o ?_ ?_;rotate_left 1
   ·exact qfi
   simp only[gX];change K 4 _
   iterate 3
    refine Lt.ti (v:=?_) ft.o ?_ ?_;rotate_left 1
    ·exact qbj
    simp only[gX]
   refine Lt.ti (i:=7) (v:=?_) ft.o ?_ ?_;rotate_left 1
   ·exact qfi
   simp only[gX];change K 8 _
   iterate 4
    refine Lt.ti (v:=?_) ft.o ?_ ?_;rotate_left 1
    ·exact qbj
    simp only[gX]
   refine Lt.ti (i:=12) (v:=?_) ft.o ?_ ?_;rotate_left 1
   ·rintro w ⟨s1,s2,s3,s4⟩
    have p0:=Jk s3;obtain⟨x0,x1,x2⟩:=Bb s4;obtain⟨n0,-,n2,-⟩:=Kh s2;exact qam
   simp only[gX];change K 13 _
   iterate 5
    refine Lt.ti (v:=?_) ft.o ?_ ?_;rotate_left 1
    ·exact qbj
    simp only[gX]
   refine Lt.ti (i:=18) (v:=?_) ft.o ?_ ?_;rotate_left 1
   ·exact qfi
   simp only[gX];change K 19 _
   iterate 4
    refine Lt.ti (v:=?_) ft.o ?_ ?_;rotate_left 1
    ·exact qbj
    simp only[gX]
   refine Lt.sp (i:=23) (λK hK=>?_);go_simp;refine W8.o.mono ?_;rintro e w4 ⟨ce,⟨hnames,v1,v2,rfl,rx1,rx2,jb,E7,kw,ut⟩|⟨⟨i,hi,te⟩,_⟩⟩;rotate_left 1
   ·exact absurd (X1.o _ (Lx (by rw[EM.o];exact hi))).1 te
   obtain⟨va1,vc1,ev1⟩:=Ax jb;obtain⟨va2,vc2,ev2⟩:=Ax kw;rw[List.length_map]at ev2;rw[ev1,ev2];have ie:=Ad (dw.o.bl ce);have V8:Hd (w4.heap[C.hb]?=M (O (Tw C h r2) 119 (0,0))/\w4.heap[C.hs]?=M (O #[I C.n,r2.tx,J qa mR qc,r2.su] 124 (0,0))/\w4.heap[w.heap.size]?=M (O #[J a is.length ac] 92 (0,0))/\w4.heap[w.heap.size+1]?=M (O #[I c,S t,nS] 121 (0,0))):=⟨Ab ce ft.o.1,Ab ce ft.o.2.1,Ab ce ft.o.2.2.1,Ab ce ft.o.2.2.2⟩;refine hK.out _ _ (λ_=>V8.o) (λ_=>?_);clear hK K 
   try simp only[gX]
   refine Lt.sp (i:=24) (λK hK=>?_);go_simp;refine Bq (Q:=λx=>K _ x) ?_;intro w5 dh lq
   try dsimp only
   have iz:Hd (w5.heap[C.hb]?=M (O (Tw C h r2) 119 (0,0))/\w5.heap[C.hs]?=M (O #[I C.n,r2.tx,J qa mR qc,r2.su] 124 (0,0))/\w5.heap[w.heap.size]?=M (O #[J a is.length ac] 92 (0,0))/\w5.heap[w.heap.size+1]?=M (O #[I c,S t,nS] 121 (0,0))):=⟨Ab dh V8.o.1,Ab dh V8.o.2.1,Ab dh V8.o.2.2.1,Ab dh V8.o.2.2.2⟩;have ja:=Ad (ie.o.bl dh);refine hK.out _ _ (λ_=>iz.o) (λ_=>?_);clear hK K 
   try simp only[gX]
   refine Lt.sp (i:=25) (λK hK=>?_);have hU4:=ce.size;have h45:=dh.size;have qr5:=((HQR.o.bl vu.o).bl ce).bl dh;have P1:=qr5.row;rw[EQV.o]at P1
   try dsimp only at P1 qr5
   rw[EMR.o]at P1;refine step_appQ2 rfl qo W0.heap.size (J qa mR qc) mR zs qo P1 w4.heap.size _ _ _ qo lq.o qcx qb qb ?_;intro g' ai w7 ah ae ct hold;have hq5n:=λ(b:X) (cs:Array Z) (T:TypeId) (hT:T≠95) (hb:w5.heap[b]?=M (O cs T (0,0)))=>Ae P1 hT hb;have D2:∀(b:X)(cs:Array Z)(T:TypeId),T≠95->w5.heap[b]?=M (O cs T (0,0))->w7.heap[b]?=M (O cs T (0,0)):=λb cs T hT hb=>Bx hb ae (hq5n b cs T hT hb);have iq:Hd (w7.heap[C.hb]?=M (O (Tw C h r2) 119 (0,0))/\w7.heap[C.hs]?=M (O #[I C.n,r2.tx,J qa mR qc,r2.su] 124 (0,0))/\w7.heap[w.heap.size]?=M (O #[J a is.length ac] 92 (0,0))/\w7.heap[w.heap.size+1]?=M (O #[I c,S t,nS] 121 (0,0))):=⟨D2 _ _ _ qd iz.o.1,D2 _ _ _ qd iz.o.2.1,D2 _ _ _ qd iz.o.2.2.1,D2 _ _ _ qd iz.o.2.2.2⟩;(have ii:w5.grownBy w7 r2.qv.ownBlock:=by rw[EQV.o,EMR.o];exact ae);(have hold2:Lo r2.qv w5 w7:=by rw[EQV.o,EMR.o];exact hold);(have aq:w7.ownsRow W0.heap.size 95 3 (J (p_ g') (mR+1) ai) (s.R.length+1) (zs++[J va1 is.length vc1,J va2 ls.length vc2,S (Aq C.n (Bj c t))]):=by rw[EMR.o];exact ah);have hadd:=Hp.addI (h:=C.hs) (rec:=⟨is,ls.map (Hm C.n),Aq C.n (Bj c t)⟩) qr5 ii aq (Ah (Ac (ev1▸jb) dh) qb) E7 (Ah (Ac (ev2▸kw) dh) qb) ut (λi hi b q1 q2=>by rw[←ev1]at q2;have h1:=(jb.lt b q2).1;obtain⟨ys,r1,_⟩:=HQR.o.code i hi;have h2:=(r1.lt b q1).2;omega) (λi hi b q1 q2=>by rw[←ev2]at q2;have h1:=(kw.lt b q2).1;obtain⟨ys,r1,_⟩:=HQR.o.look i hi;have h2:=(r1.lt b q1).2;omega) iq.o.2.1 (J (p_ g') (mR+1) ai);have hq5b:∀b,r2.qv.ownBlock=M b->W0.heap.size<=b:=λb e=>(qr5.row.lt b e).1;have hM:=Ki.of ja.o.rs
   have hG:=hM.gQ (w2:=w7) qb ja.o.ownA.1 ja.o.ownA.2 ((Below.refl _ _).grown ii qb hq5b) (λb h1 h2=>ii.block b h1 (λe=>h2 e.symm)) hadd (λys hy i hi=>by
    have h1:=hy i hi
    rcases Nat.lt_or_ge i s.R.length with q|q
    ·rw[Zb q];exact h1
    ·obtain⟨k1,h2,_⟩:=h1
     unfold qx at h2;rw[gG,List.getElem?_eq_none q]at h2
     exact absurd h2 (Nat.not_lt_zero _)) (λb q=>by
    obtain rfl:g'=b:=qar
    rcases ct with q|q
    ·exact Or.inl (by rw[EQV.o,EMR.o];exact q)
    ·right;omega)
   have HG:=Ad hG
   have HOQ:Hd (Lo r2.qv w2 (w7.setCell ⟨C.hs,2,N⟩ (J (p_ g') (mR+1) ai))):=by
    refine Lo.next (w1:=w7) (λg l cp cs e hb=>?_) (λg cs hb=>?_)
    ·exact hold2 g l cp cs e (Ab dh (Ab ce (Ab vu.o hb)))
    ·rw[Dj w7 ⟨C.hs,2,N⟩ _ g (λe=>by have e:g=C.hs:=e;subst e;have o:=iq.o.2.1;rw[hb]at o;injection o with o;injection o with _ o;exact absurd o qd)];exact hb
   have gj:Hd (FrR W0.heap.size C r2 r2 w2 w5):=FrR.of_below (Ay vu.o (Ay ce dh)) qb;have h57:w5.heap.size<=w7.heap.size:=ae.size;refine hK.out _ _ (λ_=>iq.o) (λ_=>?_);clear hK K ae ah hold ii hold2 aq hadd hM hG qr5 P1 hq5n D2 ct hq5b dh ce jb kw E7 ut ev1 ev2;simp only[gX];refine Lt.sp (i:=26) (λK hK=>?_);go_simp;refine hK.out _ _ (λ_=>iq.o) (λ_=>?_);clear hK K 
   try simp only[gX]
   refine Lt.sp (i:=27) (λK hK=>?_);go_simp;refine hK.out _ _ (λ_=>iq.o) (λ_=>?_);clear hK K 
   try simp only[gX]
   refine Lt.ti (i:=28) (v:=?_) iq.o ?_ ?_;rotate_left 1
   ·exact qbj
   simp only[gX];obtain⟨-,-,n2,-,nf⟩:=Kh iq.o.2.1;refine Lt.sp (i:=29) (λK hK=>?_);go_simp;refine hK.out _ _ (λh=>absurd rfl h) (λ_=>?_);clear hK K n2 nf
   try simp only[gX]
   refine Lt.done qi ?_ _;obtain⟨zb,e10⟩:=Aj (w7.setCell ⟨C.hs,2,N⟩ (J (p_ g') (mR+1) ai));rw[e10]at HG HOQ ⊢;(have hs10:w7.heap.size<=zb.heap.size:=by rw[←e10];simp);obtain⟨nq,enq⟩:=Aj (Value.slice (p_ g') (mR+1) ai);have ENQ:=Ad enq;rw[enq]at HG;clear e10 enq;obtain⟨ux,uo⟩:=HG.o.1.us;obtain⟨ua,uc,eu⟩:=Ax uo;rw[EMR.o]at eu uo;have EU:=Ad eu;rw[eu]at uo;have HUA:Hd (∀o:Obj,(zb.alloc o).ownsRow W0.heap.size 4 1 (J ua mR uc) mR (ux.map .bool)):=λo=>uo.alloc o;have HUO:=Ad uo;have yn:=HG.o.1.bd;(have y3:zb.cell? ⟨C.hb,3,N⟩=M (J ua mR uc):=by rw[cH yn,←eu];rfl);have hhb:C.hb<zb.heap.size:=Ag yn;obtain⟨i0,E5,bo,bm,cm⟩:=info_parts Tryz.info4b;clear eu uo
   go_upto_region 12 with(at_builtin;refine wpList_append_lies _ rfl (.tmp 72) (.tmp 73) 64 rfl W0.heap.size 4 i0 (F false) 1 1 underlying64 E5 bo bm cm rfl qd _ mR (ux.map .bool) rfl (HUA.o _) ⟨zb.heap.size,0,N⟩ 1 1 [F true] rfl rfl (cell_one_new _ _ _) qaf qb qm qb qh (zb.heap.size+1) qg ?_;intro g11 cp11 B1 hown11 zq hl11 hlt11;have hh11:B1.heap[C.hb]?=M (O (Tw C h ⟨r2.tx,r2.su,nq,r2.nv,r2.ev,r2.uv,r2.dv,r2.sn⟩) 119 (0,0)):=(by rw[zq.block C.hb qh (λe=>Ae HUO.o qd yn e.symm),Lib.alloc_old _ _ _ hhb];exact yn);have y3b:B1.cell? ⟨C.hb,3,N⟩=M r2.uv:=(by rw[cH hh11];rfl);have y3f:∀j,B1.frozen? ⟨C.hb,j,N⟩=false:=(λj=>fH hh11 j))
   (have hub:∀b,r2.uv.ownBlock=M b->W0.heap.size<=b:=λb e=>by have e2:=EU.o;dsimp only at e2;rw[e2]at e;exact(HUO.o.lt b e).1);have hgu:(zb.alloc (O #[F true] 4)).grownBy B1 r2.uv.ownBlock:=by have e2:=EU.o;dsimp only at e2;rw[e2];exact zq
   have hG2:=HG.o.1.gU (w2:=B1) (nw:=J (p_ g11) (mR+1) cp11) (nxs:=ux++[true]) (lu2:=mR+1) qb (λb e=>by have:=ja.o.ownA.1 b e;omega) (λb e=>by have:=ja.o.ownA.2 b e;omega) (bel_of hgu qb hub) (k2_of hgu) (by rw[List.map_append];exact hown11) (λb q=>by
    obtain rfl:g11=b:=qar;have e2:=EU.o;dsimp only at e2 ⊢;rw[e2]
    rcases hl11 with q|q;exact Or.inl q;exact Or.inr qb)
   (have HK11:Hd (∀(g:X)(cs:Array Z),zb.heap[g]?=M (O cs 95 (0,0))->(B1.setCell ⟨C.hb,3,N⟩ (J (p_ g11) (mR+1) cp11)).heap[g]?=M (O cs 95 (0,0))):=λg cs hb=>by rw[Dj B1 ⟨C.hb,3,N⟩ _ g (λe=>by have e:g=C.hb:=e;subst e;have o:=yn;rw[hb]at o;injection o with o;injection o with _ o;exact absurd o qd),k2_of hgu g (Ag hb) (λe=>by have e2:=EU.o;(try dsimp only at e2);rw[e2]at e;exact Ae HUO.o qd hb e)];exact hb);have I4:=Ad hG2;clear hG2 hgu zq hown11 y3 y3b y3f hh11 hl11 hlt11 yn hhb HUA HUO ft V8 iz iq;obtain⟨G2,e12⟩:=Aj (B1.setCell ⟨C.hb,3,N⟩ (J (p_ g11) (mR+1) cp11));obtain⟨nu,enu⟩:=Aj (Value.slice (p_ g11) (mR+1) cp11);rw[e12]at I4 HK11 ⊢;rw[enu]at I4;have hs12:zb.heap.size<=G2.heap.size:=I4.o.2.bel.size;clear e12 enu;obtain⟨dx,do_,dd⟩:=I4.o.1.df;obtain⟨da,dc,ed⟩:=Ax do_;rw[EMR.o]at ed do_;have ED:=Ad ed;rw[ed]at do_;have HDD:=Ad dd;have HDA:Hd (∀o:Obj,(G2.alloc o).ownsRow W0.heap.size 4 1 (J da mR dc) mR (dx.map .bool)):=λo=>do_.alloc o;have Do:=Ad do_;have F1:=I4.o.1.bd;(have y12:G2.cell? ⟨C.hb,12,N⟩=M (J da mR dc):=by rw[cH F1,←ed];rfl);have hhb2:C.hb<G2.heap.size:=Ag F1;clear ed do_ dd
   go_wp2_with (at_builtin;refine wpList_append_lies _ rfl (.tmp 81) (.tmp 82) 64 rfl W0.heap.size 4 i0 (F false) 1 1 underlying64 E5 bo bm cm rfl qd _ mR (dx.map .bool) rfl (HDA.o _) ⟨G2.heap.size,0,N⟩ 1 1 [F false] rfl rfl (cell_one_new _ _ _) qaf qb qm qb qh (G2.heap.size+1) qg ?_;intro g13 cp13 S1 hown13 P5 hl13 hlt13;have hh13:S1.heap[C.hb]?=M (O (Tw C h ⟨r2.tx,r2.su,nq,r2.nv,r2.ev,nu,r2.dv,r2.sn⟩) 119 (0,0)):=(by rw[P5.block C.hb qh (λe=>Ae Do.o qd F1 e.symm),Lib.alloc_old _ _ _ hhb2];exact F1);have y12b:S1.cell? ⟨C.hb,12,N⟩=M r2.dv:=(by rw[cH hh13];rfl);have y12f:∀j,S1.frozen? ⟨C.hb,j,N⟩=false:=(λj=>fH hh13 j))
   (have hdb:∀b,r2.dv.ownBlock=M b->W0.heap.size<=b:=λb e=>by have e2:=ED.o;(try dsimp only at e2);rw[e2]at e;exact(Do.o.lt b e).1);have ru:(G2.alloc (O #[F false] 4)).grownBy S1 r2.dv.ownBlock:=by have e2:=ED.o;(try dsimp only at e2);rw[e2];exact P5
   have hG3:=I4.o.1.gD (w2:=S1) (nw:=J (p_ g13) (mR+1) cp13) (nxs:=dx++[false]) (ld2:=mR+1) qb (λb e=>by have:=ja.o.ownA.1 b e;omega) (λb e=>by have:=ja.o.ownA.2 b e;omega) (bel_of ru qb hdb) (k2_of ru) (by rw[List.map_append];exact hown13) (λi hi=>HDD.o i (by
    rcases Nat.lt_or_ge i dx.length with q|q
    ·rwa [List.getElem?_append_left q]at hi
    ·rw[List.getElem?_append_right q]at hi
     rcases Nat.eq_zero_or_pos (i-dx.length)with q2|q2
     ·rw[q2]at hi;simp at hi
     ·rw[List.getElem?_eq_none qh]at hi;cases hi)) (λb q=>by
    obtain rfl:g13=b:=qar;have e2:=ED.o;(try dsimp only at e2);(try dsimp only);rw[e2]
    rcases hl13 with q|q;exact Or.inl q;exact Or.inr qb)
   have HG3:=Ad hG3;clear hG3;(have HK13:Hd (∀(g:X)(cs:Array Z),G2.heap[g]?=M (O cs 95 (0,0))->(S1.setCell ⟨C.hb,12,N⟩ (J (p_ g13) (mR+1) cp13)).heap[g]?=M (O cs 95 (0,0))):=λg cs hb=>by rw[Dj S1 ⟨C.hb,12,N⟩ _ g (λe=>by have e:g=C.hb:=e;subst e;have o:=F1;rw[hb]at o;injection o with o;injection o with _ o;exact absurd o qd),k2_of ru g (Ag hb) (λe=>by have e2:=ED.o;(try dsimp only at e2);rw[e2]at e;exact Ae Do.o qd hb e)];exact hb);have hF:=gj.o.trans (HG.o.2.trans (I4.o.2.trans HG3.o.2));(have el:(s.R++[(⟨is,ls.map (Hm C.n),Aq C.n (Bj c t)⟩:T3)]).length=mR+1:=by rw[List.length_append,EMR.o];rfl);obtain⟨b1,k1⟩:=cu.o.upd hF.bel hF.keep (Ki.to (s:=⟨U',s.R++[⟨is,ls.map (Hm C.n),Aq C.n (Bj c t)⟩],s.ran,s.held⟩) (by dsimp only;rw[el];exact HG3.o.1)) hF.new ((HOQ.o.next HK11.o).next HK13.o) (by rw[EQV.o,←ENQ.o];simp only[slen];rw[EMR.o];omega);refine bodyPost_end (v:=Y #[]) (by simp[results,results111,go_sem]) rfl ?_;exact Or.inl ⟨_,_,rfl,Fb.ok HPC.o (by rw[EMR.o];omega),b1,gg.o.1.trans (An.refl _ _) (An.refl _ _) cu.o k1,gg.o.2⟩
structure RnF (C:Ga) (ss:L S2) (ts:L T2) (ms:Mm) (s:Sb) (st:L By) (r:Rv) (is:L I3) (m1:Mm) (s1:Sb) (m2:Mm) (s2:Sb) (ys:L R3) (ls:L G3) (c:Int) (t:By) (AB:_) (r2:Rv):Prop where
 full:Ci is ys Mh (.over c t AB)
 ro:Gj is ys ls
 ln:ys.length<=200
 lok:Mp ls
 dd:∀lx s3 x,Ba ss ts C.n m2 s2 st (.run is ys ls) lx s3 x->Ba ss ts C.n m1 s1 st (.run is [] []) lx s3 x
 pre:Ff ss ts C.n m2 s2 st r2.sn 0
 sn:r2.sn+400200*Dh ts ms st<=r.sn+200*s.R.length+400200*Dh ts m2 st
structure RnJ (B h mb:X) (C:Ga) (sv tv:Z) (ss:L S2) (ts:L T2) (w:E) (st:L By) (av kv:Z) (r:Rv) (tn:By) (ga:Option Addr) (cap il:X) (m2:Mm) (s2:Sb) (lv:Z) (ls:L G3) (av2 kv2:Z) (vs2:By->Z) (r2:Rv) (wx:E):Prop where
 bs:Je B h mb C sv tv ss ts wx m2 st av2 kv2 vs2 s2 r2
 kq:KQ B h mb C av kv r r2 w wx
 ra:An w av av2
 rk:An w kv kv2
 lo:Me wx B lv ls
 tb:wx.heap[w.heap.size]?=M (O #[S tn,J ga il cap] 99 (0,0))
 rb:wx.heap[w.heap.size+1]?=M (O #[I 0,ze,nS] 121 (0,0))
section
variable {B h mb:X} {C:Ga} {sv tv:Z} {ss:L S2} {ts:L T2} {w:E} {st:L By} {av kv:Z} {r:Rv} {tn:By} {ga:Option Addr} {cap il:X} {m2:Mm} {s2:Sb} {lv:Z} {ls:L G3} {av2 kv2:Z} {vs2:By->Z} {r2:Rv} {wx wy:E}
theorem RnJ.bl(k:RnJ B h mb C sv tv ss ts w st av kv r tn ga cap il m2 s2 lv ls av2 kv2 vs2 r2 wx)(hb:Bw wx wy)(hB:B<=w.heap.size):RnJ B h mb C sv tv ss ts w st av kv r tn ga cap il m2 s2 lv ls av2 kv2 vs2 r2 wy:=
 ⟨k.bs.bl hb,k.kq.after k.ra k.rk k.bs hb (zo k.kq.bel.size),k.ra,k.rk,k.lo.same (λb cs q=>Ab hb q),Ab hb k.tb,Ab hb k.rb⟩
theorem RnJ.set3(k:RnJ B h mb C sv tv ss ts w st av kv r tn ga cap il m2 s2 lv ls av2 kv2 vs2 r2 wx){P:X}{u0 u1 u2:Z}(hp:wx.heap[P]?=M (O #[u0,u1,u2] 121 (0,0)))(hn:w.heap.size+1<P)(hB:B<=w.heap.size)(v0 v1 v2:Z):RnJ B h mb C sv tv ss ts w st av kv r tn ga cap il m2 s2 lv ls av2 kv2 vs2 r2 (((wx.setCell ⟨P,0,N⟩ v0).setCell ⟨P,1,N⟩ v1).setCell ⟨P,2,N⟩ v2):=
 ⟨k.bs.set3 hp qd _ _ _,k.kq.set3 qb qb _ _ _,k.ra,k.rk,k.lo.same (λb cs q=>by rw[Em (λe=>by rw[e,hp]at q;injection q with q;injection q with _ q;exact absurd q qd)];exact q),by rw[Em qb];exact k.tb,by rw[Em qb];exact k.rb⟩
end
theorem workB_any(W0:E)(h mb:X)(C:Ga)(sa ta:Option Addr)(c1 c2:X)(ss:L S2)(ts:L T2)(hE:He W0 sa ta ss ts)(st:L By)(hU:Gg W0 h mb C (J sa ss.length c1) (J ta ts.length c2) ss ts st)(tn:By)(a:Option Addr)(cap:X)(is:L I3)(hr:Ch W0 a is)(hv:Ao is=true)(hT:Kk W0)(hP:Lq W0)(hx:∀i,(ix is i).text.size<=9223372036854775807):Ku W0 h mb C (J sa ss.length c1) (J ta ts.length c2) ss ts st tn a cap is:=by
 intro w ms av kv vs s r q hp hW;have gi:=hW.size;have E4:=(Gx hv).2;have uf:s.R.length<=2000:=hp.ok.2.1;obtain⟨W,eW⟩:=Aj ((w.alloc (O #[S tn,J a is.length cap] 99)).alloc (O #[I 0,ze,nS] 121));have bq:Bw w W:=qbs
 have yr:Hd (W.heap[w.heap.size]?=M (O #[S tn,J a is.length cap] 99 (0,0))):=by
  exact qea
 have lj:Hd (W.heap[w.heap.size+1]?=M (O #[I 0,ze,nS] 121 (0,0))):=by
  show _=_;rw[<- eW];have:=Hj (w.alloc (O #[S tn,J a is.length cap] 99)) (O #[I 0,ze,nS] 121)
  rwa [show(w.alloc (O #[S tn,J a is.length cap] 99)).heap.size=w.heap.size+1 from qg]at this
 have C7:=Ad (q.bl bq);have HKW:Hd (KQ W0.heap.size h mb C av kv r r w W):=KQ.of_below q bq gi;have HPRE:=Ad hp;have HW:=Ad hW;have HE:=Ad hE;have HU:=Ad hU;have ig:=Ad (show Kk W0/\Ch W0 a is/\Ao is=true/\Lq W0 from ⟨hT,hr,hv,hP⟩);have HX:=Ad hx;have hbW2:=bq.size;have HTK:Hd (Calls prog 109 #[D (p_ C.hb),G #[J a is.length cap]] W λe w'=>TakeB W0.heap.size h mb C (J sa ss.length c1) (J ta ts.length c2) ss ts ms s st av kv r is W e w'):=take_any W0 h mb C sa ta c1 c2 ss ts hE st hU ms s av kv vs r a cap is W C7.o (hp.le qb) (hW.trans (bq.mono gi)) hr E4;obtain⟨t0,t1,tf⟩:=La yr.o;clear q hp hW hE hU hT hr hv hP hx bq;go_enter func85,ntmps85;go_wp2_with fail;clear eW t0 t1 tf;refine HTK.o.mono ?_;clear HTK;rintro e w1 (⟨m1,s1,av1,kv1,vs1,r1,hans,fm,cq,ha1,hk1b,hsn1⟩|⟨b,v,r1,m1,s1,rfl,cq,hd1,E7⟩);rotate_left 1
 ·have HD:=Ad (show Ba ss ts C.n ms s st (.tri is 0 s.R.length) m1 s1 (.bad b)/\Df W0.heap.size C w1 b v/\KQ W0.heap.size h mb C av kv r r1 w w1 from ⟨hd1,E7,HKW.o.trans (An.refl _ _) (An.refl _ _) C7.o cq⟩)
  clear cq hd1 E7;unfold Lh;go_wp2_with fail;exact⟨rfl,Or.inr ⟨b,v,r1,m1,s1,rfl,HD.o.2.2,.tfell HD.o.1,HD.o.2.1⟩⟩
 have ir:=Ad fm;have fa:=Ad (show KQ W0.heap.size h mb C av kv r r1 w w1/\An w av av1/\An w kv kv1 from ⟨HKW.o.trans (An.refl _ _) (An.refl _ _) C7.o cq,ha1.less qb,hk1b.less qb⟩);have HN1:=Ad hsn1;have HTB1:Hd (w1.heap[w.heap.size]?=M (O #[S tn,J a is.length cap] 99 (0,0))):=cq.blk C7.o yr.o qd;have HRB1:Hd (w1.heap[w.heap.size+1]?=M (O #[I 0,ze,nS] 121 (0,0))):=cq.blk C7.o lj.o qd;have my:=Ag HRB1.o;clear fm cq ha1 hk1b hsn1 yr lj HKW C7
 rcases hans with⟨c,t,hb,rfl⟩|⟨hb,rfl⟩
 ·have HB:=Ad hb
  have jp:Hd (Ff ss ts C.n m1 s1 st r1.sn (400200-200*s.R.length)):=HPRE.o.step HE.o.v hb (Nat.le_refl _) (λ_ e=>qt) rfl (by simp[Pe]) qb HN1.o;clear hb
  go_upto_region 3 with fail
  obtain⟨w2,ew2⟩:=Aj (w1.alloc (O #[I c,S t,nS] 121));have ag:=aB ew2;obtain⟨P,eP⟩:=Aj w1.heap.size;have HPx:=Ad (nW ew2 eP);have HSx:=Ad (ir.o.bl ag);have HTx:=Ad (Ab ag HTB1.o);have HRx:=Ad (Ab ag HRB1.o);have A6:=Ad (show KQ W0.heap.size h mb C av kv r r1 w w2/\An w av av1/\An w kv kv1 from ⟨fa.o.1.after fa.o.2.1 fa.o.2.2 ir.o ag qb,fa.o.2⟩);have O2:=ag.size;clear ag;rw[ew2,eP];clear ew2 eP;obtain⟨ea,ec,eev⟩:=Ax HSx.o.rs.held;obtain⟨el,eel⟩:=Aj s1.held.length;rw[eel]at eev;have EEV:=Ad eev;have EEL:=Ad eel;(have hel:el<=40200:=by rw[←eel];have:=(jp.o.small HE.o.l2).2.2.2;omega);obtain⟨U,eU⟩:=Aj w2.drew;have bn:Bw w2 U:=qbu;have dw:=Ad (HSx.o.bl bn);have ft:Hd (U.heap[C.hb]?=M (O (Tw C h r1) 119 (0,0))/\U.heap[w.heap.size]?=M (O #[S tn,J a is.length cap] 99 (0,0))):=⟨dw.o.rs.bd,Ab bn HTx.o⟩;have mw:=Ad (Ab bn HRx.o);have HPU:=Ad (Ab bn HPx.o);have ks:Hd (KQ W0.heap.size h mb C av kv r r1 w U):=A6.o.1.after A6.o.2.1 A6.o.2.2 HSx.o bn qb;have hbU2:=bn.size;refine Lt.begin 11 (λw'=>w'.heap[C.hb]?=M (O (Tw C h r1) 119 (0,0))/\w'.heap[w.heap.size]?=M (O #[S tn,J a is.length cap] 99 (0,0))) qi ?_;rw[eU];clear eU bn eev eel;change K 0 _
  iterate 4
   refine Lt.ti (v:=?_) ft.o ?_ ?_;rotate_left 1
   ·exact qav
   simp only[gX]
  refine Lt.ti (i:=4) (v:=?_) ft.o ?_ ?_;rotate_left 1
  ·rintro w ⟨s1,s2⟩
   obtain⟨t0,t1,-⟩:=La s2;(have y0:w.cell? ⟨C.hb,2,N⟩=M (J ea el ec):=by rw[cH s1,←EEV.o];rfl);exact qam
  simp only[gX];change K 5 _
  iterate 2
   refine Lt.ti (v:=?_) ft.o ?_ ?_;rotate_left 1
   ·exact qav
   simp only[gX]
  refine Lt.sp (i:=7) (λK hK=>?_);go_simp;refine Bq (Q:=λx=>K _ x) ?_;intro w5 dh lq
  try dsimp only
  have iz:Hd (w5.heap[C.hb]?=M (O (Tw C h r1) 119 (0,0))/\w5.heap[w.heap.size]?=M (O #[S tn,J a is.length cap] 99 (0,0))):=⟨Ab dh ft.o.1,Ab dh ft.o.2⟩;refine hK.out _ _ (λ_=>iz.o) (λ_=>?_);clear hK K 
  try simp only[gX]
  refine Lt.sp (i:=8) (λK hK=>?_);(have P1:w5.ownsRow W0.heap.size 9 1 (J ea el ec) el (Av s1.held):=by have:=Ac dw.o.rs.held dh;rw[EEV.o,EEL.o]at this;exact this);have h5:=dh.size;refine Qs rfl qo W0.heap.size ea el ec (Av s1.held) qo P1 U.heap.size tn qo lq.o qb qb ?_;intro g' ai w7 ah ae ct;have D2:∀(b:X)(cs:Array Z)(T:TypeId),T≠9->w5.heap[b]?=M (O cs T (0,0))->w7.heap[b]?=M (O cs T (0,0)):=λb cs T hT hb=>Bx hb ae (Ae P1 hT hb);have iq:Hd (w7.heap[C.hb]?=M (O (Tw C h r1) 119 (0,0))/\w7.heap[w.heap.size]?=M (O #[S tn,J a is.length cap] 99 (0,0))):=⟨D2 _ _ _ qd iz.o.1,D2 _ _ _ qd iz.o.2⟩;have ii:w5.grownBy w7 r1.ev.ownBlock:=by rw[EEV.o];exact ae
  have hG:=dw.o.grE (w2:=w7) (nw:=J (p_ g') (el+1) ai) (x:=tn) qb (bel_via dh ii qb (λb e=>(dw.o.rs.held.lt b e).1)) (k2_via dh ii) (by rw[List.length_append,EEL.o,Av,List.map_append];exact ah) (λb q=>by
   obtain rfl:g'=b:=qar
   rcases ct with q|q
   ·exact Or.inl (by rw[EEV.o];exact q)
   ·right;omega)
  have HG:=Ad hG;have HR7:Hd (w7.heap[w.heap.size+1]?=_):=D2 _ _ _ qd (Ab dh mw.o);have HP7:Hd (w7.heap[P]?=_):=D2 _ _ _ qd (Ab dh HPU.o);refine hK.out _ _ (λ_=>iq.o) (λ_=>?_);clear hK K ae ah ii hG P1 D2 ct dh ft iz lq
  try simp only[gX]
  refine Lt.sp (i:=9) (λK hK=>?_);go_simp;refine hK.out _ _ (λ_=>iq.o) (λ_=>?_);clear hK K 
  try simp only[gX]
  refine Lt.sp (i:=10) (λK hK=>?_);go_simp;refine hK.out _ _ (λ_=>iq.o) (λ_=>?_);clear hK K 
  try simp only[gX]
  have y2f:=fZ iq.o.1;have y2:=cK iq.o.1 2;refine Lt.sp (i:=11) (λK hK=>?_);go_simp;refine hK.out _ _ (λh=>absurd rfl h) (λ_=>?_);clear hK K y2 y2f
  try simp only[gX]
  refine Lt.done qi ?_ _;(have ne7:∀(b:X)(cs:Array Z)(T:TypeId),T≠119->w7.heap[b]?=M (O cs T (0,0))->(w7.setCell ⟨C.hb,2,N⟩ (J (p_ g') (el+1) ai)).heap[b]?=M (O cs T (0,0)):=λb cs T hT hb=>by rw[Dj w7 ⟨C.hb,2,N⟩ _ b (λe=>by have e:b=C.hb:=e;have o:=iq.o.1;rw[←e,hb]at o;injection o with o;injection o with _ o;exact hT o)];exact hb);have HR8:Hd ((w7.setCell ⟨C.hb,2,N⟩ (J (p_ g') (el+1) ai)).heap[w.heap.size+1]?=_):=ne7 _ _ _ qd HR7.o;have HP8:Hd ((w7.setCell ⟨C.hb,2,N⟩ (J (p_ g') (el+1) ai)).heap[P]?=_):=ne7 _ _ _ qd HP7.o;have vp:=Ad (ks.o.trans A6.o.2.1 A6.o.2.2 dw.o HG.o.2);obtain⟨nw,enw⟩:=Aj (Value.slice (p_ g') (el+1) ai);have gw:=Ad HG.o.1;clear ne7 HR7 HP7 HG iq mw HPU dw ks HSx HRx HPx HTx;obtain⟨w8,e8⟩:=Aj (w7.setCell ⟨C.hb,2,N⟩ (J (p_ g') (el+1) ai));rw[e8]at gw vp HR8 HP8 ⊢;rw[enw]at gw vp;clear e8 enw
  go_upto_region 4 with fail
  obtain⟨U8,eU8⟩:=Aj w8.drew;(have uz:Bw w8 U8:=by rw[←eU8];exact(Below.refl _ _).drew);have xj:=Ad (gw.o.bl uz);have zh:=vp.o.bel.size;have HK9:=Ad (vp.o.after A6.o.2.1 A6.o.2.2 gw.o uz qb);have M3:=Ad (Ab uz HR8.o);obtain⟨x0,x1,x2,xf⟩:=Dx (Ab uz HP8.o);obtain⟨z0,z1,z2,zf⟩:=Dx M3.o;clear uz gw vp HR8 HP8;go_region;clear eU8 x0 x1 x2 xf z0 z1 z2 zf
  all_goals
   have z8:=Bp M3.o (I c) (S t) nS;obtain⟨z0,z1,z2,zf⟩:=Dx z8;go_wp2_with fail;refine bR (v:=Y #[nS,G #[I c,S t,nS]]) (by simp[results,results85,go_sem,z0,z1,z2]) rfl (Or.inl ⟨m1,_,⟨c,t,[]⟩,_,av1,kv1,vs1,_,rfl,⟨N,0,0,rfl⟩,.held HB.o,xj.o.set3 M3.o qd _ _ _,HK9.o.set3 qb qb _ _ _,A6.o.2.1,A6.o.2.2,?_⟩);have:=HN1.o;dsimp only;omega
 have HB:=Ad hb;have jp:Hd (Ff ss ts C.n m1 s1 st r1.sn (400200-200*s.R.length)):=HPRE.o.step HE.o.v hb (Nat.le_refl _) (λ_ e=>qt) rfl (by simp[Pe]) qb HN1.o;clear hb
 go_upto_region 5 with fail
 obtain⟨w2,ew2⟩:=Aj (w1.alloc (O #[I 0,ze,nS] 121));have ag:=aB ew2;obtain⟨P6,eP6⟩:=Aj w1.heap.size;rw[ew2,eP6];clear ew2 eP6;obtain⟨U,eU⟩:=Aj w2.drew;have bn:Bw w1 U:=by rw[←eU];exact Ay ag (Below.refl _ _).drew
 have dw:=Ad (ir.o.bl bn);have ks:=Ad (show KQ W0.heap.size h mb C av kv r r1 w U/\An w av av1/\An w kv kv1 from ⟨fa.o.1.after fa.o.2.1 fa.o.2.2 ir.o bn qb,fa.o.2⟩);have mw:=Ad (Ab bn HRB1.o);have ft:Hd (U.cell? ⟨C.hb,10,N⟩=M (D (p_ h))/\U.heap[w.heap.size]?=M (O #[S tn,J a is.length cap] 99 (0,0))):=⟨by rw[cH dw.o.rs.bd];rfl,Ab bn HTB1.o⟩;have hUsz:=ks.o.1.bel.size;have hU1:=Ag mw.o;have F8:Hd (∀V,Bw U V->Calls prog 110 #[D (p_ h),G #[S tn,J a is.length cap]] V λe w'=>RunB W0.heap.size h mb C (J sa ss.length c1) (J ta ts.length c2) ss ts m1 s1 st av1 kv1 r1 is V e w'):=λV hV=>runB_any W0 h mb C sa ta a c1 c2 cap ss ts is tn m1 s1 st av1 kv1 vs1 r1 V HE.o HU.o (dw.o.bl hV) (jp.o.le qb) (HW.o.trans (ks.o.1.bel.trans (hV.mono qb))) ig.o.2.1 ig.o.2.2.1 ig.o.1 ig.o.2.2.2;clear bn ag ir fa HRB1 HTB1
 go_cut [8,9] (λp q wx=>∃(P:X)(la:Option Addr)(lc:X)(m2:Mm)(s2:Sb)(ys:L R3)(ls:L G3)(c:Int)(t:By)(AB:_)(av2 kv2:Z)(vs2:By->Z)(r2:Rv),p=J la ls.length lc/\q=D (p_ P)/\Hd (RnF C ss ts ms s st r is m1 s1 m2 s2 ys ls c t AB r2)/\Hd (RnJ W0.heap.size h mb C (J sa ss.length c1) (J ta ts.length c2) ss ts w st av kv r tn a cap is.length m2 s2 (J la ls.length lc) ls av2 kv2 vs2 r2 wx)/\Hd (wx.heap[P]?=M (O #[I c,S t,nS] 121 (0,0))))
 case first=>
  refine Lt.begin 11 (λw'=>w'.cell? ⟨C.hb,10,N⟩=M (D (p_ h))/\w'.heap[w.heap.size]?=M (O #[S tn,J a is.length cap] 99 (0,0))) qi ?_;rw[eU];clear eU;change K 0 _
  iterate 5
   refine Lt.ti (v:=?_) ft.o ?_ ?_;rotate_left 1
   ·exact qav
   simp only[gX]
  refine Lt.two (i:=5) (j:=9) (oi:={ dst:=M 36,op:=Op.call { callee:=Callee.value (Operand.func 110),args:=#[Operand.tmp 34,Operand.tmp 35],argTypes:=#[116,99] },type:=180,pos := "l5_build.go:101",after:=#[{ on:=3,ground:=Ground.data },{ on:=4,ground:=Ground.data }],guard:=N }) (oj:={ dst:=M 9,op:=Op.alloc 121,type:=0,pos := "l5_build.go:101",after:=#[],guard:=N }) qi rfl rfl (λK hK=>?_) (λK hK=>?_)
  ·go_simp
   have bh:=dw;have nz:=ks;have Q8:=mw;have V7:=ft;refine(F8.o U (Below.refl _ _)).mono ?_;rintro e w5 (⟨m2,s2,ys,ls,c,t,AB,lv,av2,kv2,vs2,r2,rfl,-,f1,f2,f3,f4,f5,f6,f7,yg,jq,ra5,rk5,uq,-⟩|⟨b,v,r2,m2,s2,rfl,jq,hd5,hf5⟩);rotate_left 1
   ·exact qim
   have Io:Hd (RnF C ss ts ms s st r is m1 s1 m2 s2 ys ls c t AB r2):=⟨f1,f2,f3,f4,f5,f6,by have:=HN1.o;omega⟩;obtain⟨la,lc,elv⟩:=Ax uq.choose_spec.1;have hVsz:=nz.o.1.bel.size;have og:Hd (RnJ W0.heap.size h mb C (J sa ss.length c1) (J ta ts.length c2) ss ts w st av kv r tn a cap is.length m2 s2 lv ls av2 kv2 vs2 r2 w5):=⟨yg,nz.o.1.trans nz.o.2.1 nz.o.2.2 bh.o jq,nz.o.2.1.trans qb ra5,nz.o.2.2.trans qb rk5,uq,jq.blk bh.o V7.o.2 qd,jq.blk bh.o Q8.o qd⟩;rw[elv]at og ⊢;have iz:Hd (w5.cell? ⟨C.hb,10,N⟩=M (D (p_ h))/\w5.heap[w.heap.size]?=M (O #[S tn,J a is.length cap] 99 (0,0))):=⟨by rw[cH og.o.bs.rs.bd];rfl,og.o.tb⟩;refine hK.out _ _ (λ_=>iz.o) (λ_=>?_);clear hK K f1 f2 f3 f4 f5 f6 f7 yg jq ra5 rk5 uq dw ks mw ft bh nz Q8 V7 F8
   try simp only[gX]
   change K 6 _
   iterate 3
    refine Lt.ti (v:=?_) iz.o ?_ ?_;rotate_left 1
    ·exact qav
    simp only[gX]
   refine Lt.sp (i:=9) (λK hK=>?_);go_simp;refine Bq (Q:=λx=>K _ x) ?_;intro w6 bz uk
   try dsimp only
   have HRK:Hd (RnJ W0.heap.size h mb C (J sa ss.length c1) (J ta ts.length c2) ss ts w st av kv r tn a cap is.length m2 s2 (J la ls.length lc) ls av2 kv2 vs2 r2 w6):=og.o.bl bz qb;have HSS6:Hd (w6.cell? ⟨C.hb,10,N⟩=M (D (p_ h))/\w6.heap[w.heap.size]?=M (O #[S tn,J a is.length cap] 99 (0,0))):=⟨by rw[cH HRK.o.bs.rs.bd];rfl,HRK.o.tb⟩;refine hK.out _ _ (λ_=>HSS6.o) (λ_=>?_);clear hK K 
   try simp only[gX]
   refine Lt.sp (i:=10) (λK hK=>?_);go_simp;refine hK.out _ _ (λ_=>HSS6.o) (λ_=>?_);clear hK K 
   try simp only[gX]
   obtain⟨k0,k1,k2,kf⟩:=Dx uk.o;refine Lt.sp (i:=11) (λK hK=>?_);go_simp;refine hK.out _ _ (λh=>absurd rfl h) (λ_=>?_);clear hK K k0 k1 k2 kf
   try simp only[gX]
   refine Lt.done qi ?_ _;go_wp2_with fail;go_meet;have h5z:=Ag og.o.rb;exact⟨w5.heap.size,la,lc,m2,s2,ys,ls,c,t,AB,av2,kv2,vs2,r2,rfl,rfl,Io,HRK.o.set3 uk.o qb qb _ _ _,Bp uk.o _ _ _⟩
  ·go_simp
   refine Bq (Q:=λx=>K _ x) ?_;intro V pk D0
   try dsimp only
   have bh:=Ad (dw.o.bl pk);have nz:=Ad (show KQ W0.heap.size h mb C av kv r r1 w V/\An w av av1/\An w kv kv1 from ⟨ks.o.1.after ks.o.2.1 ks.o.2.2 dw.o pk qb,ks.o.2⟩);have Q8:=Ad (Ab pk mw.o);have V7:Hd (V.cell? ⟨C.hb,10,N⟩=M (D (p_ h))/\V.heap[w.heap.size]?=M (O #[S tn,J a is.length cap] 99 (0,0))):=⟨by rw[cH bh.o.rs.bd];rfl,Ab pk ft.o.2⟩;refine hK.out _ _ (λ_=>V7.o) (λ_=>?_);clear hK K ft dw ks mw
   try simp only[gX]
   refine Lt.sp (i:=5) (λK hK=>?_);go_simp;refine(F8.o V pk).mono ?_;rintro e w5 (⟨m2,s2,ys,ls,c,t,AB,lv,av2,kv2,vs2,r2,rfl,-,f1,f2,f3,f4,f5,f6,f7,yg,jq,ra5,rk5,uq,-⟩|⟨b,v,r2,m2,s2,rfl,jq,hd5,hf5⟩);rotate_left 1
   ·exact qim
   have Io:Hd (RnF C ss ts ms s st r is m1 s1 m2 s2 ys ls c t AB r2):=⟨f1,f2,f3,f4,f5,f6,by have:=HN1.o;omega⟩;obtain⟨la,lc,elv⟩:=Ax uq.choose_spec.1;have hVsz:=nz.o.1.bel.size;have og:Hd (RnJ W0.heap.size h mb C (J sa ss.length c1) (J ta ts.length c2) ss ts w st av kv r tn a cap is.length m2 s2 lv ls av2 kv2 vs2 r2 w5):=⟨yg,nz.o.1.trans nz.o.2.1 nz.o.2.2 bh.o jq,nz.o.2.1.trans qb ra5,nz.o.2.2.trans qb rk5,uq,jq.blk bh.o V7.o.2 qd,jq.blk bh.o Q8.o qd⟩;rw[elv]at og ⊢;have iz:Hd (w5.cell? ⟨C.hb,10,N⟩=M (D (p_ h))/\w5.heap[w.heap.size]?=M (O #[S tn,J a is.length cap] 99 (0,0))):=⟨by rw[cH og.o.bs.rs.bd];rfl,og.o.tb⟩;have lq:Hd (w5.heap[U.heap.size]?=_):=jq.blk bh.o D0.o qd;refine hK.out _ _ (λ_=>iz.o) (λ_=>?_);clear hK K f1 f2 f3 f4 f5 f6 f7 yg jq ra5 rk5 uq bh nz Q8 V7 F8 D0
   try simp only[gX]
   change K 6 _
   iterate 3
    refine Lt.ti (v:=?_) iz.o ?_ ?_;rotate_left 1
    ·exact qav
    simp only[gX]
   refine Lt.ti (i:=10) (v:=?_) iz.o ?_ ?_;rotate_left 1
   ·exact qav
   simp only[gX];obtain⟨k0,k1,k2,kf⟩:=Dx lq.o;refine Lt.sp (i:=11) (λK hK=>?_);go_simp;refine hK.out _ _ (λh=>absurd rfl h) (λ_=>?_);clear hK K k0 k1 k2 kf
   try simp only[gX]
   refine Lt.done qi ?_ _;go_wp2_with fail;go_meet;exact⟨U.heap.size,la,lc,m2,s2,ys,ls,c,t,AB,av2,kv2,vs2,r2,rfl,rfl,Io,og.o.set3 lq.o qb qb _ _ _,Bp lq.o _ _ _⟩
 case rest=>
  obtain⟨P,la,lc,m2,s2,ys,ls,c,t,AB,av2,kv2,vs2,r2,rfl,rfl,Io,og,I0⟩:=hcut;obtain⟨wk,rfl⟩:∃wk,wk=wc:=⟨_,rfl⟩;clear F8 dw ks mw ft eU hU1 hUsz;have HBk:Hd (Bw W0 wk):=HW.o.trans og.o.kq.bel;obtain⟨xs,xo,xf⟩:=og.o.lo;have hov:=Io.o.ro.over Io.o.full
  have HKE:Hd (Calls prog 111 #[D (p_ C.hb),G #[J a is.length cap],J la ls.length lc,G #[I c,S t,nS]] wk λe w'=>KeepB W0.heap.size h mb 0 C (J sa ss.length c1) (J ta ts.length c2) ss ts m2 st st (m2.length+st.length) av2 kv2 vs2 s2 r2 is ls c t wk e w'):=
   keepB_any W0 h mb 0 C _ _ ss ts m2 st st _ av2 kv2 vs2 s2 r2 a la cap lc is ls xs c t wk og.o.bs HBk.o Io.o.pre.ok ig.o.1 ig.o.2.1 ig.o.2.2.1 HX.o xo xf (by have:=Io.o.ro.eq;have:=Io.o.ln;omega) Io.o.lok hov.2.1 hov.2.2 hov.1
  obtain⟨t0,t1,tf⟩:=La og.o.tb;obtain⟨x0,x1,x2,xf⟩:=Dx I0.o;clear xo xf hov;go_wp2_with fail;clear t0 t1 tf x0 x1 x2 xf;refine HKE.o.mono ?_;clear HKE;rintro e w6 (⟨s3,r3,rfl,X9,zk,jd,hsn6⟩|⟨v,b,s3,r3,rfl,X9,Le,jd⟩);rotate_left 1
  ·have HD:=Ad (show Ba ss ts C.n m1 s1 st (.run is [] []) m2 s3 (.bad b)/\Df W0.heap.size C w6 b v/\KQ W0.heap.size h mb C av kv r r3 w w6 from ⟨Io.o.dd _ _ _ (.overbad Io.o.full X9),Le,og.o.kq.trans og.o.ra og.o.rk og.o.bs jd⟩)
   clear X9 Le jd;unfold Lh;go_wp2_with fail;exact⟨rfl,Or.inr ⟨b,v,r3,m2,s3,rfl,HD.o.2.2,.rfell HB.o HD.o.1,HD.o.2.1⟩⟩
  have HSx:=Ad zk;have HTx:Hd (w6.heap[w.heap.size]?=_):=jd.blk og.o.bs og.o.tb qd;have HRx:Hd (w6.heap[w.heap.size+1]?=_):=jd.blk og.o.bs og.o.rb qd;have HPx:Hd (w6.heap[P]?=_):=jd.blk og.o.bs I0.o qd;have A6:=Ad (show KQ W0.heap.size h mb C av kv r r3 w w6/\An w av av2/\An w kv kv2 from ⟨og.o.kq.trans og.o.ra og.o.rk og.o.bs jd,og.o.ra,og.o.rk⟩);have ll:Hd (Ba ss ts C.n m1 s1 st (.run is [] []) m2 s3 (.ok ⟨c,t,ls⟩)):=Io.o.dd _ _ _ (.over Io.o.full X9);have HSN:Hd (r3.sn+400200*Dh ts ms st<=r.sn+200*s.R.length+400200*Dh ts m2 st):=by have:=Io.o.sn;rw[←hsn6]at this;exact this
  have hr6:=Ag HRx.o
  have hran:s3.ran.length<=40200:=by
   have h1:=(Io.o.pre.small HE.o.l2).2.2.2
   cases X9 with
   | ok _ _=>dsimp only;omega
  clear X9 zk jd hsn6 og I0 HBk
  go_upto_region 7 with fail
  obtain⟨ea,ec,eev⟩:=Ax HSx.o.rs.ran;obtain⟨el,eel⟩:=Aj s3.ran.length;rw[eel]at eev;have EEV:=Ad eev;have EEL:=Ad eel;have hel:el<=40200:=by rw[←eel];exact hran
  obtain⟨U,eU⟩:=Aj w6.drew;have bn:Bw w6 U:=qbu;have dw:=Ad (HSx.o.bl bn);have ft:Hd (U.heap[C.hb]?=M (O (Tw C h r3) 119 (0,0))/\U.heap[w.heap.size]?=M (O #[S tn,J a is.length cap] 99 (0,0))):=⟨dw.o.rs.bd,Ab bn HTx.o⟩;have mw:=Ad (Ab bn HRx.o);have HPU:=Ad (Ab bn HPx.o);have ks:Hd (KQ W0.heap.size h mb C av kv r r3 w U):=A6.o.1.after A6.o.2.1 A6.o.2.2 HSx.o bn qb;have hbU2:=bn.size;refine Lt.begin 11 (λw'=>w'.heap[C.hb]?=M (O (Tw C h r3) 119 (0,0))/\w'.heap[w.heap.size]?=M (O #[S tn,J a is.length cap] 99 (0,0))) qi ?_;rw[eU];clear eU bn eev eel;change K 0 _
  iterate 4
   refine Lt.ti (v:=?_) ft.o ?_ ?_;rotate_left 1
   ·exact qav
   simp only[gX]
  refine Lt.ti (i:=4) (v:=?_) ft.o ?_ ?_;rotate_left 1
  ·rintro w ⟨s1,s2⟩
   obtain⟨t0,t1,-⟩:=La s2;(have y0:w.cell? ⟨C.hb,1,N⟩=M (J ea el ec):=by rw[cH s1,←EEV.o];rfl);exact qam
  simp only[gX];change K 5 _
  iterate 2
   refine Lt.ti (v:=?_) ft.o ?_ ?_;rotate_left 1
   ·exact qav
   simp only[gX]
  refine Lt.sp (i:=7) (λK hK=>?_);go_simp;refine Bq (Q:=λx=>K _ x) ?_;intro w5 dh lq
  try dsimp only
  have iz:Hd (w5.heap[C.hb]?=M (O (Tw C h r3) 119 (0,0))/\w5.heap[w.heap.size]?=M (O #[S tn,J a is.length cap] 99 (0,0))):=⟨Ab dh ft.o.1,Ab dh ft.o.2⟩;refine hK.out _ _ (λ_=>iz.o) (λ_=>?_);clear hK K 
  try simp only[gX]
  refine Lt.sp (i:=8) (λK hK=>?_);have P1:w5.ownsRow W0.heap.size 9 1 (J ea el ec) el (Av s3.ran):=by have:=Ac dw.o.rs.ran dh;rw[EEV.o,EEL.o]at this;exact this
  have h5:=dh.size;refine Qs rfl qo W0.heap.size ea el ec (Av s3.ran) qo P1 U.heap.size tn qo lq.o qb qb ?_;intro g' ai w7 ah ae ct;have D2:∀(b:X)(cs:Array Z)(T:TypeId),T≠9->w5.heap[b]?=M (O cs T (0,0))->w7.heap[b]?=M (O cs T (0,0)):=λb cs T hT hb=>Bx hb ae (Ae P1 hT hb);have iq:Hd (w7.heap[C.hb]?=M (O (Tw C h r3) 119 (0,0))/\w7.heap[w.heap.size]?=M (O #[S tn,J a is.length cap] 99 (0,0))):=⟨D2 _ _ _ qd iz.o.1,D2 _ _ _ qd iz.o.2⟩;have ii:w5.grownBy w7 r3.nv.ownBlock:=by rw[EEV.o];exact ae
  have hG:=dw.o.grN (w2:=w7) (nw:=J (p_ g') (el+1) ai) (x:=tn) qb (bel_via dh ii qb (λb e=>(dw.o.rs.ran.lt b e).1)) (k2_via dh ii) (by rw[List.length_append,EEL.o,Av,List.map_append];exact ah) (λb q=>by
   obtain rfl:g'=b:=qar
   rcases ct with q|q
   ·exact Or.inl (by rw[EEV.o];exact q)
   ·right;omega)
  have HG:=Ad hG;have HR7:Hd (w7.heap[w.heap.size+1]?=_):=D2 _ _ _ qd (Ab dh mw.o);have HP7:Hd (w7.heap[P]?=_):=D2 _ _ _ qd (Ab dh HPU.o);refine hK.out _ _ (λ_=>iq.o) (λ_=>?_);clear hK K ae ah ii hG P1 D2 ct dh ft iz lq
  try simp only[gX]
  refine Lt.sp (i:=9) (λK hK=>?_);go_simp;refine hK.out _ _ (λ_=>iq.o) (λ_=>?_);clear hK K 
  try simp only[gX]
  refine Lt.sp (i:=10) (λK hK=>?_);go_simp;refine hK.out _ _ (λ_=>iq.o) (λ_=>?_);clear hK K 
  try simp only[gX]
  have y2f:=fZ iq.o.1;have y2:=cK iq.o.1 1;refine Lt.sp (i:=11) (λK hK=>?_);go_simp;refine hK.out _ _ (λh=>absurd rfl h) (λ_=>?_);clear hK K y2 y2f
  try simp only[gX]
  refine Lt.done qi ?_ _;have ne7:∀(b:X)(cs:Array Z)(T:TypeId),T≠119->w7.heap[b]?=M (O cs T (0,0))->(w7.setCell ⟨C.hb,1,N⟩ (J (p_ g') (el+1) ai)).heap[b]?=M (O cs T (0,0)):=λb cs T hT hb=>by rw[Dj w7 ⟨C.hb,1,N⟩ _ b (λe=>by have e:b=C.hb:=e;have o:=iq.o.1;rw[←e,hb]at o;injection o with o;injection o with _ o;exact hT o)];exact hb
  have HR8:Hd ((w7.setCell ⟨C.hb,1,N⟩ (J (p_ g') (el+1) ai)).heap[w.heap.size+1]?=_):=ne7 _ _ _ qd HR7.o;have HP8:Hd ((w7.setCell ⟨C.hb,1,N⟩ (J (p_ g') (el+1) ai)).heap[P]?=_):=ne7 _ _ _ qd HP7.o;have vp:=Ad (ks.o.trans A6.o.2.1 A6.o.2.2 dw.o HG.o.2);obtain⟨nw,enw⟩:=Aj (Value.slice (p_ g') (el+1) ai);have gw:=Ad HG.o.1;clear ne7 HR7 HP7 HG iq mw HPU dw ks HSx HRx HPx HTx;obtain⟨w8,e8⟩:=Aj (w7.setCell ⟨C.hb,1,N⟩ (J (p_ g') (el+1) ai));rw[e8]at gw vp HR8 HP8 ⊢;rw[enw]at gw vp;clear e8 enw
  go_upto_region 8 with fail
  obtain⟨U8,eU8⟩:=Aj w8.drew;have uz:Bw w8 U8:=by rw[←eU8];exact(Below.refl _ _).drew
  have xj:=Ad (gw.o.bl uz);have zh:=vp.o.bel.size;have HK9:=Ad (vp.o.after A6.o.2.1 A6.o.2.2 gw.o uz qb);have M3:=Ad (Ab uz HR8.o);obtain⟨x0,x1,x2,xf⟩:=Dx (Ab uz HP8.o);obtain⟨z0,z1,z2,zf⟩:=Dx M3.o;clear uz gw vp HR8 HP8;go_region;clear eU8 x0 x1 x2 xf z0 z1 z2 zf
  all_goals
   have z8:=Bp M3.o (I c) (S t) nS;obtain⟨z0,z1,z2,zf⟩:=Dx z8;go_wp2_with fail;refine bR (v:=Y #[J la ls.length lc,G #[I c,S t,nS]]) (by simp[results,results85,go_sem,z0,z1,z2]) rfl (Or.inl ⟨m2,_,⟨c,t,ls⟩,_,av2,kv2,vs2,_,rfl,⟨la,ls.length,lc,rfl⟩,.ran HB.o ll.o,xj.o.set3 M3.o qd _ _ _,HK9.o.set3 qb qb _ _ _,A6.o.2.1,A6.o.2.2,?_⟩);have:=HSN.o;dsimp only;omega
theorem underB_all(W0:E)(h mb:X)(C:Ga)(sa ta:Option Addr)(c1 c2:X)(ss:L S2)(ts:L T2)(hE:He W0 sa ta ss ts)(hT:Kk W0)(hP:Lq W0):∀(n:X)(st:L By),60-st.length=n->st.length<=60->Gg W0 h mb C (J sa ss.length c1) (J ta ts.length c2) ss ts st:=by
 intro n
 induction n with
 | zero=>
   intro st hn jy;exact Wy W0 h mb C sa ta c1 c2 ss ts hE st jy (λnm de i a cap q1 q2 q3 q4=>qb)
 | succ n ih=>
   intro st hn jy;exact Wy W0 h mb C sa ta c1 c2 ss ts hE st jy (λnm de i a cap q1 q2 q3 q4=>workB_any W0 h mb C sa ta c1 c2 ss ts hE (st++[nm]) (ih (st++[nm]) qh qh) nm a cap (tx ts i).code q3 (hE.v.pr i q1) hT hP (hE.xc i))
theorem catch_panB(AD:X)(c:Int)(t:By)(ca:Option Addr)(cn cc:X)(older:L PanicEntry)(w:E)(hO:w.heap[AD]?=M (O #[F false,I 0,ze,nS,ze,nS] 156 (0,0))):CallsD prog 112 #[D (p_ AD)] (.panicking ({ v:=.iface 182 (G #[I c,S t,J ca cn cc]),recovered:=false }::older)) w λe u' w'=>
 e=H (Y #[])/\u'=.panicking ({ v:=.iface 182 (G #[I c,S t,J ca cn cc]),recovered:=true }::older)/\w'=((((((w.setCell ⟨AD,0,N⟩ (F false)).setCell ⟨AD,1,N⟩ (I c)).setCell ⟨AD,2,N⟩ (S t)).setCell ⟨AD,3,N⟩ (J ca cn cc)).setCell ⟨AD,4,N⟩ ze).setCell ⟨AD,5,N⟩ nS).alloc (O #[I c,S t,J ca cn cc] 182):=by
 refine callsD_of_wpS func112 rfl λc₀ cs hu=>?_
 apply wpS_seq
 apply wpS_region
 simp[wpOpsS,go_sem,recoverD,hu,ntmps112,Exit.thenS]
 obtain⟨⟨z0,z1,z2,z3,z4,z5⟩,zf⟩:=Sf hO
 have hOl:AD<w.heap.size:=Ag hO
 have hta:∀w:E,(Instr.typeAssert (.iface 182 (G #[I c,S t,J ca cn cc])) 20 182 true).run prog w=.ok (Y #[G #[I c,S t,J ca cn cc],F true]) w:=λw=>qi
 have ci:∀(p x:Z),#[p]++(((Array.replicate 15 undef).setIfInBounds 3 x).setIfInBounds 0 x)=#[p,x,undef,undef,x,undef,undef,undef,undef,undef,undef,undef,undef,undef,undef,undef]:=λp x=>rfl
 refine wpS_of_wp ?_
 rw[ci]
 go_wp2_with fail
 simp[bodyPostS,results,results112]
theorem catch_idleB(AD:X)(w:E):CallsD prog 112 #[D (p_ AD)] .returning w λe u' w'=>e=H (Y #[])/\u'=.returning/\w'=w.alloc (O #[I 0,ze,nS] 182):=by
 refine callsD_of_wpS func112 rfl λc₀ cs hu=>?_
 apply wpS_seq
 apply wpS_region
 simp[wpOpsS,go_sem,recoverD,hu,ntmps112,Exit.thenS]
 have hta:∀w:E,(Instr.typeAssert .nilIface 20 182 true).run prog w=.ok (Y #[G #[I 0,ze,nS],F false]) w:=λw=>qi
 have hne:∀w:E,(binOp BinOp.neq 20 .nilIface .nilIface).run prog w=.ok (F false) w:=λ_=>qi
 have ci:∀(p x:Z),#[p]++(((Array.replicate 15 undef).setIfInBounds 3 x).setIfInBounds 0 x)=#[p,x,undef,undef,x,undef,undef,undef,undef,undef,undef,undef,undef,undef,undef,undef]:=λp x=>rfl
 refine wpS_of_wp ?_
 rw[ci]
 go_wp2_with fail
 cases c₀
 simp_all [bodyPostS,results,results112]

theorem Df.parts(h:Df B C w b v):∃c t ca cn cc,v=G #[I c,S t,J ca cn cc]:=by
 obtain⟨_,_,h⟩:=h
 cases b with
 | circle ch=>obtain⟨ca,cn,cc,e,_⟩:=h;exact⟨_,_,_,_,_,e⟩
 | deep nm=>exact⟨_,_,_,_,_,h⟩
 | clash A B=>exact⟨_,_,_,_,_,h⟩
 | full=>exact⟨_,_,_,_,_,h⟩
theorem Df.kept(h:Df B C w b v)(hb:w'.heap[C.hb]?=w.heap[C.hb]?)(hk:∀(b:X)(cur:Array Z),w.heap[b]?=M (Obj.cells cur 9 (0,0))->w'.heap[b]?=w.heap[b]?):Df B C w' b v:=by
 obtain⟨h1,h2,h3⟩:=h;refine⟨(Di hb).trans h1,(Di hb).trans h2,?_⟩
 cases b with
 | circle ch=>
   obtain⟨ca,cn,cc,e,ho⟩:=h3;exact⟨ca,cn,cc,e,Al ho λb' q=>by obtain⟨_,cur,hh⟩:=Dv ho q;exact hk b' cur hh⟩
 | deep nm=>exact h3
 | clash A B=>exact h3
 | full=>exact h3
def FirstB(B h mb:X)(C:Ga)(sv tv:Z)(ss:L S2)(ts:L T2)(s:Sb)(av kv:Z)(r:Rv)(nm:By)(w:E)(e:Ending)(w':E):Prop:=
 ∃ms' s' a,Ba ss ts C.n [] s [] (.make nm) ms' s' a/\
  ((∃d lv av' kv' vs' r',a=.ok d/\e=H (Fj d lv)/\(∃la ln lc,lv=J la ln lc)/\Je B h mb C sv tv ss ts w' ms' [] av' kv' vs' s' r'/\KQ B h mb C av kv r r' w w')\/
   (∃b c t ca cn cc r',a=.bad b/\e=H (G #[F false,I c,S t,J ca cn cc,ze,nS])/\Df B C w' b (G #[I c,S t,J ca cn cc])/\KQ B h mb C av kv r r' w w'))
theorem firstB_any(W0:E)(h mb:X)(C:Ga)(sa ta:Option Addr)(c1 c2:X)(ss:L S2)(ts:L T2)(nm:By)(av kv:Z)(vs:By->Z)(s:Sb)(r:Rv)(w:E)(hE:He W0 sa ta ss ts)(hT:Kk W0)(hP:Lq W0)(de:Ar nm)(q:Je W0.heap.size h mb C (J sa ss.length c1) (J ta ts.length c2) ss ts w [] [] av kv vs s r)(hp:Ff ss ts C.n [] s [] r.sn 0)(hW:Bw W0 w):Calls prog 86 #[D (p_ h),S nm] w λe w'=>FirstB W0.heap.size h mb C (J sa ss.length c1) (J ta ts.length c2) ss ts s av kv r nm w e w':=by
 have hB:=hW.size;have hhw:C.hb<w.heap.size:=Ag q.rs.bd;obtain⟨W,eW⟩:=Aj (w.alloc (O #[F false,I 0,ze,nS,ze,nS] 156));have bq:Bw w W:=qaz
 have HOB:Hd (W.heap[w.heap.size]?=M (O #[F false,I 0,ze,nS,ze,nS] 156 (0,0))):=by
  exact qbo
 have C7:=Ad (q.bl bq);have HKW:Hd (KQ W0.heap.size h mb C av kv r r w W):=KQ.of_below q bq hB;have HU:Hd (Calls prog 113 #[D (p_ h),S nm] W λe w'=>Nm W0.heap.size h mb C (J sa ss.length c1) (J ta ts.length c2) ss ts [] s [] av kv vs r nm (λd vs'=>Fj d (vs' nm)) W e w'):=underB_all W0 h mb C sa ta c1 c2 ss ts hE hT hP 60 [] rfl qg W [] nm av kv vs s r C7.o hp de (hW.trans (bq.mono hB));clear q hW hE hT hP de bq hp
 go_enter_defers func86,ntmps86
 go_wp2_with fail;refine HU.o.mono ?_;rintro e w4 ⟨ms',s',an,oy,⟨⟨dc,dt,dls⟩,av',kv',vs',r',rfl,rfl,G7,ox,ha4,hkk4,-⟩|⟨b,v,r',rfl,rfl,hv,ox⟩⟩
 ·have se:Hd (w4.heap[w.heap.size]?=_):=ox.blk C7.o HOB.o qd
  obtain⟨la,ln,lc,hlv⟩:=G7.mkr.vsl nm;obtain⟨fo,efo⟩:=Aj (Bj dc dt);have EF:Hd (Bj dc dt=fo):=efo;unfold Fj;simp only[efo,hlv];have ie:=Ad G7;have I1:=Ad (HKW.o.trans (An.refl _ _) (An.refl _ _) C7.o ox)
  have Do:=Ad oy
  have HA4:=Ad (show An w av av'/\An w kv kv' from ⟨ha4.less HKW.o.bel.size,hkk4.less HKW.o.bel.size⟩);obtain⟨⟨z0,z1,z2,z3,z4,z5⟩,zf⟩:=Sf se.o;clear ox oy G7 ha4 hkk4 hlv efo eW C7 HKW HOB;go_wp2_with fail;refine leaves_cons (f:=112) (args:=#[D (p_ w.heap.size)]) qg qk ?_;refine(catch_idleB w.heap.size _).mono ?_;rintro e u' w'' ⟨rfl,rfl,rfl⟩;have e7:=Ab (Ai _ (O #[I 0,ze,nS] 182)) (Iq se.o (F true) (I dc) (S dt) nS (S fo) (J la ln lc));obtain⟨⟨y0,y1,y2,y3,y4,y5⟩,_⟩:=Sf e7;have zk:=ie.o.set6 se.o qd (F true) (I dc) (S dt) nS (S fo) (J la ln lc);have jd:=I1.o.set6 (b:=w.heap.size) hB (Nat.le_refl _) (F true) (I dc) (S dt) nS (S fo) (J la ln lc);refine⟨Fj ⟨dc,dt,dls⟩ (J la ln lc),by simp[results,results86,go_sem,Fj,EF.o,y0,y1,y2,y3,y4,y5],ms',s',_,Do.o,Or.inl ⟨_,_,av',kv',vs',r',rfl,rfl,⟨_,_,_,rfl⟩,zk.bl (Ai _ _),jd.after HA4.o.1 HA4.o.2 zk (Ai _ _) (Nat.le_trans hB jd.bel.size)⟩⟩
 ·obtain⟨c,t,ca,cn,cc,rfl⟩:=hv.parts
  unfold Lh;dsimp only;have se:Hd (w4.heap[w.heap.size]?=_):=ox.blk C7.o HOB.o qd;have I1:=Ad (HKW.o.trans (An.refl _ _) (An.refl _ _) C7.o ox);have vr:=Ad (show Ba ss ts C.n [] s [] (.make nm) ms' s' (.bad b)/\Df W0.heap.size C w4 b (G #[I c,S t,J ca cn cc]) from ⟨oy,hv⟩);clear ox oy hv eW C7 HKW HOB;go_wp2_with fail;refine leaves_cons (f:=112) (args:=#[D (p_ w.heap.size)]) qg qk ?_;refine(catch_panB w.heap.size c t ca cn cc [] _ se.o).mono ?_;rintro e u' w'' ⟨rfl,rfl,rfl⟩;have e7:=Ab (Ai _ (O #[I c,S t,J ca cn cc] 182)) (Iq se.o (F false) (I c) (S t) (J ca cn cc) ze nS);obtain⟨⟨y0,y1,y2,y3,y4,y5⟩,_⟩:=Sf e7;have jd:=I1.o.set6 (b:=w.heap.size) hB (Nat.le_refl _) (F false) (I c) (S t) (J ca cn cc) ze nS;have hen1:=Df.kept vr.o.2 (Fi (w:=w4) (b:=w.heap.size) (show C.hb≠w.heap.size from qb) (F false) (I c) (S t) (J ca cn cc) ze nS) (λb cur q=>Fi (w:=w4) (b:=w.heap.size) (λe=>by subst e;have q2:=se.o;rw[q]at q2;injection q2 with q2;injection q2 with _ q2;exact absurd q2 qd) (F false) (I c) (S t) (J ca cn cc) ze nS);have hen:=hen1.bl (Ai _ (O #[I c,S t,J ca cn cc] 182));refine⟨G #[F false,I c,S t,J ca cn cc,ze,nS],by simp[results,results86,go_sem,y0,y1,y2,y3,y4,y5],ms',s',_,vr.o.1,Or.inr ⟨b,c,t,ca,cn,cc,r',rfl,rfl,hen,⟨jd.bel.trans ((Ai _ _).mono (Nat.le_trans hB jd.bel.size)),λb' hl h1 h2 h3 h4 h5=>by rw[(Ai _ _).block b' (Nat.lt_of_lt_of_le hl jd.bel.size)];exact jd.keep b' hl h1 h2 h3 h4 h5,jd.new,jd.old.next (λg cs q=>Ab (Ai _ _) q),jd.len⟩⟩⟩
def bdO(hs:X)(r:Rv)(pm vm:Z):Array Z:=#[D (p_ hs),r.nv,r.ev,r.uv,I 0,I 0,nS,nS,ze,ze,pm,vm,r.dv]
structure Ww (B hb hs n:X) (w:E) (s:Sb) (r:Rv) (pm vm:Z):Prop where
 lb:B<=hb/\B<=hs
 wd:1<=n/\n<=8
 bd:w.heap[hb]?=M (O (bdO hs r pm vm) 119 (0,0))
 sh:w.heap[hs]?=M (O #[I n,r.tx,r.qv,r.su] 124 (0,0))
 tx:w.ownsRow B 9 1 r.tx s.T.length (Av s.T)
 su:w.ownsRow B 9 1 r.su s.T.length (Av (s.T.map (Aq n)))
 qs:Fx w B r.qv s.R
 ran:w.ownsRow B 9 1 r.nv s.ran.length (Av s.ran)
 held:w.ownsRow B 9 1 r.ev s.held.length (Av s.held)
 us:∃xs:L Bool,w.ownsRow B 4 1 r.uv s.R.length (xs.map .bool)
 ap:Jf [r.tx,r.su,r.nv,r.ev]
theorem Ur(n:X):(madeCells (Value.bool false).cells (n*1)).toList=(List.replicate n false).map .bool:=by
 exact qmc
theorem Ww.fresh{hb hs n mb sb:X}{pm vm nd:Z}(k:Ww B hb hs n w s r pm vm)(hk:∀b,b<w.heap.size->b≠hb->w'.heap[b]?=w.heap[b]?)(hB:B<=w.heap.size)(iu:w'.heap[hb]?=M (O (Tw ⟨hb,hs,sb,n⟩ h ⟨r.tx,r.su,r.qv,r.nv,r.ev,r.uv,nd,0⟩) 119 (0,0)))(hh:w.heap.size<=h)(hmb:w.heap.size<=mb)(hsb:w.heap.size<=sb)(hms:mb≠sb)(hm:w'.heap[h]?=M (O #[sv,tv,.map (M mb),nS,nS,fvC ⟨hb,hs,sb,n⟩] 153 (0,0)))(hmp:Jl w' mb 0 (λ_=>N))(mn:Kj w' sb 0 (λ_ _=>N))(hnd:w'.ownsRow w.heap.size 4 1 nd s.R.length ((List.replicate s.R.length false).map .bool)):Je B h mb ⟨hb,hs,sb,n⟩ sv tv ss ts w' [] [] nS nS (λ_=>nS) s ⟨r.tx,r.su,r.qv,r.nv,r.ev,r.uv,nd,0⟩:=by
 obtain⟨xs,u1⟩:=k.us;obtain⟨zs,cv,lv,qr⟩:=k.qs
 have J3:∀(b:X)(cs:Array Z)(T:TypeId),T≠119->w.heap[b]?=M (O cs T (0,0))->b≠hb:=λb cs T hT hb e=>by
  exact qci
 have kc:∀(b:X)(cs:Array Z)(T:TypeId),T≠119->w.heap[b]?=M (O cs T (0,0))->w'.heap[b]?=M (O cs T (0,0)):=λb cs T hT hb=>by rw[hk b (Ag hb) (J3 b cs T hT hb)];exact hb
 have kk:∀ {e sz n:X} {u:Z} {ys:L Z},w.ownsRow B e sz u n ys->e≠119->w'.ownsRow B e sz u n ys:=λho he=>Al ho λb q=>by
  obtain⟨cs,c1⟩:=Bd ho b q;rw[c1];exact kc b cs _ he c1
 refine⟨⟨qb,qb,hm,⟨0,qg,hmp.congr (λx=>by rw[Xm (by simp[fd]) (λe=>by obtain⟨j,hj,_⟩:=e;simp at hj)])⟩,⟨[],rfl,World.ownsRow_nil _ _ _ _⟩,World.ownsRow_nil _ _ _ _,λb e=>qby,λx=>⟨_,_,_,rfl⟩⟩,⟨⟨k.lb.1,k.lb.2,by show B<=sb;omega,hms⟩,k.wd,iu,kc _ _ _ qd k.sh,⟨_,mn,λx y v e=>qt⟩,kk k.tx qd,kk k.su qd,k.qs.kept (λb q=>by obtain⟨cs,c1⟩:=Bd qr.row b q;rw[c1];exact kc b cs _ qd c1) (λb cs T hT q=>kc b cs T (by rcases hT with e|e<;>rw[e]<;>decide) q),kk k.ran qd,kk k.held qd,⟨xs,kk u1 qd⟩,⟨_,Ah hnd hB,λi hi=>?_⟩,λb e1 e2=>?_,?_⟩⟩
 ·rw[List.getElem?_replicate]at hi
  split at hi<;>cases hi
 ·have h1:=(u1.lt b e1).2
  have h2:=(hnd.lt b e2).1;omega
 ·have:=k.ap
  unfold Jf at this ⊢;refine List.Pairwise.cons (λu _ b e=>qby) (List.Pairwise.cons (λu _ b e=>qby) this)
end Go.Proofs.YtoakjccojifagaaGreatDoor
