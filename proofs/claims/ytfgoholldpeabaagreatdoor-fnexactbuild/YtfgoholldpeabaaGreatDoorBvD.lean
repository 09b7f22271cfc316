import Derived.Test.YtfgoholldpeabaaGreatDoorBtH
import Derived.Test.YtfgoholldpeabaaGreatDoorBuT
namespace Go.Proofs.YtfgoholldpeabaaGreatDoor
set_option maxHeartbeats 8000000
set_option maxRecDepth 100000
open _root_.Go.Proofs.Tryz Go.RowKit Go.Deep
set_option linter.unusedVariables false
set_option linter.unusedSimpArgs false
variable {B n h:Nat} {C:Ep} {w w' w6:World} {b:Gd} {v:Value} {ss:List S2} {ts:List T2} {a:Option Addr} {is R:List T3} {T:List By} {nm:By} {l:List Value}
structure RnF (C:Ep) (ss:List S2) (ts:List T2) (ms:Mm) (s:Sb) (st:List By) (r:Rv) (is:List I3) (m1:Mm) (s1:Sb) (m2:Mm) (s2:Sb) (ys:List R3) (ls:List G3) (c:Int) (t:By) (N:_) (r2:Rv):Prop where
  full:Ce is ys Ma (.over c t N)
  ro:Ft is ys ls
  ln:ys.length<=200
  lok:Lz ls
  dd:∀ kt s3 x,Bc ss ts C.n m2 s2 st (.run is ys ls) kt s3 x->Bc ss ts C.n m1 s1 st (.run is [] []) kt s3 x
  pre:Fd ss ts C.n m2 s2 st r2.sn 0
  sn:r2.sn+400200*Dd ts ms st<=r.sn+200*s.R.length+400200*Dd ts m2 st
structure RnJ (B h mb:Nat) (C:Ep) (sv tv:Value) (ss:List S2) (ts:List T2) (w:World) (st:List By) (av kv:Value) (r:Rv) (tn:By) (ga:Option Addr) (cap il:Nat) (m2:Mm) (s2:Sb) (lv:Value) (ls:List G3) (av2 kv2:Value) (vs2:By->Value) (r2:Rv) (wx:World):Prop where
  bs:Kz B h mb C sv tv ss ts wx m2 st av2 kv2 vs2 s2 r2
  kq:KQ B h mb C av kv r r2 w wx
  ra:Ak w av av2
  rk:Ak w kv kv2
  lo:Ln wx B lv ls
  tb:wx.heap[w.heap.size]?=some (.cells #[.string tn,.slice ga il cap] 100 (0,0))
  rb:wx.heap[w.heap.size+1]?=some (.cells #[I 0,ze,nS] 105 (0,0))
section
variable {B h mb:Nat} {C:Ep} {sv tv:Value} {ss:List S2} {ts:List T2} {w:World} {st:List By} {av kv:Value} {r:Rv} {tn:By} {ga:Option Addr} {cap il:Nat} {m2:Mm} {s2:Sb} {lv:Value} {ls:List G3} {av2 kv2:Value} {vs2:By->Value} {r2:Rv} {wx wy:World}
theorem RnJ.bl (k:RnJ B h mb C sv tv ss ts w st av kv r tn ga cap il m2 s2 lv ls av2 kv2 vs2 r2 wx) (hb:Bw wx wy) (hB:B<=w.heap.size):RnJ B h mb C sv tv ss ts w st av kv r tn ga cap il m2 s2 lv ls av2 kv2 vs2 r2 wy:=
  ⟨k.bs.bl hb,k.kq.after k.ra k.rk k.bs hb (zo k.kq.bel.size),k.ra,k.rk,k.lo.same (fun b cs q=>Ab hb q),Ab hb k.tb,Ab hb k.rb⟩
theorem RnJ.set3 (k:RnJ B h mb C sv tv ss ts w st av kv r tn ga cap il m2 s2 lv ls av2 kv2 vs2 r2 wx) {P:Nat} {u0 u1 u2:Value} (hp:wx.heap[P]?=some (.cells #[u0,u1,u2] 105 (0,0))) (hn:w.heap.size+1<P) (hB:B<=w.heap.size) (v0 v1 v2:Value):RnJ B h mb C sv tv ss ts w st av kv r tn ga cap il m2 s2 lv ls av2 kv2 vs2 r2 (((wx.setCell ⟨P,0,none⟩ v0).setCell ⟨P,1,none⟩ v1).setCell ⟨P,2,none⟩ v2):=
  ⟨k.bs.set3 hp qd _ _ _,k.kq.set3 qb qb _ _ _,k.ra,k.rk,k.lo.same (fun b cs q=>by rw[Ew (fun e=>by rw[e,hp] at q;injection q with q;injection q with _ q;exact absurd q qd)];exact q),by rw[Ew qb];exact k.tb,by rw[Ew qb];exact k.rb⟩
end
theorem workB_any (W0:World) (h mb:Nat) (C:Ep) (sa ta:Option Addr) (c1 c2:Nat) (ss:List S2) (ts:List T2) (hE:Ir W0 sa ta ss ts) (st:List By) (hU:Gx W0 h mb C (.slice sa ss.length c1) (.slice ta ts.length c2) ss ts st) (tn:By) (a:Option Addr) (cap:Nat) (is:List I3) (hr:Cj W0 a is) (hv:Au is=true) (hT:Lr W0) (hP:Mb W0) (hx:∀ i,(ix is i).text.size<=9223372036854775807):Py W0 h mb C (.slice sa ss.length c1) (.slice ta ts.length c2) ss ts st tn a cap is:=by
  intro w ms av kv vs s r q hp hW;have fy:=hW.size;have B1:=(Ko hv).2;have th:=hp.ok.2.1;obtain⟨W,eW⟩:=Ai ((w.alloc (.cells #[.string tn,.slice a is.length cap] 100)).alloc (.cells #[I 0,ze,nS] 105));have bn:Bw w W:=qbq
  have xh:Hd (W.heap[w.heap.size]?=some (.cells #[.string tn,.slice a is.length cap] 100 (0,0))):=by
    exact qdo
  have kh:Hd (W.heap[w.heap.size+1]?=some (.cells #[I 0,ze,nS] 105 (0,0))):=by
    show _=_;rw[<- eW];have:=Gq (w.alloc (.cells #[.string tn,.slice a is.length cap] 100)) (.cells #[I 0,ze,nS] 105)
    rwa [show (w.alloc (.cells #[.string tn,.slice a is.length cap] 100)).heap.size=w.heap.size+1 from qg] at this
  have HQ:=hid q;have zq:=hid (q.bl bn);have HKW:=hid (KQ.of_below q bn fy);have HPRE:=hid hp;have HW:=hid hW;have HE:=hid hE;have HU:=hid hU;have jt:=hid (show Lr W0/\Cj W0 a is/\Au is=true/\Mb W0 from ⟨hT,hr,hv,hP⟩);have HX:=hid hx;have hbW2:=bn.size;have HTK:Hd (Calls prog 127 #[.pointer (p_ C.hb),.agg #[.slice a is.length cap]] W fun e w'=>TakeB W0.heap.size h mb C (.slice sa ss.length c1) (.slice ta ts.length c2) ss ts ms s st av kv r is W e w'):=take_any W0 h mb C sa ta c1 c2 ss ts hE st hU ms s av kv vs r a cap is W zq.o (hp.le qb) (hW.trans (bn.mono fy)) hr B1;obtain⟨t0,t1,tf⟩:=Kj xh.o;clear q hp hW hE hU hT hr hv hP hx bn;go_enter func108,ntmps108;go_wp2_with fail;clear eW t0 t1 tf;refine HTK.o.mono ?_;clear HTK;rintro e w1 (⟨m1,s1,av1,kv1,vs1,r1,hans,eg,ce,ha1,hk1b,hsn1⟩|⟨b,v,r1,m1,s1,rfl,ce,hd1,B6⟩);rotate_left 1
  · have HD:=hid (show Bc ss ts C.n ms s st (.tri is 0 s.R.length) m1 s1 (.bad b)/\Db W0.heap.size C w1 b v/\KQ W0.heap.size h mb C av kv r r1 w w1 from ⟨hd1,B6,HKW.o.trans (Ak.refl _ _) (Ak.refl _ _) zq.o ce⟩)
    clear ce hd1 B6;unfold Kq;go_wp2_with fail;exact⟨rfl,Or.inr ⟨b,v,r1,m1,s1,rfl,HD.o.2.2,.tfell HD.o.1,HD.o.2.1⟩⟩
  have ie:=hid eg;have d6:=hid (show KQ W0.heap.size h mb C av kv r r1 w w1/\Ak w av av1/\Ak w kv kv1 from ⟨HKW.o.trans (Ak.refl _ _) (Ak.refl _ _) zq.o ce,ha1.less qb,hk1b.less qb⟩);have E3:=hid hsn1;have HTB1:Hd (w1.heap[w.heap.size]?=some (.cells #[.string tn,.slice a is.length cap] 100 (0,0))):=ce.blk zq.o xh.o qd;have HRB1:Hd (w1.heap[w.heap.size+1]?=some (.cells #[I 0,ze,nS] 105 (0,0))):=ce.blk zq.o kh.o qd;have G7:=d6.o.1.bel.size;have lj:=Af HRB1.o;clear eg ce ha1 hk1b hsn1 xh kh HKW zq
  rcases hans with ⟨c,t,hb,rfl⟩|⟨hb,rfl⟩
  · have HB:=hid hb
    have jz:Hd (Fd ss ts C.n m1 s1 st r1.sn (400200-200*s.R.length)):=HPRE.o.step HE.o.v hb (Nat.le_refl _) (fun _ e=>qu) rfl (by simp[Ol]) qb E3.o;clear hb
    go_upto_region 3 with fail
    obtain⟨w2,ew2⟩:=Ai (w1.alloc (.cells #[I c,.string t,nS] 105));have ag:=aB ew2;obtain⟨P,eP⟩:=Ai w1.heap.size;have HPx:=hid (nW ew2 eP);have HSx:=hid (ie.o.bl ag);have HTx:=hid (Ab ag HTB1.o);have HRx:=hid (Ab ag HRB1.o);have xm:=hid (show KQ W0.heap.size h mb C av kv r r1 w w2/\Ak w av av1/\Ak w kv kv1 from ⟨d6.o.1.after d6.o.2.1 d6.o.2.2 ie.o ag qb,d6.o.2⟩);have G6:=ag.size;clear ag;rw[ew2,eP];clear ew2 eP;obtain⟨ea,ec,eev⟩:=Aw HSx.o.rs.held;obtain⟨el,eel⟩:=Ai s1.held.length;rw[eel] at eev;have EEV:=hid eev;have EEL:=hid eel;(have hel:el<=200:=by rw[← eel];have:=(jz.o.small HE.o.l2).2.2.2;omega);obtain⟨U,eU⟩:=Ai w2.drew;have bm:Bw w2 U:=qbt;have dw:=hid (HSx.o.bl bm);have gv:Hd (U.heap[C.hb]?=some (.cells (Rm C h r1) 146 (0,0))/\U.heap[w.heap.size]?=some (.cells #[.string tn,.slice a is.length cap] 100 (0,0))):=⟨dw.o.rs.bd,Ab bm HTx.o⟩;have ky:=hid (Ab bm HRx.o);have HPU:=hid (Ab bm HPx.o);have jw:Hd (KQ W0.heap.size h mb C av kv r r1 w U):=xm.o.1.after xm.o.2.1 xm.o.2.2 HSx.o bm qb;have hbU2:=bm.size;refine Lt.begin 11 (fun w'=>w'.heap[C.hb]?=some (.cells (Rm C h r1) 146 (0,0))/\w'.heap[w.heap.size]?=some (.cells #[.string tn,.slice a is.length cap] 100 (0,0))) qi ?_;rw[eU];clear eU bm eev eel;change K 0 _
    iterate 7
     refine Lt.ti (v:=?_) gv.o ?_ ?_;rotate_left 1
     · rintro w ⟨s1,s2⟩
       obtain⟨t0,t1,-⟩:=Kj s2;(have y0:w.cell? ⟨C.hb,2,none⟩=some (.slice ea el ec):=by rw[cH s1,← EEV.o];rfl);exact qbm
     simp only[gX]
    refine Lt.sp (i:=7) (fun K hK=>?_);go_simp;refine Cc (Q:=fun x=>K _ x) ?_;intro w5 cu lh
    try dsimp only
    have im:Hd (w5.heap[C.hb]?=some (.cells (Rm C h r1) 146 (0,0))/\w5.heap[w.heap.size]?=some (.cells #[.string tn,.slice a is.length cap] 100 (0,0))):=⟨Ab cu gv.o.1,Ab cu gv.o.2⟩;refine hK.out _ _ (fun _=>im.o) (fun _=>?_);clear hK K 
    try simp only[gX]
    refine Lt.sp (i:=8) (fun K hK=>?_);(have M6:w5.ownsRow W0.heap.size 9 1 (.slice ea el ec) el (Ax s1.held):=by have:=Ac dw.o.rs.held cu;rw[EEV.o,EEL.o] at this;exact this);have h5:=cu.size;refine Qc rfl qt W0.heap.size ea el ec (Ax s1.held) qt M6 U.heap.size tn qt lh.o qb qb ?_;intro g' ai w7 ah ae ct;have A1:∀(b:Nat) (cs:Array Value) (T:TypeId),T≠9->w5.heap[b]?=some (.cells cs T (0,0))->w7.heap[b]?=some (.cells cs T (0,0)):=fun b cs T hT hb=>Bq hb ae (Ad M6 hT hb);have ia:Hd (w7.heap[C.hb]?=some (.cells (Rm C h r1) 146 (0,0))/\w7.heap[w.heap.size]?=some (.cells #[.string tn,.slice a is.length cap] 100 (0,0))):=⟨A1 _ _ _ qd im.o.1,A1 _ _ _ qd im.o.2⟩;have gt:w5.grownBy w7 r1.ev.ownBlock:=by rw[EEV.o];exact ae
    have hG:=dw.o.grE (w2:=w7) (nw:=.slice (p_ g') (el+1) ai) (x:=tn) qb (bel_via cu gt qb (fun b e=>(dw.o.rs.held.lt b e).1)) (k2_via cu gt) (by rw[List.length_append,EEL.o,Ax,List.map_append];exact ah) (fun b q=>by
      obtain rfl:g'=b:=qaq
      rcases ct with q|q
      · exact Or.inl (by rw[EEV.o];exact q)
      · right;omega)
    have HG:=hid hG;have HR7:Hd (w7.heap[w.heap.size+1]?=_):=A1 _ _ _ qd (Ab cu ky.o);have HP7:Hd (w7.heap[P]?=_):=A1 _ _ _ qd (Ab cu HPU.o);refine hK.out _ _ (fun _=>ia.o) (fun _=>?_);clear hK K ae ah gt hG M6 A1 ct cu gv im lh
    try simp only[gX]
    refine Lt.sp (i:=9) (fun K hK=>?_);go_simp;refine hK.out _ _ (fun _=>ia.o) (fun _=>?_);clear hK K 
    try simp only[gX]
    refine Lt.sp (i:=10) (fun K hK=>?_);go_simp;refine hK.out _ _ (fun _=>ia.o) (fun _=>?_);clear hK K 
    try simp only[gX]
    have y2f:=fZ ia.o.1;have y2:=cK ia.o.1 2;refine Lt.sp (i:=11) (fun K hK=>?_);go_simp;refine hK.out _ _ (fun h=>absurd rfl h) (fun _=>?_);clear hK K y2 y2f
    try simp only[gX]
    refine Lt.done qi ?_ _;(have ne7:∀(b:Nat) (cs:Array Value) (T:TypeId),T≠146->w7.heap[b]?=some (.cells cs T (0,0))->(w7.setCell ⟨C.hb,2,none⟩ (.slice (p_ g') (el+1) ai)).heap[b]?=some (.cells cs T (0,0)):=fun b cs T hT hb=>by rw[hC w7 ⟨C.hb,2,none⟩ _ b (fun e=>by have e:b=C.hb:=e;have o:=ia.o.1;rw[← e,hb] at o;injection o with o;injection o with _ o;exact hT o)];exact hb);have HR8:Hd ((w7.setCell ⟨C.hb,2,none⟩ (.slice (p_ g') (el+1) ai)).heap[w.heap.size+1]?=_):=ne7 _ _ _ qd HR7.o;have HP8:Hd ((w7.setCell ⟨C.hb,2,none⟩ (.slice (p_ g') (el+1) ai)).heap[P]?=_):=ne7 _ _ _ qd HP7.o;have vg:=hid (jw.o.trans xm.o.2.1 xm.o.2.2 dw.o HG.o.2);obtain⟨nw,enw⟩:=Ai (Value.slice (p_ g') (el+1) ai);have gq:=hid HG.o.1;clear ne7 HR7 HP7 HG ia ky HPU dw jw HSx HRx HPx HTx;obtain⟨w8,e8⟩:=Ai (w7.setCell ⟨C.hb,2,none⟩ (.slice (p_ g') (el+1) ai));rw[e8] at gq vg HR8 HP8 ⊢;rw[enw] at gq vg;clear e8 enw
    go_upto_region 4 with fail
    obtain⟨U8,eU8⟩:=Ai w8.drew;(have ul:Bw w8 U8:=by rw[← eU8];exact(Below.refl _ _).drew);have D8:=hid (gq.o.bl ul);have xw:=vg.o.bel.size;have HK9:=hid (vg.o.after xm.o.2.1 xm.o.2.2 gq.o ul qb);have J1:=hid (Ab ul HR8.o);obtain⟨x0,x1,x2,xf⟩:=Ea (Ab ul HP8.o);obtain⟨z0,z1,z2,zf⟩:=Ea J1.o;clear ul gq vg HR8 HP8;go_region;clear eU8 x0 x1 x2 xf z0 z1 z2 zf
    all_goals
      have z8:=Bi J1.o (I c) (.string t) nS;obtain⟨z0,z1,z2,zf⟩:=Ea z8;go_wp2_with fail;refine bR (v:=.tuple #[nS,.agg #[I c,.string t,nS]]) (by simp[results,results108,go_sem,z0,z1,z2]) rfl (Or.inl ⟨m1,_,⟨c,t,[]⟩,_,av1,kv1,vs1,_,rfl,⟨none,0,0,rfl⟩,.held HB.o,D8.o.set3 J1.o qd _ _ _,HK9.o.set3 qb qb _ _ _,xm.o.2.1,xm.o.2.2,?_⟩);have:=E3.o;dsimp only;omega
  have HB:=hid hb;have jz:Hd (Fd ss ts C.n m1 s1 st r1.sn (400200-200*s.R.length)):=HPRE.o.step HE.o.v hb (Nat.le_refl _) (fun _ e=>qu) rfl (by simp[Ol]) qb E3.o;clear hb
  go_upto_region 5 with fail
  obtain⟨w2,ew2⟩:=Ai (w1.alloc (.cells #[I 0,ze,nS] 105));have ag:=aB ew2;obtain⟨P6,eP6⟩:=Ai w1.heap.size;rw[ew2,eP6];clear ew2 eP6;obtain⟨U,eU⟩:=Ai w2.drew;have bm:Bw w1 U:=by rw[← eU];exact Ay ag (Below.refl _ _).drew
  have dw:=hid (ie.o.bl bm);have jw:=hid (show KQ W0.heap.size h mb C av kv r r1 w U/\Ak w av av1/\Ak w kv kv1 from ⟨d6.o.1.after d6.o.2.1 d6.o.2.2 ie.o bm qb,d6.o.2⟩);have ky:=hid (Ab bm HRB1.o);have gv:Hd (U.cell? ⟨C.hb,10,none⟩=some (.pointer (p_ h))/\U.heap[w.heap.size]?=some (.cells #[.string tn,.slice a is.length cap] 100 (0,0))):=⟨by rw[cH dw.o.rs.bd];rfl,Ab bm HTB1.o⟩;have hUsz:=jw.o.1.bel.size;have hU1:=Af ky.o;have D9:Hd (∀ V,Bw U V->Calls prog 128 #[.pointer (p_ h),.agg #[.string tn,.slice a is.length cap]] V fun e w'=>RunB W0.heap.size h mb C (.slice sa ss.length c1) (.slice ta ts.length c2) ss ts m1 s1 st av1 kv1 r1 is V e w'):=fun V hV=>runB_any W0 h mb C sa ta a c1 c2 cap ss ts is tn m1 s1 st av1 kv1 vs1 r1 V HE.o HU.o (dw.o.bl hV) (jz.o.le qb) (HW.o.trans (jw.o.1.bel.trans (hV.mono qb))) jt.o.2.1 jt.o.2.2.1 jt.o.1 jt.o.2.2.2;clear bm ag ie d6 HRB1 HTB1
  go_cut [8,9] (fun p q wx=>∃(P:Nat) (la:Option Addr) (lc:Nat) (m2:Mm) (s2:Sb) (ys:List R3) (ls:List G3) (c:Int) (t:By) (N:_) (av2 kv2:Value) (vs2:By->Value) (r2:Rv),p=.slice la ls.length lc/\q=.pointer (p_ P)/\Hd (RnF C ss ts ms s st r is m1 s1 m2 s2 ys ls c t N r2)/\Hd (RnJ W0.heap.size h mb C (.slice sa ss.length c1) (.slice ta ts.length c2) ss ts w st av kv r tn a cap is.length m2 s2 (.slice la ls.length lc) ls av2 kv2 vs2 r2 wx)/\Hd (wx.heap[P]?=some (.cells #[I c,.string t,nS] 105 (0,0))))
  case first=>
   refine Lt.begin 11 (fun w'=>w'.cell? ⟨C.hb,10,none⟩=some (.pointer (p_ h))/\w'.heap[w.heap.size]?=some (.cells #[.string tn,.slice a is.length cap] 100 (0,0))) qi ?_;rw[eU];clear eU;change K 0 _
   iterate 5
    refine Lt.ti (v:=?_) gv.o ?_ ?_;rotate_left 1
    · exact qdb
    simp only[gX]
   refine Lt.two (i:=5) (j:=9) (oi:={ dst:=some 36,op:=Op.call { callee:=Callee.value (Operand.func 128),args:=#[Operand.tmp 34,Operand.tmp 35],argTypes:=#[143,100] },type:=205,pos := "l5_build.go:101",after:=#[{ on:=3,ground:=Ground.data },{ on:=4,ground:=Ground.data }],guard:=none }) (oj:={ dst:=some 9,op:=Op.alloc 105,type:=0,pos := "l5_build.go:101",after:=#[],guard:=none }) qi rfl rfl (fun K hK=>?_) (fun K hK=>?_)
   · go_simp
     have cq:=dw;have my:=jw;have Of:=ky;have T4:=gv;refine(D9.o U (Below.refl _ _)).mono ?_;rintro e w5 (⟨m2,s2,ys,ls,c,t,N,lv,av2,kv2,vs2,r2,rfl,-,f1,f2,f3,f4,f5,f6,f7,wo,jg,ra5,rk5,uf,-⟩|⟨b,v,r2,m2,s2,rfl,jg,hd5,hf5⟩);rotate_left 1
     · exact qia
     have F8:Hd (RnF C ss ts ms s st r is m1 s1 m2 s2 ys ls c t N r2):=⟨f1,f2,f3,f4,f5,f6,by have:=E3.o;omega⟩;obtain⟨la,lc,elv⟩:=Aw uf.choose_spec.1;have hVsz:=my.o.1.bel.size;have mx:Hd (RnJ W0.heap.size h mb C (.slice sa ss.length c1) (.slice ta ts.length c2) ss ts w st av kv r tn a cap is.length m2 s2 lv ls av2 kv2 vs2 r2 w5):=⟨wo,my.o.1.trans my.o.2.1 my.o.2.2 cq.o jg,my.o.2.1.trans qb ra5,my.o.2.2.trans qb rk5,uf,jg.blk cq.o T4.o.2 qd,jg.blk cq.o Of.o qd⟩;rw[elv] at mx ⊢;have im:Hd (w5.cell? ⟨C.hb,10,none⟩=some (.pointer (p_ h))/\w5.heap[w.heap.size]?=some (.cells #[.string tn,.slice a is.length cap] 100 (0,0))):=⟨by rw[cH mx.o.bs.rs.bd];rfl,mx.o.tb⟩;refine hK.out _ _ (fun _=>im.o) (fun _=>?_);clear hK K f1 f2 f3 f4 f5 f6 f7 wo jg ra5 rk5 uf dw jw ky gv cq my Of T4 D9
     try simp only[gX]
     change K 6 _
     iterate 3
      refine Lt.ti (v:=?_) im.o ?_ ?_;rotate_left 1
      · exact qdb
      simp only[gX]
     refine Lt.sp (i:=9) (fun K hK=>?_);go_simp;refine Cc (Q:=fun x=>K _ x) ?_;intro w6 ci zx
     try dsimp only
     have HRK:Hd (RnJ W0.heap.size h mb C (.slice sa ss.length c1) (.slice ta ts.length c2) ss ts w st av kv r tn a cap is.length m2 s2 (.slice la ls.length lc) ls av2 kv2 vs2 r2 w6):=mx.o.bl ci qb;have HSS6:Hd (w6.cell? ⟨C.hb,10,none⟩=some (.pointer (p_ h))/\w6.heap[w.heap.size]?=some (.cells #[.string tn,.slice a is.length cap] 100 (0,0))):=⟨by rw[cH HRK.o.bs.rs.bd];rfl,HRK.o.tb⟩;refine hK.out _ _ (fun _=>HSS6.o) (fun _=>?_);clear hK K 
     try simp only[gX]
     refine Lt.sp (i:=10) (fun K hK=>?_);go_simp;refine hK.out _ _ (fun _=>HSS6.o) (fun _=>?_);clear hK K 
     try simp only[gX]
     obtain⟨k0,k1,k2,kf⟩:=Ea zx.o;refine Lt.sp (i:=11) (fun K hK=>?_);go_simp;refine hK.out _ _ (fun h=>absurd rfl h) (fun _=>?_);clear hK K k0 k1 k2 kf
     try simp only[gX]
     refine Lt.done qi ?_ _;go_wp2_with fail;go_meet;have h5z:=Af mx.o.rb;exact⟨w5.heap.size,la,lc,m2,s2,ys,ls,c,t,N,av2,kv2,vs2,r2,rfl,rfl,F8,HRK.o.set3 zx.o qb qb _ _ _,Bi zx.o _ _ _⟩
   · go_simp
     refine Cc (Q:=fun x=>K _ x) ?_;intro V o6 zw
     try dsimp only
     have cq:=hid (dw.o.bl o6);have my:=hid (show KQ W0.heap.size h mb C av kv r r1 w V/\Ak w av av1/\Ak w kv kv1 from ⟨jw.o.1.after jw.o.2.1 jw.o.2.2 dw.o o6 qb,jw.o.2⟩);have Of:=hid (Ab o6 ky.o);have T4:Hd (V.cell? ⟨C.hb,10,none⟩=some (.pointer (p_ h))/\V.heap[w.heap.size]?=some (.cells #[.string tn,.slice a is.length cap] 100 (0,0))):=⟨by rw[cH cq.o.rs.bd];rfl,Ab o6 gv.o.2⟩;refine hK.out _ _ (fun _=>T4.o) (fun _=>?_);clear hK K gv dw jw ky
     try simp only[gX]
     refine Lt.sp (i:=5) (fun K hK=>?_);go_simp;refine(D9.o V o6).mono ?_;rintro e w5 (⟨m2,s2,ys,ls,c,t,N,lv,av2,kv2,vs2,r2,rfl,-,f1,f2,f3,f4,f5,f6,f7,wo,jg,ra5,rk5,uf,-⟩|⟨b,v,r2,m2,s2,rfl,jg,hd5,hf5⟩);rotate_left 1
     · exact qia
     have F8:Hd (RnF C ss ts ms s st r is m1 s1 m2 s2 ys ls c t N r2):=⟨f1,f2,f3,f4,f5,f6,by have:=E3.o;omega⟩;obtain⟨la,lc,elv⟩:=Aw uf.choose_spec.1;have hVsz:=my.o.1.bel.size;have mx:Hd (RnJ W0.heap.size h mb C (.slice sa ss.length c1) (.slice ta ts.length c2) ss ts w st av kv r tn a cap is.length m2 s2 lv ls av2 kv2 vs2 r2 w5):=⟨wo,my.o.1.trans my.o.2.1 my.o.2.2 cq.o jg,my.o.2.1.trans qb ra5,my.o.2.2.trans qb rk5,uf,jg.blk cq.o T4.o.2 qd,jg.blk cq.o Of.o qd⟩;rw[elv] at mx ⊢;have im:Hd (w5.cell? ⟨C.hb,10,none⟩=some (.pointer (p_ h))/\w5.heap[w.heap.size]?=some (.cells #[.string tn,.slice a is.length cap] 100 (0,0))):=⟨by rw[cH mx.o.bs.rs.bd];rfl,mx.o.tb⟩;have lh:Hd (w5.heap[U.heap.size]?=_):=jg.blk cq.o zw.o qd;refine hK.out _ _ (fun _=>im.o) (fun _=>?_);clear hK K f1 f2 f3 f4 f5 f6 f7 wo jg ra5 rk5 uf cq my Of T4 D9 zw
     try simp only[gX]
     change K 6 _
     iterate 3
      refine Lt.ti (v:=?_) im.o ?_ ?_;rotate_left 1
      · exact qdb
      simp only[gX]
     refine Lt.ti (i:=10) (v:=?_) im.o ?_ ?_;rotate_left 1
     · exact qdb
     simp only[gX];obtain⟨k0,k1,k2,kf⟩:=Ea lh.o;refine Lt.sp (i:=11) (fun K hK=>?_);go_simp;refine hK.out _ _ (fun h=>absurd rfl h) (fun _=>?_);clear hK K k0 k1 k2 kf
     try simp only[gX]
     refine Lt.done qi ?_ _;go_wp2_with fail;go_meet;exact⟨U.heap.size,la,lc,m2,s2,ys,ls,c,t,N,av2,kv2,vs2,r2,rfl,rfl,F8,mx.o.set3 lh.o qb qb _ _ _,Bi lh.o _ _ _⟩
  case rest=>
   obtain⟨P,la,lc,m2,s2,ys,ls,c,t,N,av2,kv2,vs2,r2,rfl,rfl,F8,mx,Ge⟩:=hcut;obtain⟨wk,rfl⟩:∃ wk,wk=wc:=⟨_,rfl⟩;clear D9 dw jw ky gv eU hU1 hUsz;have HBk:=hid (HW.o.trans mx.o.kq.bel);have hwk:=mx.o.kq.bel.size;obtain⟨xs,xo,xf⟩:=mx.o.lo;have hov:=F8.o.ro.over F8.o.full
   have HKE:Hd (Calls prog 129 #[.pointer (p_ C.hb),.agg #[.slice a is.length cap],.slice la ls.length lc,.agg #[I c,.string t,nS]] wk fun e w'=>KeepB W0.heap.size h mb 0 C (.slice sa ss.length c1) (.slice ta ts.length c2) ss ts m2 st st (m2.length+st.length) av2 kv2 vs2 s2 r2 is ls c t wk e w'):=
    keepB_any W0 h mb 0 C _ _ ss ts m2 st st _ av2 kv2 vs2 s2 r2 a la cap lc is ls xs c t wk mx.o.bs HBk.o F8.o.pre.ok jt.o.1 jt.o.2.1 jt.o.2.2.1 HX.o xo xf (by have:=F8.o.ro.eq;have:=F8.o.ln;omega) F8.o.lok hov.2.1 hov.2.2 hov.1
   obtain⟨t0,t1,tf⟩:=Kj mx.o.tb;obtain⟨x0,x1,x2,xf⟩:=Ea Ge.o;clear xo xf hov;go_wp2_with fail;clear t0 t1 tf x0 x1 x2 xf;refine HKE.o.mono ?_;clear HKE;rintro e w6 (⟨s3,r3,rfl,V6,zg,ir,hsn6⟩|⟨v,b,s3,r3,rfl,V6,I2,ir⟩);rotate_left 1
   · have HD:=hid (show Bc ss ts C.n m1 s1 st (.run is [] []) m2 s3 (.bad b)/\Db W0.heap.size C w6 b v/\KQ W0.heap.size h mb C av kv r r3 w w6 from ⟨F8.o.dd _ _ _ (.overbad F8.o.full V6),I2,mx.o.kq.trans mx.o.ra mx.o.rk mx.o.bs ir⟩)
     clear V6 I2 ir;unfold Kq;go_wp2_with fail;exact⟨rfl,Or.inr ⟨b,v,r3,m2,s3,rfl,HD.o.2.2,.rfell HB.o HD.o.1,HD.o.2.1⟩⟩
   have HSx:=hid zg;have HTx:Hd (w6.heap[w.heap.size]?=_):=ir.blk mx.o.bs mx.o.tb qd;have HRx:Hd (w6.heap[w.heap.size+1]?=_):=ir.blk mx.o.bs mx.o.rb qd;have HPx:Hd (w6.heap[P]?=_):=ir.blk mx.o.bs Ge.o qd;have xm:=hid (show KQ W0.heap.size h mb C av kv r r3 w w6/\Ak w av av2/\Ak w kv kv2 from ⟨mx.o.kq.trans mx.o.ra mx.o.rk mx.o.bs ir,mx.o.ra,mx.o.rk⟩);have ki:Hd (Bc ss ts C.n m1 s1 st (.run is [] []) m2 s3 (.ok ⟨c,t,ls⟩)):=F8.o.dd _ _ _ (.over F8.o.full V6);have HSN:Hd (r3.sn+400200*Dd ts ms st<=r.sn+200*s.R.length+400200*Dd ts m2 st):=by have:=F8.o.sn;rw[← hsn6] at this;exact this
   have hw6:=xm.o.1.bel.size;have hr6:=Af HRx.o
   have H9:s3.ran.length<=200:=by
     have h1:=(F8.o.pre.small HE.o.l2).2.2.2
     cases V6 with
     | ok _ _=>dsimp only;omega
   clear V6 zg ir hsn6 mx Ge HBk
   go_upto_region 7 with fail
   obtain⟨ea,ec,eev⟩:=Aw HSx.o.rs.ran;obtain⟨el,eel⟩:=Ai s3.ran.length;rw[eel] at eev;have EEV:=hid eev;have EEL:=hid eel;have hel:el<=200:=by rw[← eel];exact H9
   obtain⟨U,eU⟩:=Ai w6.drew;have bm:Bw w6 U:=qbt;have dw:=hid (HSx.o.bl bm);have gv:Hd (U.heap[C.hb]?=some (.cells (Rm C h r3) 146 (0,0))/\U.heap[w.heap.size]?=some (.cells #[.string tn,.slice a is.length cap] 100 (0,0))):=⟨dw.o.rs.bd,Ab bm HTx.o⟩;have ky:=hid (Ab bm HRx.o);have HPU:=hid (Ab bm HPx.o);have jw:Hd (KQ W0.heap.size h mb C av kv r r3 w U):=xm.o.1.after xm.o.2.1 xm.o.2.2 HSx.o bm qb;have hbU2:=bm.size;refine Lt.begin 11 (fun w'=>w'.heap[C.hb]?=some (.cells (Rm C h r3) 146 (0,0))/\w'.heap[w.heap.size]?=some (.cells #[.string tn,.slice a is.length cap] 100 (0,0))) qi ?_;rw[eU];clear eU bm eev eel;change K 0 _
   iterate 7
    refine Lt.ti (v:=?_) gv.o ?_ ?_;rotate_left 1
    · rintro w ⟨s1,s2⟩
      obtain⟨t0,t1,-⟩:=Kj s2;(have y0:w.cell? ⟨C.hb,1,none⟩=some (.slice ea el ec):=by rw[cH s1,← EEV.o];rfl);exact qbm
    simp only[gX]
   refine Lt.sp (i:=7) (fun K hK=>?_);go_simp;refine Cc (Q:=fun x=>K _ x) ?_;intro w5 cu lh
   try dsimp only
   have im:Hd (w5.heap[C.hb]?=some (.cells (Rm C h r3) 146 (0,0))/\w5.heap[w.heap.size]?=some (.cells #[.string tn,.slice a is.length cap] 100 (0,0))):=⟨Ab cu gv.o.1,Ab cu gv.o.2⟩;refine hK.out _ _ (fun _=>im.o) (fun _=>?_);clear hK K 
   try simp only[gX]
   refine Lt.sp (i:=8) (fun K hK=>?_);have M6:w5.ownsRow W0.heap.size 9 1 (.slice ea el ec) el (Ax s3.ran):=by have:=Ac dw.o.rs.ran cu;rw[EEV.o,EEL.o] at this;exact this
   have h5:=cu.size;refine Qc rfl qt W0.heap.size ea el ec (Ax s3.ran) qt M6 U.heap.size tn qt lh.o qb qb ?_;intro g' ai w7 ah ae ct;have A1:∀(b:Nat) (cs:Array Value) (T:TypeId),T≠9->w5.heap[b]?=some (.cells cs T (0,0))->w7.heap[b]?=some (.cells cs T (0,0)):=fun b cs T hT hb=>Bq hb ae (Ad M6 hT hb);have ia:Hd (w7.heap[C.hb]?=some (.cells (Rm C h r3) 146 (0,0))/\w7.heap[w.heap.size]?=some (.cells #[.string tn,.slice a is.length cap] 100 (0,0))):=⟨A1 _ _ _ qd im.o.1,A1 _ _ _ qd im.o.2⟩;have gt:w5.grownBy w7 r3.nv.ownBlock:=by rw[EEV.o];exact ae
   have hG:=dw.o.grN (w2:=w7) (nw:=.slice (p_ g') (el+1) ai) (x:=tn) qb (bel_via cu gt qb (fun b e=>(dw.o.rs.ran.lt b e).1)) (k2_via cu gt) (by rw[List.length_append,EEL.o,Ax,List.map_append];exact ah) (fun b q=>by
     obtain rfl:g'=b:=qaq
     rcases ct with q|q
     · exact Or.inl (by rw[EEV.o];exact q)
     · right;omega)
   have HG:=hid hG;have HR7:Hd (w7.heap[w.heap.size+1]?=_):=A1 _ _ _ qd (Ab cu ky.o);have HP7:Hd (w7.heap[P]?=_):=A1 _ _ _ qd (Ab cu HPU.o);refine hK.out _ _ (fun _=>ia.o) (fun _=>?_);clear hK K ae ah gt hG M6 A1 ct cu gv im lh
   try simp only[gX]
   refine Lt.sp (i:=9) (fun K hK=>?_);go_simp;refine hK.out _ _ (fun _=>ia.o) (fun _=>?_);clear hK K 
   try simp only[gX]
   refine Lt.sp (i:=10) (fun K hK=>?_);go_simp;refine hK.out _ _ (fun _=>ia.o) (fun _=>?_);clear hK K 
   try simp only[gX]
   have y2f:=fZ ia.o.1;have y2:=cK ia.o.1 1;refine Lt.sp (i:=11) (fun K hK=>?_);go_simp;refine hK.out _ _ (fun h=>absurd rfl h) (fun _=>?_);clear hK K y2 y2f
   try simp only[gX]
   refine Lt.done qi ?_ _;have ne7:∀(b:Nat) (cs:Array Value) (T:TypeId),T≠146->w7.heap[b]?=some (.cells cs T (0,0))->(w7.setCell ⟨C.hb,1,none⟩ (.slice (p_ g') (el+1) ai)).heap[b]?=some (.cells cs T (0,0)):=fun b cs T hT hb=>by rw[hC w7 ⟨C.hb,1,none⟩ _ b (fun e=>by have e:b=C.hb:=e;have o:=ia.o.1;rw[← e,hb] at o;injection o with o;injection o with _ o;exact hT o)];exact hb
   have HR8:Hd ((w7.setCell ⟨C.hb,1,none⟩ (.slice (p_ g') (el+1) ai)).heap[w.heap.size+1]?=_):=ne7 _ _ _ qd HR7.o;have HP8:Hd ((w7.setCell ⟨C.hb,1,none⟩ (.slice (p_ g') (el+1) ai)).heap[P]?=_):=ne7 _ _ _ qd HP7.o;have vg:=hid (jw.o.trans xm.o.2.1 xm.o.2.2 dw.o HG.o.2);obtain⟨nw,enw⟩:=Ai (Value.slice (p_ g') (el+1) ai);have gq:=hid HG.o.1;clear ne7 HR7 HP7 HG ia ky HPU dw jw HSx HRx HPx HTx;obtain⟨w8,e8⟩:=Ai (w7.setCell ⟨C.hb,1,none⟩ (.slice (p_ g') (el+1) ai));rw[e8] at gq vg HR8 HP8 ⊢;rw[enw] at gq vg;clear e8 enw
   go_upto_region 8 with fail
   obtain⟨U8,eU8⟩:=Ai w8.drew;have ul:Bw w8 U8:=by rw[← eU8];exact(Below.refl _ _).drew
   have D8:=hid (gq.o.bl ul);have xw:=vg.o.bel.size;have HK9:=hid (vg.o.after xm.o.2.1 xm.o.2.2 gq.o ul qb);have J1:=hid (Ab ul HR8.o);obtain⟨x0,x1,x2,xf⟩:=Ea (Ab ul HP8.o);obtain⟨z0,z1,z2,zf⟩:=Ea J1.o;clear ul gq vg HR8 HP8;go_region;clear eU8 x0 x1 x2 xf z0 z1 z2 zf
   all_goals
     have z8:=Bi J1.o (I c) (.string t) nS;obtain⟨z0,z1,z2,zf⟩:=Ea z8;go_wp2_with fail;refine bR (v:=.tuple #[.slice la ls.length lc,.agg #[I c,.string t,nS]]) (by simp[results,results108,go_sem,z0,z1,z2]) rfl (Or.inl ⟨m2,_,⟨c,t,ls⟩,_,av2,kv2,vs2,_,rfl,⟨la,ls.length,lc,rfl⟩,.ran HB.o ki.o,D8.o.set3 J1.o qd _ _ _,HK9.o.set3 qb qb _ _ _,xm.o.2.1,xm.o.2.2,?_⟩);have:=HSN.o;dsimp only;omega
theorem underB_all (W0:World) (h mb:Nat) (C:Ep) (sa ta:Option Addr) (c1 c2:Nat) (ss:List S2) (ts:List T2) (hE:Ir W0 sa ta ss ts) (hT:Lr W0) (hP:Mb W0):∀(n:Nat) (st:List By),60-st.length=n->st.length<=60->Gx W0 h mb C (.slice sa ss.length c1) (.slice ta ts.length c2) ss ts st:=by
  intro n
  induction n with
  | zero=>
    intro st hn jn;exact Wj W0 h mb C sa ta c1 c2 ss ts hE st jn (fun nm cr i a cap q1 q2 q3 q4=>qb)
  | succ n ih=>
    intro st hn jn;exact Wj W0 h mb C sa ta c1 c2 ss ts hE st jn (fun nm cr i a cap q1 q2 q3 q4=>workB_any W0 h mb C sa ta c1 c2 ss ts hE (st++[nm]) (ih (st++[nm]) qh qh) nm a cap (tx ts i).code q3 (hE.v.pr i q1) hT hP (hE.xc i))
theorem catch_panB (O:Nat) (c:Int) (t:By) (ca:Option Addr) (cn cc:Nat) (older:List PanicEntry) (w:World) (hO:w.heap[O]?=some (.cells #[.bool false,I 0,ze,nS,ze,nS] 187 (0,0))) :
  CallsD prog 130 #[.pointer (p_ O)] (.panicking ({ v:=.iface 207 (.agg #[I c,.string t,.slice ca cn cc]),recovered:=false } :: older)) w fun e u' w'=>
   e=.returned (.tuple #[])/\u'=.panicking ({ v:=.iface 207 (.agg #[I c,.string t,.slice ca cn cc]),recovered:=true } :: older)/\w'=((((((w.setCell ⟨O,0,none⟩ (.bool false)).setCell ⟨O,1,none⟩ (I c)).setCell ⟨O,2,none⟩ (.string t)).setCell ⟨O,3,none⟩ (.slice ca cn cc)).setCell ⟨O,4,none⟩ ze).setCell ⟨O,5,none⟩ nS).alloc (.cells #[I c,.string t,.slice ca cn cc] 207):=by
 refine callsD_of_wpS func130 rfl fun c₀ cs hu=>?_
 apply wpS_seq
 apply wpS_region
 simp[wpOpsS,go_sem,recoverD,hu,ntmps130,Exit.thenS]
 obtain⟨⟨z0,z1,z2,z3,z4,z5⟩,zf⟩:=Rl hO
 have hOl:=Af hO
 have hta:∀ w:World,(Instr.typeAssert (.iface 207 (.agg #[I c,.string t,.slice ca cn cc])) 20 207 true).run prog w=.ok (.tuple #[.agg #[I c,.string t,.slice ca cn cc],.bool true]) w:=fun w=>qi
 have bz:∀(p x:Value),#[p]++(((Array.replicate 15 undef).setIfInBounds 3 x).setIfInBounds 0 x)=#[p,x,undef,undef,x,undef,undef,undef,undef,undef,undef,undef,undef,undef,undef,undef]:=fun p x=>rfl
 refine wpS_of_wp ?_
 rw[bz]
 go_wp2_with fail
 simp[bodyPostS,results,results130]
theorem Qcg (O:Nat) (w:World) :
  CallsD prog 130 #[.pointer (p_ O)] .returning w fun e u' w'=>e=.returned (.tuple #[])/\u'=.returning/\w'=w.alloc (.cells #[I 0,ze,nS] 207):=by
 refine callsD_of_wpS func130 rfl fun c₀ cs hu=>?_
 apply wpS_seq
 apply wpS_region
 simp[wpOpsS,go_sem,recoverD,hu,ntmps130,Exit.thenS]
 have hta:∀ w:World,(Instr.typeAssert .nilIface 20 207 true).run prog w=.ok (.tuple #[.agg #[I 0,ze,nS],.bool false]) w:=fun w=>qi
 have hne:∀ w:World,(binOp BinOp.neq 20 .nilIface .nilIface).run prog w=.ok (.bool false) w:=fun _=>qi
 have bz:∀(p x:Value),#[p]++(((Array.replicate 15 undef).setIfInBounds 3 x).setIfInBounds 0 x)=#[p,x,undef,undef,x,undef,undef,undef,undef,undef,undef,undef,undef,undef,undef,undef]:=fun p x=>rfl
 refine wpS_of_wp ?_
 rw[bz]
 go_wp2_with fail
 cases c₀
 simp_all [bodyPostS,results,results130]

theorem Db.parts (h:Db B C w b v):∃ c t ca cn cc,v=.agg #[I c,.string t,.slice ca cn cc]:=by
  obtain⟨_,_,h⟩:=h
  cases b with
  | circle ch=>obtain⟨ca,cn,cc,e,_⟩:=h;exact⟨_,_,_,_,_,e⟩
  | deep nm=>exact⟨_,_,_,_,_,h⟩
  | clash A B=>exact⟨_,_,_,_,_,h⟩
  | full=>exact⟨_,_,_,_,_,h⟩
theorem Db.kept (h:Db B C w b v) (hb:w'.heap[C.hb]?=w.heap[C.hb]?) (hk:∀(b:Nat) (cur:Array Value),w.heap[b]?=some (Obj.cells cur 9 (0,0))->w'.heap[b]?=w.heap[b]?):Db B C w' b v:=by
  obtain⟨h1,h2,h3⟩:=h;refine⟨(De hb).trans h1,(De hb).trans h2,?_⟩
  cases b with
  | circle ch=>
    obtain⟨ca,cn,cc,e,ho⟩:=h3;exact qll
  | deep nm=>exact h3
  | clash A B=>exact h3
  | full=>exact h3
def FirstB (B h mb:Nat) (C:Ep) (sv tv:Value) (ss:List S2) (ts:List T2) (s:Sb) (av kv:Value) (r:Rv) (nm:By) (w:World) (e:Ending) (w':World):Prop:=
  ∃ ms' s' a,Bc ss ts C.n [] s [] (.make nm) ms' s' a/\
    ((∃ d lv av' kv' vs' r',a=.ok d/\e=.returned (Ey d lv)/\(∃ la ln lc,lv=.slice la ln lc)/\Kz B h mb C sv tv ss ts w' ms' [] av' kv' vs' s' r'/\KQ B h mb C av kv r r' w w')\/
     (∃ b c t ca cn cc r',a=.bad b/\e=.returned (.agg #[.bool false,I c,.string t,.slice ca cn cc,ze,nS])/\Db B C w' b (.agg #[I c,.string t,.slice ca cn cc])/\KQ B h mb C av kv r r' w w'))
theorem firstB_any (W0:World) (h mb:Nat) (C:Ep) (sa ta:Option Addr) (c1 c2:Nat) (ss:List S2) (ts:List T2) (nm:By) (av kv:Value) (vs:By->Value) (s:Sb) (r:Rv) (w:World) (hE:Ir W0 sa ta ss ts) (hT:Lr W0) (hP:Mb W0) (cr:Am nm)
    (q:Kz W0.heap.size h mb C (.slice sa ss.length c1) (.slice ta ts.length c2) ss ts w [] [] av kv vs s r) (hp:Fd ss ts C.n [] s [] r.sn 0) (hW:Bw W0 w) :
    Calls prog 109 #[.pointer (p_ h),.string nm] w fun e w'=>FirstB W0.heap.size h mb C (.slice sa ss.length c1) (.slice ta ts.length c2) ss ts s av kv r nm w e w':=by
  have hB:=hW.size;have R7:=Af q.rs.bd;have hmf:∀(fn:Fn) (first cap:Array Value) (w:World),(Instr.makeFunc fn first cap).run prog w=.ok (.func fn first cap) w:=fun _ _ _ _=>rfl;obtain⟨W,eW⟩:=Ai (w.alloc (.cells #[.bool false,I 0,ze,nS,ze,nS] 187));have bn:Bw w W:=qaz
  have HOB:Hd (W.heap[w.heap.size]?=some (.cells #[.bool false,I 0,ze,nS,ze,nS] 187 (0,0))):=by
    exact qbl
  have zq:=hid (q.bl bn);have HKW:=hid (KQ.of_below q bn hB);have HU:Hd (Calls prog 131 #[.pointer (p_ h),.string nm] W fun e w'=>My W0.heap.size h mb C (.slice sa ss.length c1) (.slice ta ts.length c2) ss ts [] s [] av kv vs r nm (fun d vs'=>Ey d (vs' nm)) W e w'):=underB_all W0 h mb C sa ta c1 c2 ss ts hE hT hP 60 [] rfl qg W [] nm av kv vs s r zq.o hp cr (hW.trans (bn.mono hB));clear q hW hE hT hP cr bn hp
  go_enter_defers func109,ntmps109
  go_wp2_with fail;refine HU.o.mono ?_;rintro e w4 ⟨ms',s',an,od,⟨⟨dc,dt,dls⟩,av',kv',vs',r',rfl,rfl,A3,oc,ha4,If,-⟩|⟨b,v,r',rfl,rfl,hv,oc⟩⟩
  · have uw:Hd (w4.heap[w.heap.size]?=_):=oc.blk zq.o HOB.o qd
    obtain⟨la,ln,lc,hlv⟩:=A3.mkr.vsl nm;obtain⟨fo,efo⟩:=Ai (Bk dc dt);have EF:=hid efo;unfold Ey;simp only[efo,hlv];have ib:=hid A3;have Gt:=hid (HKW.o.trans (Ak.refl _ _) (Ak.refl _ _) zq.o oc)
    have zv:=hid od
    have HA4:=hid (show Ak w av av'/\Ak w kv kv' from ⟨ha4.less HKW.o.bel.size,If.less HKW.o.bel.size⟩);obtain⟨⟨z0,z1,z2,z3,z4,z5⟩,zf⟩:=Rl uw.o;clear oc od A3 ha4 If hlv efo eW zq HKW HOB;go_wp2_with fail;refine leaves_cons (f:=130) (args:=#[.pointer (p_ w.heap.size)]) qg qk ?_;refine(Qcg w.heap.size _).mono ?_;rintro e u' w'' ⟨rfl,rfl,rfl⟩;have e7:=Ab (Ag _ (.cells #[I 0,ze,nS] 207)) (Hu uw.o (.bool true) (I dc) (.string dt) nS (.string fo) (.slice la ln lc));obtain⟨⟨y0,y1,y2,y3,y4,y5⟩,_⟩:=Rl e7;have zg:=ib.o.set6 uw.o qd (.bool true) (I dc) (.string dt) nS (.string fo) (.slice la ln lc);have ir:=Gt.o.set6 (b:=w.heap.size) hB (Nat.le_refl _) (.bool true) (I dc) (.string dt) nS (.string fo) (.slice la ln lc);refine⟨Ey ⟨dc,dt,dls⟩ (.slice la ln lc),by simp[results,results109,go_sem,Ey,EF.o,y0,y1,y2,y3,y4,y5],ms',s',_,zv.o,Or.inl ⟨_,_,av',kv',vs',r',rfl,rfl,⟨_,_,_,rfl⟩,zg.bl (Ag _ _),ir.after HA4.o.1 HA4.o.2 zg (Ag _ _) (Nat.le_trans hB ir.bel.size)⟩⟩
  · obtain⟨c,t,ca,cn,cc,rfl⟩:=hv.parts
    unfold Kq;dsimp only;have uw:Hd (w4.heap[w.heap.size]?=_):=oc.blk zq.o HOB.o qd;have Gt:=hid (HKW.o.trans (Ak.refl _ _) (Ak.refl _ _) zq.o oc);have vi:=hid (show Bc ss ts C.n [] s [] (.make nm) ms' s' (.bad b)/\Db W0.heap.size C w4 b (.agg #[I c,.string t,.slice ca cn cc]) from ⟨od,hv⟩);clear oc od hv eW zq HKW HOB;go_wp2_with fail;refine leaves_cons (f:=130) (args:=#[.pointer (p_ w.heap.size)]) qg qk ?_;refine(catch_panB w.heap.size c t ca cn cc [] _ uw.o).mono ?_;rintro e u' w'' ⟨rfl,rfl,rfl⟩;have e7:=Ab (Ag _ (.cells #[I c,.string t,.slice ca cn cc] 207)) (Hu uw.o (.bool false) (I c) (.string t) (.slice ca cn cc) ze nS);obtain⟨⟨y0,y1,y2,y3,y4,y5⟩,_⟩:=Rl e7;have ir:=Gt.o.set6 (b:=w.heap.size) hB (Nat.le_refl _) (.bool false) (I c) (.string t) (.slice ca cn cc) ze nS;have hen1:=Db.kept vi.o.2 (Ev (w:=w4) (b:=w.heap.size) (show C.hb≠w.heap.size from qb) (.bool false) (I c) (.string t) (.slice ca cn cc) ze nS) (fun b cur q=>Ev (w:=w4) (b:=w.heap.size) (fun e=>by subst e;have q2:=uw.o;rw[q] at q2;injection q2 with q2;injection q2 with _ q2;exact absurd q2 qd) (.bool false) (I c) (.string t) (.slice ca cn cc) ze nS);have hen:=hen1.bl (Ag _ (.cells #[I c,.string t,.slice ca cn cc] 207));refine⟨.agg #[.bool false,I c,.string t,.slice ca cn cc,ze,nS],by simp[results,results109,go_sem,y0,y1,y2,y3,y4,y5],ms',s',_,vi.o.1,Or.inr ⟨b,c,t,ca,cn,cc,r',rfl,rfl,hen,⟨ir.bel.trans ((Ag _ _).mono (Nat.le_trans hB ir.bel.size)),fun b' hl h1 h2 h3 h4 h5=>by rw[(Ag _ _).block b' (Nat.lt_of_lt_of_le hl ir.bel.size)];exact ir.keep b' hl h1 h2 h3 h4 h5,ir.new,ir.old.next (fun g cs q=>Ab (Ag _ _) q),ir.len⟩⟩⟩
def bdO (hs:Nat) (r:Rv) (pm vm:Value):Array Value:=#[.pointer (p_ hs),r.nv,r.ev,r.uv,I 0,I 0,nS,nS,ze,ze,pm,vm,r.dv]
structure RstO (B hb hs n:Nat) (w:World) (s:Sb) (r:Rv) (pm vm:Value):Prop where
  lb:B<=hb/\B<=hs
  wd:1<=n/\n<=8
  bd:w.heap[hb]?=some (.cells (bdO hs r pm vm) 146 (0,0))
  sh:w.heap[hs]?=some (.cells #[I n,r.tx,r.qv,r.su] 149 (0,0))
  tx:w.ownsRow B 9 1 r.tx s.T.length (Ax s.T)
  su:w.ownsRow B 9 1 r.su s.T.length (Ax (s.T.map (Ap n)))
  qs:Es w B r.qv s.R
  ran:w.ownsRow B 9 1 r.nv s.ran.length (Ax s.ran)
  held:w.ownsRow B 9 1 r.ev s.held.length (Ax s.held)
  us:∃ xs:List Bool,w.ownsRow B 4 1 r.uv s.R.length (xs.map .bool)
  ap:It [r.tx,r.su,r.nv,r.ev]
theorem Ty (n:Nat):(madeCells (Value.bool false).cells (n*1)).toList=(List.replicate n false).map .bool:=by
  exact qmg
theorem RstO.fresh {hb hs mb sb:Nat} {s:Sb} {r:Rv} {pm vm sv tv nd:Value} (k:RstO B hb hs n w s r pm vm) (hk:∀ b,b<w.heap.size->b≠hb->w'.heap[b]?=w.heap[b]?) (hB:B<=w.heap.size)
    (ii:w'.heap[hb]?=some (.cells (Rm ⟨hb,hs,sb,n⟩ h ⟨r.tx,r.su,r.qv,r.nv,r.ev,r.uv,nd,0⟩) 146 (0,0))) (hh:w.heap.size<=h) (hmb:w.heap.size<=mb) (hsb:w.heap.size<=sb) (hms:mb≠sb)
    (hm:w'.heap[h]?=some (.cells #[sv,tv,.map (some mb),nS,nS,fvC ⟨hb,hs,sb,n⟩] 185 (0,0))) (hmp:Iq w' mb 0 (fun _=>none)) (l8:Jw w' sb 0 (fun _ _=>none)) (hnd:w'.ownsRow w.heap.size 4 1 nd s.R.length ((List.replicate s.R.length false).map .bool)) :
    Kz B h mb ⟨hb,hs,sb,n⟩ sv tv ss ts w' [] [] nS nS (fun _=>nS) s ⟨r.tx,r.su,r.qv,r.nv,r.ev,r.uv,nd,0⟩:=by
  obtain⟨xs,u1⟩:=k.us;obtain⟨zs,cv,lv,qr⟩:=k.qs
  have G8:∀(b:Nat) (cs:Array Value) (T:TypeId),T≠146->w.heap[b]?=some (.cells cs T (0,0))->b≠hb:=fun b cs T hT hb e=>by
    exact qbd
  have kc:∀(b:Nat) (cs:Array Value) (T:TypeId),T≠146->w.heap[b]?=some (.cells cs T (0,0))->w'.heap[b]?=some (.cells cs T (0,0)):=fun b cs T hT hb=>by rw[hk b (Af hb) (G8 b cs T hT hb)];exact hb
  have kk:∀ {e sz n:Nat} {u:Value} {ys:List Value},w.ownsRow B e sz u n ys->e≠146->w'.ownsRow B e sz u n ys:=fun ho he=>Aj ho fun b q=>by
    obtain⟨cs,c1⟩:=Ba ho b q;rw[c1];exact kc b cs _ he c1
  refine⟨⟨qb,qb,hm,⟨0,qg,hmp.congr (fun x=>by rw[Wy (by simp[fd]) (fun e=>by obtain⟨j,hj,_⟩:=e;simp at hj)])⟩,⟨[],rfl,World.ownsRow_nil _ _ _ _⟩,World.ownsRow_nil _ _ _ _,fun b e=>qbg,fun x=>⟨_,_,_,rfl⟩⟩,⟨⟨k.lb.1,k.lb.2,by show B<=sb;omega,hms⟩,k.wd,ii,kc _ _ _ qd k.sh,⟨_,l8,fun x y v e=>qu⟩,kk k.tx qd,kk k.su qd,k.qs.kept (fun b q=>by obtain⟨cs,c1⟩:=Ba qr.row b q;rw[c1];exact kc b cs _ qd c1) (fun b cs T hT q=>kc b cs T (by rcases hT with e|e<;>rw[e]<;>decide) q),kk k.ran qd,kk k.held qd,⟨xs,kk u1 qd⟩,⟨_,Ah hnd hB,fun i hi=>?_⟩,fun b e1 e2=>?_,?_⟩⟩
  · rw[List.getElem?_replicate] at hi
    split at hi<;>cases hi
  · have h1:=(u1.lt b e1).2
    have h2:=(hnd.lt b e2).1;omega
  · have:=k.ap
    unfold It at this ⊢;refine List.Pairwise.cons (fun u _ b e=>qbg) (List.Pairwise.cons (fun u _ b e=>qbg) this)
def BuildB (B hb hs n:Nat) (sv tv:Value) (ss:List S2) (ts:List T2) (s:Sb) (nm:By) (w:World) (e:Ending) (w':World):Prop:=
  (¬ Am nm/\e=.returned (.agg #[I 9,ze,nS])/\Bw w w')\/
  (Am nm/\Below B w w'/\(∀(b:Nat) (cs:Array Value) (T:TypeId),TyO T->w.heap[b]?=some (.cells cs T (0,0))->w'.heap[b]?=some (.cells cs T (0,0)))/\∃ h mb sb ms' s' a,Bc ss ts n [] s [] (.make nm) ms' s' a/\
    ((∃ d av' kv' vs' r',a=.ok d/\e=.returned (.agg #[I d.c,.string d.t,nS])/\Kz B h mb ⟨hb,hs,sb,n⟩ sv tv ss ts w' ms' [] av' kv' vs' s' r')\/
     (∃ b c t ca cn cc,a=.bad b/\e=.returned (.agg #[I c,.string t,.slice ca cn cc])/\Db B ⟨hb,hs,sb,n⟩ w' b (.agg #[I c,.string t,.slice ca cn cc]))))
theorem buildB_any (W0:World) (hb hs n:Nat) (sa ta:Option Addr) (c1 c2:Nat) (ss:List S2) (ts:List T2) (nm:By) (s:Sb) (r:Rv) (pm vm:Value) (w:World) (hE:Ir W0 sa ta ss ts) (hT:Lr W0) (hP:Mb W0) (cr:nm.size<=9223372036854775807) (k:RstO W0.heap.size hb hs n w s r pm vm) (ft:Kl n s) (H9:s.ran=[]) (B4:s.held=[]) (hW:Bw W0 w) :
    Calls prog 77 #[.pointer (p_ hb),.agg #[.slice sa ss.length c1,.slice ta ts.length c2],.string nm] w fun e w'=>BuildB W0.heap.size hb hs n (.slice sa ss.length c1) (.slice ta ts.length c2) ss ts s nm w e w':=by
  have fy:=hW.size;have hmf:∀(fn:Fn) (first cap:Array Value) (w:World),(Instr.makeFunc fn first cap).run prog w=.ok (.func fn first cap) w:=fun _ _ _ _=>rfl;have hmm:∀ w:World,(Instr.makeMap 144 none).run prog w=.ok (.map (some w.heap.size)) (w.alloc (.map #[] 0)):=fun w=>qi;have hfd:∀(v0 v1 v2 v3 v4 v5:Value) (w:World),(Instr.field 187 (.agg #[v0,v1,v2,v3,v4,v5]) 1).run prog w=.ok (.agg #[v1,v2,v3]) w:=fun _ _ _ _ _ _ _=>qi;have cz:∀(a:Addr) (fn:Fn) (x y:Array Value) (m:Mode) (w:World),(store a (.func fn x y) m).run prog w=stored prog w a (.func fn x y) m:=fun a fn x y m w=>run_store prog w a _ m rfl;obtain⟨W,eW⟩:=Ai ((w.alloc (.cells #[.slice sa ss.length c1,.slice ta ts.length c2] 42)).alloc (.cells #[I 0,ze,nS] 105));have bn:Bw w W:=qbq
  have HSP:Hd (W.heap[w.heap.size]?=some (.cells #[.slice sa ss.length c1,.slice ta ts.length c2] 42 (0,0))):=by
    exact qdo
  have kh:Hd (W.heap[w.heap.size+1]?=some (.cells #[I 0,ze,nS] 105 (0,0))):=by
    show _=_;rw[<- eW];have:=Gq (w.alloc (.cells #[.slice sa ss.length c1,.slice ta ts.length c2] 42)) (.cells #[I 0,ze,nS] 105)
    rwa [show (w.alloc (.cells #[.slice sa ss.length c1,.slice ta ts.length c2] 42)).heap.size=w.heap.size+1 from qg] at this
  have HVN:=hid (fun V=>Dg nm V cr);have HK:=hid k;have HW:=hid hW;have vk:=hid bn;have HEN:=hid (show Ir W0 sa ta ss ts/\Lr W0/\Mb W0 from ⟨hE,hT,hP⟩);have yp:=hid ft;have HEM:=hid (show s.ran=[]/\s.held=[] from ⟨H9,B4⟩);have up:=bn.size;have de:=Af kh.o;obtain⟨z0,z1,z2,zf⟩:=Ea kh.o;clear k hE hT hP ft H9 B4 hW bn
  by_cases gk:Am nm
  rotate_left 1
  · have HNB:=hid (Ck gk)
    go_enter func77,ntmps77;go_wp2_with fail;refine(HVN.o W).mono ?_;rintro e w1 ⟨rfl,rfl⟩;rw[HNB.o];clear eW;go_wp2_with fail;have z8:=Bi kh.o (I 9) ze nS;obtain⟨z0,z1,z2,zf⟩:=Ea z8;refine bR (v:=.agg #[I 9,ze,nS]) qgg rfl (Or.inl ⟨gk,rfl,Gc vk.o qb _ _ _⟩)
  have HNB:=hid (Cu gk);have jo:=hid gk
  have hsl:∃ qa qc,r.qv=.slice qa s.R.length qc:=by
    obtain⟨zs,cv,lv,qr⟩:=HK.o.qs;exact Aw qr.row
  obtain⟨qa,qc,eqv⟩:=hsl;have EQV:=hid eqv;obtain⟨mR,emR⟩:=Ai s.R.length;have hmR:mR<=2000:=by rw[← emR];exact yp.o.2.1
  have EMR:=hid emR;have hhb:=Af HK.o.bd;have hhs:=Af HK.o.sh;obtain⟨x0,x1⟩:=Fr HSP.o;clear gk eqv emR z0 z1 z2 zf;go_enter func77,ntmps77;go_wp2_with fail;refine(HVN.o W).mono ?_;rintro e w1 ⟨rfl,rfl⟩;rw[HNB.o];clear eW HVN HNB;go_wp2_with fail;refine(Yv sa ta ss.length ts.length c1 c2 W).mono ?_;rintro e w2 ⟨rfl,e2⟩;have ag:Bw W w2:=by rw[e2];exact mkW_below _ _ W
  have l5:Hd (w2.heap[W.heap.size+1+1]?=some (.cells #[.slice sa ss.length c1,.slice ta ts.length c2,.map (some (W.heap.size+1)),nS,nS,.nilFunc] 185 (0,0))):=by show _=_;rw[e2];exact mkW_blk _ _ W
  have re:Hd (Iq w2 (W.heap.size+1) 0 (fun _=>none)):=by show Iq _ _ _ _;rw[e2];exact mkW_map _ _ W
  have gi:=hid (Ay vk.o ag);have ol:=hid (Ab ag kh.o);have vj:=hid (Ab gi.o HK.o.bd);obtain⟨h,eh⟩:=Ai (W.heap.size+1+1);obtain⟨mb,emb⟩:=Ai (W.heap.size+1);have R7:w.heap.size+1<h:=qb;have ue:w.heap.size+1<mb:=qb;have hne:mb≠h:=qb;rw[eh,emb] at l5;rw[emb] at re;rw[eh];clear e2 eh emb ag x0 x1 HSP kh vk;have X7:=cK vj.o 10;have yf:=fun j=>fH vj.o j
  go_upto_region 4 with fail
  obtain⟨w3,e3⟩:=Ai (w2.setCell ⟨hb,10,none⟩ (.pointer (p_ h)));have hx3:∀ b,b≠hb->w3.heap[b]?=w2.heap[b]?:=fun b e=>by rw[← e3];exact hC w2 ⟨hb,10,none⟩ _ b e
  have HD3:Hd (w3.heap[hb]?=some (.cells (bdO hs r (.pointer (p_ h)) vm) 146 (0,0))):=by show _=_;rw[← e3,jB vj.o];rfl
  have HZ3:Hd (w3.heap.size=w2.heap.size):=by show _=_;rw[← e3];simp
  have E5:Hd (w3.heap[h]?=_):=(hx3 h qb).trans l5.o;have HP3:=hid (re.o.same (hx3 mb qb));have fk:Hd (Below W0.heap.size w w3):=by show Below _ _ _;rw[← e3];exact(gi.o.mono fy).setCell (p:=⟨hb,10,none⟩) HK.o.lb.1 _
  rw[e3];clear e3 X7 yf;have X7:=cK HD3.o 10;obtain⟨⟨m0,m1,m2,m3,m4,m5⟩,mf⟩:=Rl E5.o
  go_upto_region 5 with fail
  obtain⟨w4,e4⟩:=Ai (w3.setCell ⟨h,5,none⟩ (.func (.func 108) #[.pointer (p_ hb)] #[]));have hx4:∀ b,b≠h->w4.heap[b]?=w3.heap[b]?:=fun b e=>by rw[← e4];exact hC w3 ⟨h,5,none⟩ _ b e
  have HM4:Hd (w4.heap[h]?=some (.cells #[.slice sa ss.length c1,.slice ta ts.length c2,.map (some mb),nS,nS,.func (.func 108) #[.pointer (p_ hb)] #[]] 185 (0,0))):=by show _=_;rw[← e4,jB E5.o];rfl
  have HZ4:Hd (w4.heap.size=w3.heap.size):=by show _=_;rw[← e4];simp
  have HD4:Hd (w4.heap[hb]?=_):=(hx4 hb qb).trans HD3.o;have HP4:=hid (HP3.o.same (hx4 mb qb));have xr:Hd (Below W0.heap.size w w4):=by show Below _ _ _;rw[← e4];exact fk.o.setCell (p:=⟨h,5,none⟩) (show W0.heap.size<=h from qb) _
  have hm4:=HP4.o.lt;rw[e4];clear e4 X7 m0 m1 m2 m3 m4 m5 mf;obtain⟨w5,e5⟩:=Ai (w4.alloc (.map #[] 0));have cu:Bw w4 w5:=qgr;obtain⟨sb,esb⟩:=Ai w4.heap.size;have HSN5:Hd (Jw w5 sb 0 (fun _ _=>none)):=by show Jw _ _ _ _;rw[← e5,← esb];exact Jw.made w4
  have HD5:=hid (Ab cu HD4.o);have HM5:=hid (Ab cu HM4.o);have HP5:=hid (HP4.o.same (cu.block _ HP4.o.lt));have HZ5:Hd (w5.heap.size=w4.heap.size+1):=by show _=_;rw[← e5];simp
  have y11:=cK HD5.o 11;have yf:=fun j=>fH HD5.o j;have wu:=HP5.o.lt;have hhl:=Af HM5.o;have hmm4:(Instr.makeMap 144 none).run prog w4=.ok (.map (some sb)) w5:=by rw[hmm,e5,esb]
  clear hmm
  go_upto_region 6 with fail
  obtain⟨w6,e6⟩:=Ai (w5.setCell ⟨hb,11,none⟩ (.map (some sb)));have hx6:∀ b,b≠hb->w6.heap[b]?=w5.heap[b]?:=fun b e=>by rw[← e6];exact hC w5 ⟨hb,11,none⟩ _ b e
  have HD6:Hd (w6.heap[hb]?=some (.cells (bdO hs r (.pointer (p_ h)) (.map (some sb))) 146 (0,0))):=by show _=_;rw[← e6,jB HD5.o];rfl
  have HZ6:Hd (w6.heap.size=w5.heap.size):=by show _=_;rw[← e6];simp
  have HM6:Hd (w6.heap[h]?=_):=(hx6 h qb).trans HM5.o;have HP6:=hid (HP5.o.same (hx6 mb qb));have HSN6:=hid (HSN5.o.same (hx6 sb qb));have zx:Hd (Below W0.heap.size w w6):=by show Below _ _ _;rw[← e6];exact(xr.o.trans (cu.mono (zo xr.o.size))).setCell (p:=⟨hb,11,none⟩) HK.o.lb.1 _
  rw[e6];clear e6 y11 yf hmm4 e5
  have ir:∀ b,b<w.heap.size->b≠hb->w6.heap[b]?=w.heap[b]?:=fun b h1 h2=>by
    have G6:=gi.o.size;have hz3:=HZ3.o;have hz4:=HZ4.o;rw[hx6 b h2,cu.block b qb,hx4 b qb,hx3 b h2,gi.o.block b h1]
  have hhsb:hs≠hb:=fun e=>by have q:=HK.o.sh;rw[e,HK.o.bd] at q;injection q with q;injection q with _ q;exact absurd q qd
  have HSH6:=hid ((ir hs hhs hhsb).trans HK.o.sh);have y0:=cK HD6.o 0;have v2:w6.cell? ⟨hs,2,none⟩=some (.slice qa mR qc):=by rw[cH HSH6.o,← EMR.o,← EQV.o];rfl
  obtain⟨i0,B3,bp,bh,bv⟩:=info_parts Tryz.info4b
  go_upto_region 7 with (at_make;refine wpList_make_full _ rfl (.tmp 37) (.tmp 37) 110 rfl w6.heap.size 4 i0 (.bool false) 1 underlying110 B3 bp bh .i64 .i64 _ _ mR rfl rfl rfl rfl qam qm (Nat.le_refl _) ?_;intro w7 d7 I5;have co:Bw w6 w7:=((Below.refl _ _).grown I5 (Nat.le_refl _) qg);have HD7:Hd (w7.heap[hb]?=some (.cells (bdO hs r (.pointer (p_ h)) (.map (some sb))) 146 (0,0))):=(Ab co HD6.o);have y12:w7.cell? ⟨hb,12,none⟩=some r.dv:=(by rw[cH HD7.o];rfl);have y12f:∀ j,w7.frozen? ⟨hb,j,none⟩=false:=(fun j=>fH HD7.o j))
  rw[Ty] at d7;obtain⟨w8,e8⟩:=Ai (w7.setCell ⟨hb,12,none⟩ (.slice (p_ w6.heap.size) mR mR));obtain⟨nd,end_⟩:=Ai (Value.slice (p_ w6.heap.size) mR mR);have hx8:∀ b,b≠hb->w8.heap[b]?=w7.heap[b]?:=fun b e=>by rw[← e8];exact hC w7 ⟨hb,12,none⟩ _ b e
  have hD8:w8.heap[hb]?=some (.cells (Rm ⟨hb,hs,sb,n⟩ h ⟨r.tx,r.su,r.qv,r.nv,r.ev,r.uv,nd,0⟩) 146 (0,0)):=by rw[← e8,jB HD7.o,← end_];rfl
  have hz3:=HZ3.o;have hz4:=HZ4.o;have hz5:=HZ5.o;have hz6:=HZ6.o;have hw6:w.heap.size<=w6.heap.size:=zo gi.o.size;have h67:=co.size;have Y3:w8.heap.size=w7.heap.size:=by rw[← e8];simp
  have lq:∀ b,b<w.heap.size->b≠hb->w8.heap[b]?=w.heap[b]?:=fun b h1 h2=>by rw[hx8 b h2,co.block b qb,ir b h1 h2]
  have hM8:=(hx8 h qb).trans ((co.block h (Af HM6.o)).trans HM6.o);have hP8:=(HP6.o.same (co.block mb HP6.o.lt)).same (hx8 mb qb);have ko:=(HSN6.o.same (co.block sb HSN6.o.lt)).same (hx8 sb qb)
  have hN8:w8.ownsRow w.heap.size 4 1 nd s.R.length ((List.replicate s.R.length false).map .bool):=by
    rw[EMR.o,← end_];have:=Ah d7 hw6;exact Aj this fun b q=>hx8 b (fun e=>by obtain⟨cs,c1⟩:=Ba this b q;have o:=HD7.o;rw[← e,c1] at o;injection o with o;injection o with _ o;exact absurd o qd)
  have hR8:w8.heap[w.heap.size+1]?=some (.cells #[I 0,ze,nS] 105 (0,0)):=by
    rw[hx8 _ qb,co.block _ qb,hx6 _ qb,cu.block _ qb,hx4 _ qb,hx3 _ qb];exact ol.o
  have md:Kz W0.heap.size h mb ⟨hb,hs,sb,n⟩ (.slice sa ss.length c1) (.slice ta ts.length c2) ss ts w8 [] [] nS nS (fun _=>nS) s ⟨r.tx,r.su,r.qv,r.nv,r.ev,r.uv,nd,0⟩:=RstO.fresh HK.o lq fy hD8 qb qb qb qb hM8 hP8 ko hN8;have Y5:Fd ss ts n [] s [] 0 0:=⟨Fv.nil ss ts,yp.o,Nat.zero_le _,by unfold Ki;rw[HEM.o.1,HEM.o.2];exact Nat.zero_le _,Nat.zero_le _⟩
  have hb08:Below W0.heap.size w w8:=by
    rw[← e8];exact(zx.o.trans (co.mono qb)).setCell (p:=⟨hb,12,none⟩) HK.o.lb.1 _
  rw[e8];clear e8 hx8 hx6 hx4 hx3 cu ir HD7 HD6 HM6 HP6 HSN6 HD5 HM5 HP5 HSN5 HD4 HM4 HP4 HD3 E5 HP3 vj l5 re HSH6 d7 I5 y12 y12f y0 v2 co hN8 hM8 hP8 ko ol gi;have gq:=hid md;have HR8:=hid hR8;have vg:=hid lq;have HB8:=hid hb08;have HF:=hid (firstB_any W0 h mb ⟨hb,hs,sb,n⟩ sa ta c1 c2 ss ts nm _ _ _ s _ w8 HEN.o.1 HEN.o.2.1 HEN.o.2.2 jo.o md Y5 (HW.o.trans hb08));have X7:=cK hD8 10;clear md Y5 hR8 lq hb08 hD8;go_wp2_with fail;refine HF.o.mono ?_;have HKEEP:Hd (∀(V:World) (r':Rv),KQ W0.heap.size h mb ⟨hb,hs,sb,n⟩ nS nS ⟨r.tx,r.su,r.qv,r.nv,r.ev,r.uv,nd,0⟩ r' w8 V->∀(b:Nat) (cs:Array Value) (T:TypeId),TyO T->w.heap[b]?=some (.cells cs T (0,0))->V.heap[b]?=some (.cells cs T (0,0))):=fun V r' K b cs T hT q=>K.blk gq.o ((vg.o b (Af q) (fun e=>by have o:=HK.o.bd;rw[← e,q] at o;injection o with o;injection o with _ o;exact hT.2.1 o)).trans q) hT;rintro e w9 ⟨ms',s',an,bi,⟨⟨dc,dt,dls⟩,lv,av',kv',vs',r',rfl,rfl,⟨la,ln,lc,rfl⟩,hs9,No⟩|⟨b,c,t,ca,cn,cc,r',rfl,rfl,I2,No⟩⟩
  · have J1:Hd (w9.heap[w.heap.size+1]?=_):=No.blk gq.o HR8.o qd
    have HX:=hid (show Bc ss ts n [] s [] (.make nm) ms' s' (.ok ⟨dc,dt,dls⟩)/\Below W0.heap.size w w9 from ⟨bi,HB8.o.trans No.bel⟩);have HKE:=hid (HKEEP.o _ _ No);have D8:=hid hs9;obtain⟨z0,z1,z2,zf⟩:=Ea J1.o;unfold Ey;dsimp only;clear No bi hs9 X7;go_wp2_with fail;have z8:=Bi J1.o (I dc) (.string dt) nS;clear z0 z1 z2 zf;obtain⟨z0,z1,z2,zf⟩:=Ea z8;refine bR (v:=.agg #[I dc,.string dt,nS]) qgg rfl (Or.inr ⟨jo.o,Gc HX.o.2 qb _ _ _,fun b cs T hT q=>by rw[Ew (zo (Af q))];exact HKE.o b cs T hT q,h,mb,sb,ms',s',_,HX.o.1,Or.inl ⟨⟨dc,dt,dls⟩,av',kv',vs',r',rfl,rfl,D8.o.set3 J1.o qd _ _ _⟩⟩)
  · have J1:Hd (w9.heap[w.heap.size+1]?=_):=No.blk gq.o HR8.o qd
    have HX:=hid (show Bc ss ts n [] s [] (.make nm) ms' s' (.bad b)/\Below W0.heap.size w w9/\Db W0.heap.size ⟨hb,hs,sb,n⟩ w9 b (.agg #[I c,.string t,.slice ca cn cc]) from ⟨bi,HB8.o.trans No.bel,I2⟩);have HKE:=hid (HKEEP.o _ _ No);obtain⟨z0,z1,z2,zf⟩:=Ea J1.o;clear No bi I2 X7;go_wp2_with fail;have z8:=Bi J1.o (I c) (.string t) (.slice ca cn cc);clear z0 z1 z2 zf;obtain⟨z0,z1,z2,zf⟩:=Ea z8;refine bR (v:=.agg #[I c,.string t,.slice ca cn cc]) qgg rfl (Or.inr ⟨jo.o,Gc HX.o.2.1 qb _ _ _,fun b cs T hT q=>by rw[Ew (zo (Af q))];exact HKE.o b cs T hT q,h,mb,sb,ms',s',_,HX.o.1,Or.inr ⟨b,c,t,ca,cn,cc,rfl,rfl,HX.o.2.2.kept (Ew (show hb≠w.heap.size+1 from qb) _ _ _) (fun b' cur q=>Ew (fun e=>by subst e;have q2:=J1.o;rw[q] at q2;injection q2 with q2;injection q2 with _ q2;exact absurd q2 qd) _ _ _)⟩⟩)
def Ur (w:World) (a:Option Addr) (is:List T3):Prop:=
  ∀ i,i<is.length→∃ b off,a=some ⟨b,off,none⟩∧∃ cb cf cc lb lf lc,w.cell? ⟨b,off+i*3,none⟩=some (.slice (some ⟨cb,cf,none⟩) (qx is i).code.length cc)∧w.cell? ⟨b,off+i*3+1,none⟩=some (.slice (some ⟨lb,lf,none⟩) (qx is i).looks.length lc)∧w.cell? ⟨b,off+i*3+2,none⟩=some (.string (qx is i).out)∧Cj w (some ⟨cb,cf,none⟩) (qx is i).code∧Hr w (some ⟨lb,lf,none⟩) (qx is i).looks
theorem Ur.row (h:Ur w a is):Lx w a is:=fun i hi=>by
  obtain⟨b,off,ha,cb,cf,cc,lb,lf,lc,h1,h2,h3,h4,h5⟩:=h i hi;exact⟨b,off,ha,_,cc,_,lc,h1,h2,h3,h4,h5⟩
theorem Ur.bl (h:Ur w a is) (hb:Bw w w'):Ur w' a is:=fun i hi=>by
  obtain⟨b,off,ha,cb,cf,cc,lb,lf,lc,h1,h2,h3,h4,h5⟩:=h i hi;exact⟨b,off,ha,cb,cf,cc,lb,lf,lc,Aa hb h1,Aa hb h2,Aa hb h3,h4.bl hb,h5.bl hb⟩
theorem cloneS_any (b off cap:Nat) (is:List I3) (w:World) (hc:Cj w (some ⟨b,off,none⟩) is) (hl:is.length ≤ 1048576) :
    Calls prog 143 #[.slice (some ⟨b,off,none⟩) is.length cap] w fun e w'=>Bw w w'∧∃ g cp,e=.returned (.slice (p_ g) is.length cp)∧w'.ownsRow w.heap.size 128 3 (.slice (p_ g) is.length cp) is.length (El is):=by
  obtain⟨i0,hi,bp,bh,bv⟩:=info_parts Tryz.info165b;have dm:(w.alloc (.cells #[] 128)).ownsRow w.heap.size 128 3 (.slice (p_ w.heap.size) 0 0) 0 []:=World.ownsRow_lit (base:=w.heap.size) (e:=128) (size:=3) w #[] 0 (Nat.le_refl _) qm qg;have hn:=Nh (hc.bl ((Below.refl w.heap.size w).alloc (Nat.le_refl _) (.cells #[] 128)));have HL:=hid (Ic is);have HO:=hid (Pq is);generalize El is=xs at *;clear hc;have hq:∀ W:World,(binOp .eql 92 (.slice (some ⟨b,off,none⟩) is.length cap) nS).run prog W=.ok (.bool false) W:=fun W=>Lib.run_eql_slice_nil W 92 128 _ _ _ 0 0 underlying92;go_enter func143,ntmps143
  go_wp2_with (at_builtin;refine wpList_append_own _ rfl (.tmp 5) (.tmp 6) 92 rfl w.heap.size 128 i0 (.agg #[I 0,ze,I 0]) 3 32 underlying92 hi bp bh bv rfl qd _ 0 [] rfl dm ⟨b,off,none⟩ is.length cap xs rfl HL.o hn HO.o qm qb qg ?_;intro v' w2 ba ae dp)
  exact qer
theorem Qq (b off cap:Nat) (is:List I3) (w:World) (hc:Cj w (some ⟨b,off,none⟩) is) (hl:is.length ≤ 1048576) :
    Calls prog 125 #[.agg #[.slice (some ⟨b,off,none⟩) is.length cap]] w fun e w'=>Bw w w'∧∃ g cp,e=.returned (.agg #[.slice (p_ g) is.length cp])∧w'.ownsRow w.heap.size 128 3 (.slice (p_ g) is.length cp) is.length (El is):=by
  have ak:Bw w ((w.alloc (.cells #[.slice (some ⟨b,off,none⟩) is.length cap] 94)).alloc (.cells #[nS] 94)):=(aN _ _).alloc qg _;go_enter func125,ntmps125;go_wp2_with fail;refine(cloneS_any b off cap is _ (hc.bl ak) hl).mono ?_;exact qhn
theorem cloneG_any (b off cap:Nat) (is:List G3) (w:World) (hc:Hr w (some ⟨b,off,none⟩) is) (hl:is.length ≤ 1048576) :
    Calls prog 126 #[.slice (some ⟨b,off,none⟩) is.length cap] w fun e w'=>Bw w w'∧∃ g cp,e=.returned (.slice (p_ g) is.length cp)∧w'.ownsRow w.heap.size 125 3 (.slice (p_ g) is.length cp) is.length (Kh is):=by
  obtain⟨i0,hi,bp,bh,bv⟩:=info_parts Tryz.info88b;have dm:(w.alloc (.cells #[] 125)).ownsRow w.heap.size 125 3 (.slice (p_ w.heap.size) 0 0) 0 []:=World.ownsRow_lit (base:=w.heap.size) (e:=125) (size:=3) w #[] 0 (Nat.le_refl _) qm qg;have hn:=Xd (hc.bl ((Below.refl w.heap.size w).alloc (Nat.le_refl _) (.cells #[] 125)));have HL:=hid (Mq is);have HO:=hid (Qbr is);generalize Kh is=xs at *;clear hc;have hq:∀ W:World,(binOp .eql 95 (.slice (some ⟨b,off,none⟩) is.length cap) nS).run prog W=.ok (.bool false) W:=fun W=>Lib.run_eql_slice_nil W 95 125 _ _ _ 0 0 underlying95;go_enter func126,ntmps126
  go_wp2_with (at_builtin;refine wpList_append_own _ rfl (.tmp 5) (.tmp 6) 95 rfl w.heap.size 125 i0 (.agg #[ze,.bool false,ze]) 3 40 underlying95 hi bp bh bv rfl qd _ 0 [] rfl dm ⟨b,off,none⟩ is.length cap xs rfl HL.o hn HO.o qm qb qg ?_;intro v' w2 ba ae dp)
  exact qer
theorem Sw (b off cap lb lf lc:Nat) (is:List I3) (gs:List G3) (out:By) (w:World) (rc:Cj w (some ⟨b,off,none⟩) is) (rg:Hr w (some ⟨lb,lf,none⟩) gs) (hl:is.length ≤ 1048576) (hg:gs.length ≤ 1048576) :
    Calls prog 105 #[.agg #[.slice (some ⟨b,off,none⟩) is.length cap,.slice (some ⟨lb,lf,none⟩) gs.length lc,.string out]] w fun e w'=>Bw w w'∧Qv w.heap.size w' e is gs out:=by
  obtain⟨W,eW⟩:=Ai ((w.alloc (.cells #[.slice (some ⟨b,off,none⟩) is.length cap,.slice (some ⟨lb,lf,none⟩) gs.length lc,.string out] 97)).alloc (.cells #[nS,nS,ze] 97));have ak:Bw w W:=by rw[← eW];exact(aN _ _).alloc qg _
  have jm:W.heap[w.heap.size]?=some (.cells #[.slice (some ⟨b,off,none⟩) is.length cap,.slice (some ⟨lb,lf,none⟩) gs.length lc,.string out] 97 (0,0)):=qbv;have ce:W.heap[w.heap.size+1]?=some (.cells #[nS,nS,ze] 97 (0,0)):=qbw;have up:w.heap.size+1+1 ≤ W.heap.size:=qcd;obtain⟨c0,c1,c2⟩:=Bb jm;have d6:=hid ce;have HA:Hd (∀ W':World,Bw W W'→Calls prog 125 #[.agg #[.slice (some ⟨b,off,none⟩) is.length cap]] W' fun e w'=>Bw W' w'∧∃ g cp,e=.returned (.agg #[.slice (p_ g) is.length cp])∧w'.ownsRow W'.heap.size 128 3 (.slice (p_ g) is.length cp) is.length (El is)):=fun W' hW=>Qq b off cap is W' (rc.bl (bt ak hW)) hl;have HG:Hd (∀ W':World,Bw W W'→Calls prog 126 #[.slice (some ⟨lb,lf,none⟩) gs.length lc] W' fun e w'=>Bw W' w'∧∃ g cp,e=.returned (.slice (p_ g) gs.length cp)∧w'.ownsRow W'.heap.size 125 3 (.slice (p_ g) gs.length cp) gs.length (Kh gs)):=fun W' hW=>cloneG_any lb lf lc gs W' (rg.bl (bt ak hW)) hg;have ii:Bw W W.drew:=(Below.refl _ _).drew;clear rc rg jm ce;go_enter func105,ntmps105;go_wp2_with fail;clear eW
  go_region_held3 (fun w'=>w'.cell? ⟨w.heap.size,0,none⟩=some (.slice (some ⟨b,off,none⟩) is.length cap)∧w'.cell? ⟨w.heap.size,1,none⟩=some (.slice (some ⟨lb,lf,none⟩) gs.length lc)∧w'.cell? ⟨w.heap.size,2,none⟩=some (.string out))
    (first|exact⟨c0,c1,c2⟩|(with_reducible exact⟨t0,t1,t2⟩)|(with_reducible exact⟨s0,s1,s2⟩)|(refine⟨?_,?_,?_⟩<;>(rw[World.cell?_setCell_far _ _ _ _ qg,World.cell?_setCell_far _ _ _ _ qg,World.cell?_setCell_far _ _ _ _ qg];assumption)))
    (first|(go_at_call 125;refine(HA.o _ ii).mono ?_;rintro e w2 ⟨ag,g1,p1,rfl,ku⟩;have be:=bt ii ag;have s0:=Aa be c0;have s1:=Aa be c1;have s2:=Aa be c2;have kd:Hd (w2.ownsRow W.heap.size 128 3 (.slice (p_ g1) is.length p1) is.length (El is)):=ku)|(go_at_call 126;refine(HG.o _ be).mono ?_;rintro e w3 ⟨aw,g2,p2,rfl,nj⟩;have gy:=bt be aw;have t0:=Aa gy c0;have t1:=Aa gy c1;have t2:=Aa gy c2;have yq:Hd (w3.ownsRow W.heap.size 128 3 (.slice (p_ g1) is.length p1) is.length (El is)):=Ac kd.o aw;have wb:Hd (w3.ownsRow W.heap.size 125 3 (.slice (p_ g2) gs.length p2) gs.length (Kh gs)):=Ah nj be.size;have M1:=Ae d6.o gy;obtain⟨r0,r1,r2⟩:=Bb M1;have rf:=(fun j=>fH M1 j)))
  have hg1:=(yq.o.lt g1 rfl).1;have I1:=(wb.o.lt g2 rfl).1;have hB:=bt ak gy;go_wp2_with fail;refine bR (v:=.agg #[.slice (p_ g1) is.length p1,.slice (p_ g2) gs.length p2,.string out]) (by simp[results,results105,go_sem,r0,r1,r2]) rfl ⟨?_,g1,p1,g2,p2,rfl,?_,?_⟩
  · exact qev
  · exact Da (Da (Da (Ah yq.o qb) qb _) qb _) qb _
  · exact Da (Da (Da (Ah wb.o qb) qb _) qb _) qb _
theorem Jp (wd:Int) (b off tc:Nat) (ra:Option Addr) (rc:Nat) (ts:List By) (rs:List T3) (w:World) (st:Cv w (some ⟨b,off,none⟩) ts) (rp:Ur w ra rs) (ht:ts.length ≤ 1048576) (hr:rs.length ≤ 1048576) (hk:∀ i,i<rs.length→(qx rs i).code.length ≤ 1048576∧(qx rs i).looks.length ≤ 1048576) :
    Calls prog 76 #[.agg #[I wd,.slice (some ⟨b,off,none⟩) ts.length tc,.slice ra rs.length rc]] w fun e w'=>Bw w w'∧∃ g1 p1 v2,e=.returned (.agg #[I wd,.slice (p_ g1) ts.length p1,v2])∧Dq w' w.heap.size w'.heap.size (.slice (p_ g1) ts.length p1) ts∧Ii w' w.heap.size w'.heap.size v2 rs:=by
  obtain⟨W,eW⟩:=Ai ((w.alloc (.cells #[I wd,.slice (some ⟨b,off,none⟩) ts.length tc,.slice ra rs.length rc] 34)).alloc (.cells #[I 0,nS,nS] 34));have ak:Bw w W:=by rw[← eW];exact(aN _ _).alloc qg _
  have jm:W.heap[w.heap.size]?=some (.cells #[I wd,.slice (some ⟨b,off,none⟩) ts.length tc,.slice ra rs.length rc] 34 (0,0)):=qbv;have ce:W.heap[w.heap.size+1]?=some (.cells #[I 0,nS,nS] 34 (0,0)):=qbw;have up:w.heap.size+1+1 ≤ W.heap.size:=qcd;obtain⟨c0,c1,c2⟩:=Bb jm;have ri:=hid jm;have d6:=hid ce;have HRP:=hid rp;have HKK:=hid hk;have ii:Bw W W.drew:=(Below.refl _ _).drew;have HX:Hd (∀ W':World,Bw W W'→Calls prog 104 #[.slice (some ⟨b,off,none⟩) ts.length tc] W' fun e w'=>Bw W' w'∧∃ g cp,e=.returned (.slice (p_ g) ts.length cp)∧w'.ownsRow W'.heap.size 9 1 (.slice (p_ g) ts.length cp) ts.length (ts.map Value.string)):=fun W' hW=>cloneX_any b off tc ts W' (st.bl (bt ak hW)) ht;clear st rp hk jm ce;go_enter func76,ntmps76;go_wp2_with fail;clear eW
  go_cut [3] (fun p wx=>∃(P g1 p1:Nat),p=.pointer (p_ P)∧Hd (wx.heap[P]?=some (.cells #[I wd,.slice (p_ g1) ts.length p1,nS] 34 (0,0)))∧Hd (wx.ownsRow W.heap.size 9 1 (.slice (p_ g1) ts.length p1) ts.length (ts.map Value.string))∧W.heap.size ≤ P∧Bw W wx)
  case first=>
    go_region_held3 (fun w'=>w'.cell? ⟨w.heap.size,0,none⟩=some (I wd)∧w'.cell? ⟨w.heap.size,1,none⟩=some (.slice (some ⟨b,off,none⟩) ts.length tc))
      (first|(with_reducible exact⟨s0,s1⟩)|(with_reducible exact⟨Dm s0,Dm s1⟩)|(refine⟨?_,?_⟩<;>(rw[World.cell?_setCell_far _ _ _ _ qh,World.cell?_setCell_far _ _ _ _ qh,World.cell?_setCell_far _ _ _ _ qh];assumption))|exact⟨c0,c1⟩|exact⟨Dm c0,Dm c1⟩)
      (first|(go_at_call 104;(first|(refine(HX.o _ ii).mono ?_;rintro e w2 ⟨ag,g1,p1,rfl,ku⟩;have be:=bt ii ag;have kd:Hd (w2.ownsRow W.heap.size 9 1 (.slice (p_ g1) ts.length p1) ts.length (ts.map Value.string)):=ku)|(refine(HX.o _ (ii.alloc qg _)).mono ?_;rintro e w2 ⟨ag,g1,p1,rfl,ku⟩;have be:=bt (ii.alloc qg _) ag;have z2:w2.heap[W.heap.size]?=_:=Ae (Cm W.drew _) ag;obtain⟨k0,k1,k2⟩:=Bb z2;have kf:=(fun j=>fH z2 j);have kd:Hd (w2.ownsRow W.heap.size 9 1 (.slice (p_ g1) ts.length p1) ts.length (ts.map Value.string)):=Ah ku qg));have s0:=Aa be c0;have s1:=Aa be c1))
    all_goals
      go_wp2_with fail;go_meet
      first
        | exact⟨W.heap.size,g1,p1,rfl,Qr z2 _ _ _,Al (Al (Al kd.o ⟨_,z2⟩ qd _) (Dk.set ⟨_,z2⟩ _) qd _) (Dk.set (Dk.set ⟨_,z2⟩ _) _) qd _,Nat.le_refl _,((be.setCell (p:=⟨W.heap.size,0,none⟩) (Nat.le_refl _) _).setCell (p:=⟨W.heap.size,1,none⟩) (Nat.le_refl _) _).setCell (p:=⟨W.heap.size,2,none⟩) (Nat.le_refl _) _⟩
        | exact⟨w2.heap.size,g1,p1,rfl,Cm _ _,kd.o.alloc _,be.size,be.alloc be.size _⟩
  case rest=>
    obtain⟨P,g1,p1,rfl,HP,kd,uq,F1⟩:=hcut;have S7:=bt ak F1;have d2:=Aa F1 c2;have HC0:=hid (CS.zero rs HP.o kd.o);have HBX:=hid F1;clear HP kd c0 c1 c2 ii F1 HX;go_wp2
    go_loopw [15] (fun i wr=>∃(k:Nat) (v2:Value),k ≤ rs.length∧i=I k∧Hd (CS wr P W.heap.size wd (.slice (p_ g1) ts.length p1) v2 ts rs k)∧Bw W wr) (fun i _=>rs.length-(intOf i).toNat)
    case atStart=>exact⟨0,_,Nat.zero_le _,rfl,HC0.o,HBX.o⟩
    case round=>
      obtain⟨k,v2,hk,rfl,HW,bc⟩:=hrel;have hw:=bt ak bc;clear HC0 d2
      by_cases aj:k<rs.length
      · obtain⟨rb,ro,rfl,cb,cf,cc,lb,lf,lc,F6,zl,c3',r1,r2⟩:=(HRP.o.bl hw) k aj
        obtain⟨gw,gh⟩:=HKK.o k aj;have je:(k:Int)<(rs.length:Int):=qb;obtain⟨X,eX⟩:=Ai (wr.alloc (.cells #[.slice (some ⟨cb,cf,none⟩) (qx rs k).code.length cc,.slice (some ⟨lb,lf,none⟩) (qx rs k).looks.length lc,.string (qx rs k).out] 97));obtain⟨q,eq⟩:=Ai wr.heap.size;have d0:X.cell? ⟨q,0,none⟩=some (.slice (some ⟨cb,cf,none⟩) (qx rs k).code.length cc):=qgu;have d1:X.cell? ⟨q,1,none⟩=some (.slice (some ⟨lb,lf,none⟩) (qx rs k).looks.length lc):=qgu;have d2:X.cell? ⟨q,2,none⟩=some (.string (qx rs k).out):=qgu;have hbX:=aB eX;have HWX:=hid (HW.o.bl hbX);have dP:=HWX.o.cell.2.2;(have hXq:X.heap.size=q+1:=by rw[← eX,← eq];simp);have hXq1:q+1 ≤ X.heap.size:=qb;have hXW:=Nat.le_trans bc.size hbX.size;(have hPq:P<q:=by rw[← eq];exact Fa HW.o.blk);obtain⟨ys0,cv0,lv0,E6,_⟩:=HW.o.t;(have HVQ:Hd (some q≠v2.ownBlock):=fun e=>by have:=(E6.lt q e.symm).2;omega);have HVP:Hd (some P≠v2.ownBlock):=fun e=>Dk.ne (T:=34) ⟨_,HW.o.blk⟩ E6 qd e.symm;have km:=bt bc hbX;have O6:Hd (∀ W':World,Bw X W'→Calls prog 105 #[.agg #[.slice (some ⟨cb,cf,none⟩) (qx rs k).code.length cc,.slice (some ⟨lb,lf,none⟩) (qx rs k).looks.length lc,.string (qx rs k).out]] W' fun e w'=>Bw W' w'∧Qv W'.heap.size w' e (qx rs k).code (qx rs k).looks (qx rs k).out):=fun W' hW'=>Sw cb cf cc lb lf lc (qx rs k).code (qx rs k).looks (qx rs k).out W' ((r1.bl hbX).bl hW') ((r2.bl hbX).bl hW') gw gh;have HQ:=hid hXq;clear hXq E6 HW bc hbX r1 r2 hw;obtain⟨ys,cv,lv,sq,sr⟩:=HWX.o.t;have zm:=hid sq;have HPT:=hid sr;have T8:Hd (∀(Y Z:World) (nv c d:Value) (zs us:List Value),Bw X Y→Y.ownsRow X.heap.size 128 3 c (qx rs k).code.length zs→Cl (qx rs k).code (qx rs k).code.length zs→Y.ownsRow X.heap.size 125 3 d (qx rs k).looks.length us→Bo (qx rs k).looks (qx rs k).looks.length us→(∃ g cap,d=.slice (p_ g) (qx rs k).looks.length cap)→Y.grownBy Z v2.ownBlock→Z.ownsRow W.heap.size 97 3 nv (k+1) (ys++[c,d,.string (qx rs k).out])→CS (Z.setCell ⟨P,2,none⟩ nv) P W.heap.size wd (.slice (p_ g1) ts.length p1) nv ts rs (k+1)):=fun Y Z nv c d zs us j1 j2 j3 j4 j5 j6 j7 j8=>CS.put HWX.o j1 hXW zm.o HPT.o j2 j3 j4 j5 j6 j7 j8;clear sq sr;generalize qx rs k=s at *;go_wp2_with fail;refine Lt.begin 7 (fun w'=>w'.cell? ⟨P,2,none⟩=some v2∧w'.cell? ⟨q,0,none⟩=some (.slice (some ⟨cb,cf,none⟩) s.code.length cc)∧w'.cell? ⟨q,1,none⟩=some (.slice (some ⟨lb,lf,none⟩) s.looks.length lc)∧w'.cell? ⟨q,2,none⟩=some (.string s.out)) qi ?_;have iw:X.drew.cell? ⟨P,2,none⟩=some v2∧X.drew.cell? ⟨q,0,none⟩=some (.slice (some ⟨cb,cf,none⟩) s.code.length cc)∧X.drew.cell? ⟨q,1,none⟩=some (.slice (some ⟨lb,lf,none⟩) s.looks.length lc)∧X.drew.cell? ⟨q,2,none⟩=some (.string s.out):=⟨dP,d0,d1,d2⟩;change K 0 _
        iterate 3
         refine Lt.ti (v:=?_) iw ?_ ?_;rotate_left 1
         · exact qak
         simp only[gX]
        refine Lt.sp (i:=3) (fun K hK=>?_);go_simp;refine(O6.o _ ((Below.refl _ _).drew)).mono ?_;rintro e w6 ⟨ci,gc,cpc,gd,cpd,rfl,hoc,hod⟩;have co:Bw X w6:=(Below.drew (Below.refl _ _)).trans (ci.mono qg);have HOC:Hd (w6.ownsRow X.heap.size 128 3 (.slice (p_ gc) s.code.length cpc) s.code.length (El s.code)):=Ah hoc qg;have HOD:Hd (w6.ownsRow X.heap.size 125 3 (.slice (p_ gd) s.looks.length cpd) s.looks.length (Kh s.looks)):=Ah hod qg;refine hK.out _ _ (fun _=>⟨Aa co dP,Aa co d0,Aa co d1,Aa co d2⟩) (fun mg=>?_);replace mg:=mg qd;clear hK K iw ci hoc hod;refine Lt.sp (i:=4) (fun K hK=>?_);go_simp;refine hK.out _ _ (fun _=>⟨Dm mg.1,Dm mg.2.1,Dm mg.2.2.1,Dm mg.2.2.2⟩) (fun ko=>?_);replace ko:=ko qd;clear hK K mg;refine Lt.sp (i:=5) (fun K hK=>?_);refine Wn rfl qt W.heap.size v2 _ ys qt ((Ac zm.o co).alloc _) w6.heap.size (.slice (p_ gc) s.code.length cpc) (.slice (p_ gd) s.looks.length cpd) s.out rfl rfl qt (Cm _ _) (by have:=co.size;simp;omega) qb ?_;intro g' ai w7 d7 ae;have hsz6:=co.size;(have x0:w7.cell? ⟨P,2,none⟩=some v2:=by rw[ae.cell_far ⟨P,2,none⟩ qh HVP.o];exact ko.1);(have x1:w7.cell? ⟨q,0,none⟩=some (.slice (some ⟨cb,cf,none⟩) s.code.length cc):=by rw[ae.cell_far ⟨q,0,none⟩ qh HVQ.o];exact ko.2.1);(have x2:w7.cell? ⟨q,1,none⟩=some (.slice (some ⟨lb,lf,none⟩) s.looks.length lc):=by rw[ae.cell_far ⟨q,1,none⟩ qh HVQ.o];exact ko.2.2.1);(have x3:w7.cell? ⟨q,2,none⟩=some (.string s.out):=by rw[ae.cell_far ⟨q,2,none⟩ qh HVQ.o];exact ko.2.2.2);have HNP:Hd (CS (w7.setCell ⟨P,2,none⟩ (.slice (p_ g') (k+1) ai)) P W.heap.size wd (.slice (p_ g1) ts.length p1) (.slice (p_ g') (k+1) ai) ts rs (k+1)):=T8.o _ w7 _ _ _ _ _ (co.alloc qb _) (HOC.o.alloc _) (Ka _) (HOD.o.alloc _) (Rh _) ⟨_,_,rfl⟩ ae d7;have hbP7:Bw W w7:=((km.trans (co.mono qb)).alloc qb _).grown ae qh (fun m hm=>by have:=(zm.o.lt m hm).1;omega);(have fz:w7.frozen? ⟨P,2,none⟩=false:=by rw[ae.frozen_far ⟨P,2,none⟩ qh HVP.o];exact fH (by rw[Lib.alloc_old _ _ _ qb];exact(HWX.o.bl co).blk) 2);refine hK.out _ _ (fun _=>⟨x0,x1,x2,x3⟩) (fun C9=>?_);replace C9:=C9 qd;clear hK K ko ae d7;simp only[gX];refine Lt.ti (i:=6) (v:=?_) C9 ?_ ?_;rotate_left 1
        · exact qak
        simp only[gX];refine Lt.sp (i:=7) (fun K hK=>?_);exact qio
      · have ek:k=rs.length:=qb
        subst ek;have kbr:=Ae d6.o bc;obtain⟨r0,r1,r2⟩:=Bb kbr;have fr:=fZ kbr;obtain⟨d0,d1,d2⟩:=HW.o.cell;obtain⟨o1,o2⟩:=HW.o.own (lo:=W.heap.size) (hi:=wr.heap.size) (Nat.le_refl _) (Nat.le_refl _);have kd:=hid o1;have wb:=hid o2;obtain⟨a2,p2,rfl,_⟩:=o2.sl;clear kbr bc o1 o2 HW;go_wp2;refine bR (v:=.agg #[I wd,.slice (p_ g1) ts.length p1,.slice a2 rs.length p2]) (by simp[results,results76,go_sem,r0,r1,r2]) rfl ⟨((hw.setCell (p:=⟨w.heap.size+1,0,none⟩) qg _).setCell (p:=⟨w.heap.size+1,1,none⟩) qg _).setCell (p:=⟨w.heap.size+1,2,none⟩) qg _,_,_,_,rfl,?_,?_⟩
        · exact qmo
        · exact qmn
theorem Pc (n:Int) (b off tc:Nat) (ra:Option Addr) (rc:Nat) (ts:List By) (rs:List T3) (w:World) (hT:Lr w) (h:Oq w (some ⟨b,off,none⟩) ts ra rs) (rp:Ur w ra rs) (hr:rs.length ≤ 1048576) (kj:∀ i,i<rs.length→(qx rs i).code.length ≤ 1048576∧(qx rs i).looks.length ≤ 1048576) :
    Calls prog 74 #[.agg #[I n,.slice (some ⟨b,off,none⟩) ts.length tc,.slice ra rs.length rc]] w fun e w'=>Bw w w'∧((¬ Kx n ts rs∧e=.returned (.tuple #[.pointer none,.bool false]))∨(Kx n ts rs∧∃ g g1 p1 sv qv,e=.returned (.tuple #[.pointer (p_ g),.bool true])∧w.heap.size ≤ g∧ShO w' g w.heap.size w'.heap.size n.toNat sv (.slice (p_ g1) ts.length p1) qv ts rs)):=by
  have ak:Bw w (w.alloc (.cells #[I n,.slice (some ⟨b,off,none⟩) ts.length tc,.slice ra rs.length rc] 34)):=aN _ _;have k0:(w.alloc (.cells #[I n,.slice (some ⟨b,off,none⟩) ts.length tc,.slice ra rs.length rc] 34)).cell? ⟨w.heap.size,0,none⟩=some (I n):=qk;have k1:(w.alloc (.cells #[I n,.slice (some ⟨b,off,none⟩) ts.length tc,.slice ra rs.length rc] 34)).cell? ⟨w.heap.size,1,none⟩=some (.slice (some ⟨b,off,none⟩) ts.length tc):=qk;have k2:(w.alloc (.cells #[I n,.slice (some ⟨b,off,none⟩) ts.length tc,.slice ra rs.length rc] 34)).cell? ⟨w.heap.size,2,none⟩=some (.slice ra rs.length rc):=qk;have HI:=hid h;have HRP:=hid rp;have xz:=h.lt;have HT:=hid hT;have HKK:=hid kj;clear h hT rp kj;go_enter func74,ntmps74;go_wp2_with fail;refine(Vo n _ ra tc rc ts rs _ (HT.o.bl ak) (HI.o.bl ak)).mono ?_;rintro e w1 ⟨af,⟨hw,v,rfl⟩|⟨hw,g,sg,rfl,dj,_,W3,how⟩⟩
  · have HW:=hid hw
    have bg:=bt ak af;clear hw af ak;go_wp2_with fail;exact bR (results_tmp2 rfl _ _ _) rfl ⟨bg,Or.inl ⟨HW.o,rfl⟩⟩
  · obtain⟨m,rfl⟩:=Int.eq_ofNat_of_zero_le (show 0 ≤ n by have:=hw.1;omega)
    have HW:=hid hw;have bg:=bt ak af;have c0:=Aa af k0;have c1:=Aa af k1;have c2:=Aa af k2;have hge':=Nat.le_trans ak.size W3;have N8:=hid dj
    have J4:Hd (Dq w1 w.heap.size w1.heap.size (.slice (p_ sg) ts.length ts.length) (ts.map (Ap m))):=by
      have h:=Bg.new (Ah how ak.size);unfold Dq;rw[List.length_map];exact h
    have HCY:Hd (∀ _:Unit,Calls prog 76 #[.agg #[I (m:Int),.slice (some ⟨b,off,none⟩) ts.length tc,.slice ra rs.length rc]] w1 fun e w'=>Bw w1 w'∧∃ g1 p1 v2,e=.returned (.agg #[I (m:Int),.slice (p_ g1) ts.length p1,v2])∧Dq w' w1.heap.size w'.heap.size (.slice (p_ g1) ts.length p1) ts∧Ii w' w1.heap.size w'.heap.size v2 rs):=fun _=>Jp m b off tc ra rc ts rs w1 (HI.o.st.bl bg) (HRP.o.bl bg) xz hr HKK.o;have eg:=bg.size;clear hw dj how ak af k0 k1 k2 W3;go_wp2_with fail;refine(HCY.o ()).mono ?_;rintro e w2 ⟨ag,g1,p1,v2,rfl,o1,o2⟩;obtain⟨a2,p2,rfl,_⟩:=o2.sl;have kg:=Ae N8.o ag;have HKG:=hid kg;have ht:Dk w2 g 149:=⟨_,kg⟩;have gp:=ag.size;have be:=bt bg ag;have n6:Hd (Dq w2 w.heap.size w2.heap.size (.slice (p_ sg) ts.length ts.length) (ts.map (Ap m))):=(J4.o.bl ag).wide (Nat.le_refl _) gp;have tj:Hd (Dq w2 w.heap.size w2.heap.size (.slice (p_ g1) ts.length p1) ts):=o1.wide eg (Nat.le_refl _);have HQX:Hd (Ii w2 w.heap.size w2.heap.size (.slice a2 rs.length p2) rs):=o2.wide eg (Nat.le_refl _)
    have U1:Hd (∀ b,(Value.slice (p_ sg) ts.length ts.length).ownBlock=some b→(Value.slice (p_ g1) ts.length p1).ownBlock≠some b):=fun b e e'=>by
      have h1:=J4.o.top b e;have h2:=((Bg.own o1).lt b e').1;omega
    obtain⟨q0,q1,q2,q3,qf⟩:=Lk kg;have O5:=hid ht;clear o1 o2 kg ht ag c0 c1 c2 HCY;go_wp2_with fail;refine bR (results_tmp2 rfl _ _ _) rfl ?_;refine⟨Qci be hge' _ _ _,Or.inr ⟨HW.o,g,g1,p1,.slice (p_ sg) ts.length ts.length,.slice a2 rs.length p2,rfl,hge',?_⟩⟩;have de:(((w2.setCell ⟨g,0,none⟩ (I (m:Int))).setCell ⟨g,1,none⟩ (.slice (p_ g1) ts.length p1)).setCell ⟨g,2,none⟩ (.slice a2 rs.length p2)).heap.size=w2.heap.size:=qg;exact⟨blk4_set3 HKG.o _ _ _,by rw[de];exact((n6.o.setT O5.o qd _).setT (O5.o.set _) qd _).setT ((O5.o.set _).set _) qd _,by rw[de];exact((tj.o.setT O5.o qd _).setT (O5.o.set _) qd _).setT ((O5.o.set _).set _) qd _,by rw[de];exact((HQX.o.setT O5.o qd qd qd _).setT (O5.o.set _) qd qd qd _).setT ((O5.o.set _).set _) qd qd qd _,U1.o⟩
abbrev z10:Array Value:=#[I 0,ze,nS,I 0,nS,nS,nS,nS,ze,ze]
def Zr (B:Nat) (n:Int) (T:List By) (R:List T3) (v:Value) (w':World):Prop:=
  ∃ tx qv,v=.agg #[I 9,ze,nS,I n,tx,qv,nS,nS,ze,ze]/\Fs w' B tx qv T R
theorem allB_no (n:Int) (tb tf tc nb nc:Nat) (qa sa ta:Option Addr) (qc c1 c2:Nat) (T:List By) (R:List T3) (ss:List S2) (ts:List T2) (nm:By) (w:World) (hT:Lr w) (cz:Oq w (some ⟨tb,tf,none⟩) T qa R) (hrz:Ur w qa R) (hr:R.length ≤ 1048576) (kj:∀ i,i<R.length→(qx R i).code.length ≤ 1048576∧(qx R i).looks.length ≤ 1048576) (zc:Ll w sa ss ta ts) (mr:Fb ss ts) (gk:¬ (Kx n T R/\Hn ss ts=0)) :
    Calls prog 54 #[.agg #[I n,.slice (some ⟨tb,tf,none⟩) T.length tc,.slice qa R.length qc],.agg #[.slice sa ss.length c1,.slice ta ts.length c2],.slice (p_ nb) 1 nc] w fun e w'=>Bw w w'/\∃ v u,e=.returned (.tuple #[v,u])/\Zr w.heap.size n T R v w':=by
  obtain⟨W,eW⟩:=Ai (((w.alloc (.cells #[I n,.slice (some ⟨tb,tf,none⟩) T.length tc,.slice qa R.length qc] 34)).alloc (.cells #[.slice sa ss.length c1,.slice ta ts.length c2] 42)).alloc (.cells z10 36));have bn:Bw w W:=qck;have HQ:Hd (W.heap[w.heap.size]?=some (.cells #[I n,.slice (some ⟨tb,tf,none⟩) T.length tc,.slice qa R.length qc] 34 (0,0))):=qcn
  have HP:Hd (W.heap[w.heap.size+1]?=some (.cells #[.slice sa ss.length c1,.slice ta ts.length c2] 42 (0,0))):=by
    exact qci
  have HZ:Hd (W.heap[w.heap.size+1+1]?=some (.cells z10 36 (0,0))):=by
    exact qch
  have up:=Af HZ.o;have vk:=hid bn;have N8:=hid (Pc n tb tf tc qa qc T R W (hT.bl bn) (cz.bl bn) (hrz.bl bn) hr kj);have O6:=hid (fun (V:World) (hV:Bw w V)=>Jp n tb tf tc qa qc T R V (cz.st.bl hV) (hrz.bl hV) cz.lt hr kj);have HCK:=hid (fun (V:World) (hV:Bw w V)=>Oa sa ta c1 c2 ss ts V (hT.bl hV) (zc.bl hV) mr);obtain⟨q0,q1,q2,qf⟩:=Ea HQ.o;clear hT cz hrz hr kj zc mr bn;go_enter func54,ntmps54;go_wp2_with fail;clear eW;refine N8.o.mono ?_;rintro e w1 ⟨af,⟨hw,rfl⟩|⟨hw,g,g1,p1,sv,qv,rfl,hg,dj⟩⟩
  · have lz:=hid (Ab af HQ.o)
    have pg:=hid (Ab af HZ.o);have fw:=hid (bt vk.o af);obtain⟨x0,x1,x2,xf⟩:=Ea lz.o;have eg:=af.size;clear af hw q0 q1 q2 qf HQ HP HZ N8 HCK gk;go_wp2_with fail;clear x0 x1 x2 xf;refine(O6.o w1 fw.o).mono ?_;exact qha
  · have lz:=hid (Ab af HQ.o)
    have jz:=hid (Ab af HP.o);have pg:=hid (Ab af HZ.o);have fw:=hid (bt vk.o af);obtain⟨x0,x1⟩:=Fr jz.o;have eg:=af.size;have hc:Hn ss ts≠0:=fun e=>gk ⟨hw,e⟩;have HC:=hid (HCK.o w1 fw.o);generalize Hn ss ts=ck at *;clear af hw q0 q1 q2 qf HQ HP HZ N8 HCK gk dj hg;go_wp2_with fail;clear x0 x1;refine HC.o.mono ?_;rintro e w1b ⟨hb1b,rfl⟩;replace lz:=hid (Ab hb1b lz.o);replace pg:=hid (Ab hb1b pg.o);replace fw:=hid (bt fw.o hb1b);have hs1b:=hb1b.size;clear hb1b jz HC;obtain⟨x0,x1,x2,xf⟩:=Ea lz.o;(have hcI:(ck == 0)=false:=by simpa using hc);(have hcN:(ck != 0)=true:=by simpa using hc);go_wp2_with fail;clear x0 x1 x2 xf;refine(O6.o w1b fw.o).mono ?_;exact qha
def BuildI (B n:Nat) (ss:List S2) (ts:List T2) (T:List By) (R:List T3) (nm:By) (v:Value) (w':World):Prop:=
  ∃ ms' s' a,Bc ss ts n [] ⟨T,R,[],[]⟩ [] (.make nm) ms' s' a/\
   ((∃ d tx qv nv ev,a=.ok d/\v=.agg #[I d.c,.string d.t,nS,I n,tx,qv,nv,ev,ze,ze]/\w'.ownsRow B 9 1 tx s'.T.length (Ax s'.T)/\Es w' B qv s'.R/\w'.ownsRow B 9 1 nv s'.ran.length (Ax s'.ran)/\w'.ownsRow B 9 1 ev s'.held.length (Ax s'.held)/\It [tx,nv,ev])\/
    (∃ b x y cv tx qv A B',a=.bad b/\Jb B w' b [x,y,cv,I 0,nS,nS,nS,nS,A,B']/\v=.agg #[x,y,cv,I n,tx,qv,nS,nS,A,B']/\Fs w' B tx qv T R/\∀ b,cv.ownBlock=some b->tx.ownBlock≠some b))
def PostB (B n:Nat) (ss:List S2) (ts:List T2) (T:List By) (R:List T3) (nm:By) (v:Value) (w':World):Prop:=(¬ Am nm/\Zr B n T R v w')\/(Am nm/\BuildI B n ss ts T R nm v w')
def FinB (B n:Nat) (ss:List S2) (ts:List T2) (T:List By) (R:List T3) (nm:By) (c:Int) (t:By) (cv:Value) (At Bt:By) (w6:World):Prop:=
  ∀(V:World) (tx qv:Value),(∀(b:Nat) (cur:Array Value),w6.heap[b]?=some (.cells cur 9 (0,0))->V.heap[b]?=w6.heap[b]?)->Fs V w6.heap.size tx qv T R->PostB B n ss ts T R nm (.agg #[I c,.string t,cv,I n,tx,qv,nS,nS,.string At,.string Bt]) V
theorem FinB.no (gk:¬ Am nm) (hB:B<=w6.heap.size):FinB B n ss ts T R nm 9 ⟨#[]⟩ nS ⟨#[]⟩ ⟨#[]⟩ w6:=fun V tx qv _ hs=>Or.inl ⟨gk,tx,qv,rfl,hs.base hB⟩
theorem FinB.fall {ms':Mm} {s':Sb} {c:Int} {t:By} {ca:Option Addr} {cn cc:Nat} (cr:Am nm) (hB:B<=w6.heap.size) (bi:Bc ss ts n [] ⟨T,R,[],[]⟩ [] (.make nm) ms' s' (.bad b)) (hf:Db B C w6 b (.agg #[I c,.string t,.slice ca cn cc])):5<c/\FinB B n ss ts T R nm c t (.slice ca cn cc) (clA b) (clB b) w6:=by
  obtain⟨_,_,h3⟩:=hf
  cases b with
  | circle ch=>
    obtain⟨ca',cn',cc',e,ho⟩:=h3;simp only[Value.agg.injEq,Array.mk.injEq,List.cons.injEq,Value.int.injEq,Value.string.injEq,Value.slice.injEq,true_and,and_true] at e;obtain⟨rfl,rfl,rfl,rfl,rfl⟩:=e;refine⟨qd,fun V tx qv hk hs=>Or.inr ⟨cr,ms',s',_,bi,Or.inr ⟨.circle ch,_,_,_,tx,qv,_,_,rfl,⟨_,Aj ho (fun b' q=>by obtain⟨_,cur,hh⟩:=Dr ho q;exact hk b' cur hh),rfl⟩,rfl,hs.base hB,fun b' e1 e2=>?_⟩⟩⟩;have h1:=(ho.lt b' e1).2;have h2:=(hs.txt.lt b' e2).1;omega
  | deep nm'=>
    simp only[Value.agg.injEq,Array.mk.injEq,List.cons.injEq,Value.int.injEq,Value.string.injEq,Value.slice.injEq,true_and,and_true] at h3;obtain⟨rfl,rfl,rfl,rfl,rfl⟩:=h3;exact⟨qd,fun V tx qv hk hs=>Or.inr ⟨cr,ms',s',_,bi,Or.inr ⟨.deep t,_,_,_,tx,qv,_,_,rfl,rfl,rfl,hs.base hB,fun b' e1 e2=>by simp[Value.ownBlock] at e1⟩⟩⟩
  | clash A B'=>
    simp only[Value.agg.injEq,Array.mk.injEq,List.cons.injEq,Value.int.injEq,Value.string.injEq,Value.slice.injEq,true_and,and_true] at h3;obtain⟨rfl,rfl,rfl,rfl,rfl⟩:=h3;exact⟨qd,fun V tx qv hk hs=>Or.inr ⟨cr,ms',s',_,bi,Or.inr ⟨.clash A B',_,_,_,tx,qv,_,_,rfl,rfl,rfl,hs.base hB,fun b' e1 e2=>by simp[Value.ownBlock] at e1⟩⟩⟩
  | full=>
    simp only[Value.agg.injEq,Array.mk.injEq,List.cons.injEq,Value.int.injEq,Value.string.injEq,Value.slice.injEq,true_and,and_true] at h3;obtain⟨rfl,rfl,rfl,rfl,rfl⟩:=h3;exact⟨qd,fun V tx qv hk hs=>Or.inr ⟨cr,ms',s',_,bi,Or.inr ⟨.full,_,_,_,tx,qv,_,_,rfl,rfl,rfl,hs.base hB,fun b' e1 e2=>by simp[Value.ownBlock] at e1⟩⟩⟩
theorem Es.setU {qv:Value} {cs:Array Value} {l:List (Nat × Nat × Value)} (k:Es w B qv R) (hh:∀ x∈l,x.1=h) (hk:w.heap[h]?=some (.cells cs 36 (0,0))):Es (Go.Proofs.YtfgoholldpeabaaGreatDoor.Cf w l) B qv R:=by
  obtain⟨xs,cv,lv,r⟩:=k;exact⟨xs,cv,lv,Dw r.row hh hk qd,r.fil,fun i hi=>by obtain⟨ys,a,b⟩:=r.code i hi;exact⟨ys,Dw a hh hk qd,b⟩,fun i hi=>by obtain⟨ys,a,b⟩:=r.look i hi;exact⟨ys,Dw a hh hk qd,b⟩,r.apc,r.apl⟩
theorem allB_yes (n:Nat) (tb tf tc nb nc:Nat) (qa sa ta:Option Addr) (qc c1 c2:Nat) (T:List By) (R:List T3) (ss:List S2) (ts:List T2) (nm:By) (w:World) (hT:Lr w) (hP10:Mb w) (cz:Oq w (some ⟨tb,tf,none⟩) T qa R) (hrz:Ur w qa R) (hr:R.length ≤ 1048576) (kj:∀ i,i<R.length→(qx R i).code.length ≤ 1048576∧(qx R i).looks.length ≤ 1048576) (zc:Ll w sa ss ta ts) (mr:Fb ss ts) (hw:Kx n T R) (R9:Hn ss ts=0) (ip:w.heap[nb]?=some (.cells #[.string nm] 9 (0,0))) (cr:nm.size<=9223372036854775807) :
    Calls prog 54 #[.agg #[I n,.slice (some ⟨tb,tf,none⟩) T.length tc,.slice qa R.length qc],.agg #[.slice sa ss.length c1,.slice ta ts.length c2],.slice (p_ nb) 1 nc] w fun e w'=>Bw w w'/\∃ v u,e=.returned (.tuple #[v,u])/\PostB w.heap.size n ss ts T R nm v w':=by
  obtain⟨W,eW⟩:=Ai (((w.alloc (.cells #[I n,.slice (some ⟨tb,tf,none⟩) T.length tc,.slice qa R.length qc] 34)).alloc (.cells #[.slice sa ss.length c1,.slice ta ts.length c2] 42)).alloc (.cells z10 36));have bn:Bw w W:=qck;have HQ:Hd (W.heap[w.heap.size]?=some (.cells #[I n,.slice (some ⟨tb,tf,none⟩) T.length tc,.slice qa R.length qc] 34 (0,0))):=qcn
  have HP:Hd (W.heap[w.heap.size+1]?=some (.cells #[.slice sa ss.length c1,.slice ta ts.length c2] 42 (0,0))):=by
    exact qci
  have HZ:Hd (W.heap[w.heap.size+1+1]?=some (.cells z10 36 (0,0))):=by
    exact qch
  have up:=Af HZ.o;have vk:=hid bn;have N8:=hid (Pc n tb tf tc qa qc T R W (hT.bl bn) (cz.bl bn) (hrz.bl bn) hr kj);have O6:=hid (fun (V:World) (hV:Bw w V)=>Jp n tb tf tc qa qc T R V (cz.st.bl hV) (hrz.bl hV) cz.lt hr kj);have HCK:=hid (fun (V:World) (hV:Bw w V)=>Oa sa ta c1 c2 ss ts V (hT.bl hV) (zc.bl hV) mr);obtain⟨q0,q1,q2,qf⟩:=Ea HQ.o;have HCH:=hid R9;have HEN:=hid (show Ir w sa ta ss ts/\Lr w/\Mb w from ⟨Zn zc R9,hT,hP10⟩);have HNB:=hid (Ab bn ip);have th:=hw.2.2.2.1;have yp:Hd (Kl n ⟨T,R,[],[]⟩):=by have:=hw.2.2;show Js n T R;simpa using this
  have Id:1<=n:=zo hw.1;have hn8:n<=8:=zo hw.2.1;clear hT cz hrz hr kj zc mr bn hP10 R9 ip;go_enter func54,ntmps54;go_wp2_with fail;clear eW;refine N8.o.mono ?_;rintro e w1 ⟨af,⟨gk,_⟩|⟨_,g,g1,p1,sv,qv,rfl,hg,dj⟩⟩
  · exact absurd hw gk
  have lz:=hid (Ab af HQ.o);have jz:=hid (Ab af HP.o);have pg:=hid (Ab af HZ.o);have E3:=hid (Ab af HNB.o);have fw:=hid (bt vk.o af);have xj:=hid (show ShO w1 g W.heap.size w1.heap.size n sv (.slice (p_ g1) T.length p1) qv T R from by simpa using dj);obtain⟨x0,x1⟩:=Fr jz.o;have eg:=af.size;have HC:=hid (HCK.o w1 fw.o);rw[HCH.o] at HC;clear af hw q0 q1 q2 qf HQ HP HZ HNB N8 HCK dj vk;go_wp2_with fail;clear x0 x1;refine HC.o.mono ?_;rintro e w2 ⟨ag,rfl⟩;replace lz:=hid (Ab ag lz.o);replace jz:=hid (Ab ag jz.o);replace pg:=hid (Ab ag pg.o);replace E3:=hid (Ab ag E3.o);replace fw:=hid (bt fw.o ag);have HSO2:=hid (xj.o.bl ag);have gp:=ag.size;clear ag HC xj;obtain⟨x0,x1,x2,xf⟩:=Ea lz.o;obtain⟨i0,B3,bp,bh,bv⟩:=info_parts Tryz.info4b
  go_upto_region 5 with (at_make;refine wpList_make_full _ rfl (.tmp 37) (.tmp 37) 110 rfl w2.heap.size 4 i0 (.bool false) 1 underlying110 B3 bp bh .i64 .i64 _ _ R.length rfl rfl rfl rfl qam qm (Nat.le_refl _) ?_;intro w3 fh pk)
  clear x0 x1 x2 xf;rw[Ty] at fh;have aw:Bw w2 w3:=(Below.refl _ _).grown pk (Nat.le_refl _) qg;obtain⟨uv,euv⟩:=Ai (Value.slice (p_ w2.heap.size) R.length R.length);rw[euv] at fh ⊢;obtain⟨hb,ehb⟩:=Ai w3.heap.size;obtain⟨w4,e4⟩:=Ai (w3.alloc (.cells #[.pointer (p_ g),nS,nS,uv,I 0,I 0,nS,nS,ze,ze,.pointer none,.map none,nS] 146));have cj:=aB e4;have HD4:=hid (nW e4 ehb);rw[e4,ehb];have D0:=Ay aw cj;have kw:w2.heap.size<=hb:=by rw[← ehb];exact aw.size
  clear e4 ehb euv pk;have HU4:=hid (Ac fh cj);have hs24:=D0.size;replace lz:=hid (Ab D0 lz.o);replace jz:=hid (Ab D0 jz.o);replace pg:=hid (Ab D0 pg.o);replace E3:=hid (Ab D0 E3.o);have xr:=hid (bt fw.o D0);have HSO4:=hid (HSO2.o.bl D0);have hB1s:=fw.o.size;clear aw cj fh D0 HSO2 fw
  go_upto_region 6 with fail
  obtain⟨P,eP⟩:=Ai w4.heap.size;obtain⟨w5,e5⟩:=Ai (w4.alloc (.cells #[I 0,ze,nS] 105));have cu:Bw w4 w5:=qgr;have HL5:=hid (nW e5 eP);rw[e5,eP];have hPw:w2.heap.size<=P:=by rw[← eP];exact hs24
  have hhP:hb<P:=by rw[← eP];exact Af HD4.o
  replace lz:=hid (Ab cu lz.o);replace jz:=hid (Ab cu jz.o);replace pg:=hid (Ab cu pg.o);replace E3:=hid (Ab cu E3.o);have lh:=hid (bt xr.o cu);have HSO5:=hid (HSO4.o.bl cu);have HD5:=hid (Ab cu HD4.o);have HU5:=hid (Ac HU4.o cu);clear e5 eP cu HSO4 xr HD4 HU4
  have Eq:Hd (RstO w.heap.size hb g n w5 ⟨T,R,[],[]⟩ ⟨.slice (p_ g1) T.length p1,sv,qv,nS,nS,uv,nS,0⟩ (.pointer none) (.map none)):=by
    have hx:=HSO5.o;have hsx:=hx.sx.own;rw[List.length_map] at hsx;refine⟨⟨qb,qb⟩,⟨Id,hn8⟩,HD5.o,hx.blk,Ah hx.tx.own qb,Ah hsx qb,hx.qs.recO.base qb,World.ownsRow_nil _ _ _ _,World.ownsRow_nil _ _ _ _,⟨_,Ah HU5.o qb⟩,?_⟩;unfold It;refine List.Pairwise.cons (fun u hu b e=>?_) (List.Pairwise.cons (fun u hu b e=>?_) (List.Pairwise.cons (fun u hu b e=>qbg) (List.Pairwise.cons (fun u hu b e=>qbg) List.Pairwise.nil)))
    · simp only[List.mem_cons,List.not_mem_nil,or_false] at hu
      rcases hu with rfl|rfl|rfl
      · exact fun e2=>hx.ne b e2 e
      · simp[Value.ownBlock]
      · simp[Value.ownBlock]
    · simp only[List.mem_cons,List.not_mem_nil,or_false] at hu
      rcases hu with rfl|rfl<;>simp[Value.ownBlock]
  have tr:=hid (buildB_any w hb g n sa ta c1 c2 ss ts nm _ _ _ _ w5 HEN.o.1 HEN.o.2.1 HEN.o.2.2 cr Eq.o yp.o rfl rfl lh.o);clear HSO5 HD5 HU5;go_wp2
  go_loopw [42] (fun i wr=>(i=I 0/\Hd (wr=w5))\/(i=I 1/\Hd (∃(h mb sb:Nat) (ms':Mm) (s':Sb) (d:Md) (av' kv':Value) (vs':By->Value) (r':Rv),Am nm/\Bc ss ts n [] ⟨T,R,[],[]⟩ [] (.make nm) ms' s' (.ok d)/\Kz w.heap.size h mb ⟨hb,g,sb,n⟩ (.slice sa ss.length c1) (.slice ta ts.length c2) ss ts wr ms' [] av' kv' vs' s' r'/\wr.heap[P]?=some (.cells #[I d.c,.string d.t,nS] 105 (0,0))/\wr.heap[w.heap.size+1+1]?=some (.cells z10 36 (0,0))/\Bw w wr))) (fun i _=>1-(intOf i).toNat)
  case atStart=>exact Or.inl ⟨rfl,rfl⟩
  case round=>
    rcases hrel with ⟨rfl,HE5⟩|⟨rfl,HD⟩
    · have hE5:=HE5.o
      subst hE5;clear HE5;obtain⟨x0,x1⟩:=Fr jz.o;have n0:=Ho E3.o;go_wp2_with fail;clear x0 x1 n0 jz E3;refine tr.o.mono ?_;have uq:=Af HL5.o;have hQl:=Af lz.o;have hZl:=Af pg.o;have hhl:=Af Eq.o.bd;rintro e w6 (⟨gk,rfl,ci⟩|⟨A2,ci,ir,h,mb,sb,ms',s',an,bi,⟨⟨dc,dt,dls⟩,av',kv',vs',r',rfl,rfl,zg⟩|⟨b,c,t,ca,cn,cc,rfl,rfl,I2⟩⟩)
      · have J7:=hid (Ab ci HL5.o)
        have HQ6:=hid (Ab ci lz.o);have HZ6:=hid (Ab ci pg.o);have zx:=hid (bt lh.o ci)
        have HC6:Hd (w6.cell? ⟨hb,8,none⟩=some ze/\w6.cell? ⟨hb,9,none⟩=some ze):=by
          have hd:=Ab ci Eq.o.bd;exact⟨by rw[cH hd];rfl,by rw[cH hd];rfl⟩
        have zg:=ci.size;have HFI:=hid (FinB.no (n:=n) (ss:=ss) (ts:=ts) (T:=T) (R:=R) (B:=w.heap.size) gk (show w.heap.size<=w6.heap.size from qb));clear ci Eq tr HL5 lz pg lh;obtain⟨z0,z1,z2,zf⟩:=Ea J7.o
        go_upto_region 11 with fail
        clear z0 z1 z2 zf;obtain⟨w7,e7⟩:=Ai (((w6.setCell ⟨P,0,none⟩ (I 9)).setCell ⟨P,1,none⟩ ze).setCell ⟨P,2,none⟩ nS);(have Q0:∀ b,b≠P->w7.heap[b]?=w6.heap[b]?:=fun b q=>by rw[← e7];exact Ew q _ _ _);(have HL7:Hd (w7.heap[P]?=some (.cells #[I 9,ze,nS] 105 (0,0))):=by show _=_;rw[← e7];exact Bi J7.o _ _ _);(have F5:Bw w w7:=by rw[← e7];exact Gc zx.o qb _ _ _);(have hs67:w7.heap.size=w6.heap.size:=by rw[← e7];simp);rw[e7];clear e7;obtain⟨U,eU⟩:=Ai w7.drew;have bm:Bw w7 U:=qbt;have HZU:Hd (U.heap[(w.heap.size+1+1)]?=some (.cells z10 36 (0,0))):=Ab bm ((Q0 _ qb).trans HZ6.o);have gv:Hd (U.heap[P]?=some (.cells #[I 9,ze,nS] 105 (0,0))/\U.heap[w.heap.size]?=some (.cells #[I n,.slice (some ⟨tb,tf,none⟩) T.length tc,.slice qa R.length qc] 34 (0,0))/\U.cell? ⟨hb,8,none⟩=some ze/\U.cell? ⟨hb,9,none⟩=some ze):=⟨Ab bm HL7.o,Ab bm ((Q0 _ qb).trans HQ6.o),Aa bm ((De (Q0 hb qb)).trans HC6.o.1),Aa bm ((De (Q0 hb qb)).trans HC6.o.2)⟩;have J9:=hid (bt F5 bm);(have jw:Hd (∀(b:Nat) (cur:Array Value),w6.heap[b]?=some (.cells cur 9 (0,0))->U.heap[b]?=w6.heap[b]?):=fun b cur q=>by rw[bm.block b (zo (Af q)),Q0 b (fun q2=>by rw[q2,J7.o] at q;injection q with q;injection q with _ q;exact absurd q qd)]);have hU6:w6.heap.size<=U.heap.size:=zo bm.size;clear hs67 bm Q0 HL7 F5 J7 HQ6 HZ6 HC6;refine Lt.begin 99 (fun w'=>w'.heap[P]?=some (.cells #[I 9,ze,nS] 105 (0,0))/\w'.heap[w.heap.size]?=some (.cells #[I n,.slice (some ⟨tb,tf,none⟩) T.length tc,.slice qa R.length qc] 34 (0,0))/\w'.cell? ⟨hb,8,none⟩=some ze/\w'.cell? ⟨hb,9,none⟩=some ze) qi ?_;rw[eU];clear eU;change K 0 _
        iterate 7
         refine Lt.ti (v:=?_) gv.o ?_ ?_;rotate_left 1
         · exact qbi
         simp only[gX]
        change K 8 _
        iterate 6
         refine Lt.ti (v:=?_) gv.o ?_ ?_;rotate_left 1
         · exact qbi
         simp only[gX]
        refine Lt.sp (i:=7) (fun K hK=>?_);go_simp;refine(O6.o U J9.o).mono ?_;rintro e w8 ⟨ly,g8,p8,v8,rfl,o1,o2⟩;obtain⟨a8,q8,rfl,_⟩:=o2.sl;have jj:Hd (w8.heap[P]?=some (.cells #[I 9,ze,nS] 105 (0,0))/\w8.heap[w.heap.size]?=some (.cells #[I n,.slice (some ⟨tb,tf,none⟩) T.length tc,.slice qa R.length qc] 34 (0,0))/\w8.cell? ⟨hb,8,none⟩=some ze/\w8.cell? ⟨hb,9,none⟩=some ze):=⟨Ab ly gv.o.1,Ab ly gv.o.2.1,Aa ly gv.o.2.2.1,Aa ly gv.o.2.2.2⟩;have I9:=hid (Ab ly HZU.o);have HB8:=hid (bt J9.o ly);(have vg:Hd (∀(b:Nat) (cur:Array Value),w6.heap[b]?=some (.cells cur 9 (0,0))->w8.heap[b]?=w6.heap[b]?):=fun b cur q=>by rw[ly.block b (zo (Af q)),jw.o b cur q]);have gq:=hid (show Fs w8 w6.heap.size (.slice (p_ g8) T.length p8) (.slice a8 R.length q8) T R from ⟨Ah o1.own hU6,⟨g8,p8,rfl⟩,o2.recO.base hU6⟩);have h8s:=ly.size;refine hK.out _ _ (fun _=>jj.o) (fun _=>?_);clear hK K ly o1 o2 gv HZU J9 jw
        try simp only[gX]
        refine Lt.ti (i:=14) (v:=?_) jj.o ?_ ?_;rotate_left 1
        · exact qbi
        simp only[gX];obtain⟨L6,L5,L4,L2,L1,L0,Le,K9,K8,K7⟩:=Fc I9.o;have zcf:=fZ I9.o;obtain⟨l,el⟩:∃ l:List (Nat × Nat × Value),l=[((w.heap.size+1+1),0,I 9),((w.heap.size+1+1),1,ze),((w.heap.size+1+1),2,nS),((w.heap.size+1+1),3,I n),((w.heap.size+1+1),4,.slice (p_ g8) T.length p8),((w.heap.size+1+1),5,.slice a8 R.length q8),((w.heap.size+1+1),6,nS),((w.heap.size+1+1),7,nS),((w.heap.size+1+1),8,ze),((w.heap.size+1+1),9,ze)]:=⟨_,rfl⟩;have dr:∀ x∈l,x.1=(w.heap.size+1+1):=qab;have cm:=Ds l w8 _ dr I9.o;have hS:=gq.o.setU dr I9.o;have hN:=fun (b:Nat) (h:b≠(w.heap.size+1+1))=>Gm (b:=b) l w8 (fun x hx q=>h (by rw[q,dr x hx]));have fc:Bw w (Cf w8 l):=Br l w8 HB8.o (fun x hx=>qag);obtain⟨V,eV⟩:=Ai (Cf w8 l);rw[eV] at cm fc hS;simp only[eV] at hN;rw[el] at cm eV;simp only[Cf,List.foldl] at eV;simp only[List.foldl,List.setIfInBounds_toArray,List.set_cons_zero,List.set_cons_succ] at cm;have HV:=hid cm;have mn:=hid fc;have ji:=hid hS;have gu:=hid hN;clear cm fc el dr hS hN;refine Lt.sp (i:=15) (fun K hK=>?_);go_simp
        try rw[eV]
        refine hK.out _ _ (fun _=>⟨(gu.o P qb).trans jj.o.1,(gu.o w.heap.size qb).trans jj.o.2.1,(De (gu.o hb qb)).trans jj.o.2.2.1,(De (gu.o hb qb)).trans jj.o.2.2.2⟩) (fun _=>?_);clear hK K L6 L5 L4 L2 L1 L0 Le K9 K8 K7 zcf eV
        try simp only[gX]
        refine Lt.sp (i:=16) (fun K hK=>?_);go_simp;refine hK.out _ _ (fun _=>⟨(gu.o P qb).trans jj.o.1,(gu.o w.heap.size qb).trans jj.o.2.1,(De (gu.o hb qb)).trans jj.o.2.2.1,(De (gu.o hb qb)).trans jj.o.2.2.2⟩) (fun _=>?_);clear hK K
        try simp only[gX]
        refine Lt.done qi ?_ _;go_wp2_with fail;obtain⟨y0,y1,y2,y3,y4,y5,y6,y7,y8,y9⟩:=Fc HV.o;refine bR (v:=.tuple #[.agg #[I 9,ze,nS,I n,.slice (p_ g8) T.length p8,.slice a8 R.length q8,nS,nS,ze,ze],nS]) qds rfl ⟨mn.o,_,_,rfl,HFI.o V _ _ (fun b cur q=>?_) ji.o⟩;exact qjp
      · have J7:Hd (w6.heap[P]?=_):=ir _ _ _ qd HL5.o
        have HQ6:Hd (w6.heap[w.heap.size]?=_):=ir _ _ _ qd lz.o;have HZ6:Hd (w6.heap[w.heap.size+1+1]?=_):=ir _ _ _ qd pg.o;have zx:=hid (lh.o.trans ci);have hs6w:=ci.size
        have M7:dc<=5:=by
          obtain⟨i1,i2,i3,i4⟩:=Bc.inv HEN.o.1.v bi (Fv.nil ss ts) yp.o A2 (fun b q=>qw);exact(i1.done nm _ i4).c5
        have HX:=hid (show Am nm/\Bc ss ts n [] ⟨T,R,[],[]⟩ [] (.make nm) ms' s' (.ok ⟨dc,dt,dls⟩) from ⟨A2,bi⟩);have ks:=hid zg;have hdI:(dc > 5)=False:=qh;have hdJ:decide (5<dc)=false:=qh;obtain⟨z0,z1,z2,zf⟩:=Ea J7.o;clear ci ir bi A2 zg Eq tr HL5 lz pg lh;go_wp2_with fail;refine⟨Or.inr ⟨qj,h,mb,sb,ms',s',⟨dc,dt,dls⟩,av',kv',vs',r',HX.o.1,HX.o.2,ks.o.set3 J7.o qd _ _ _,Bi J7.o _ _ _,(Ew qb _ _ _).trans HZ6.o,Gc zx.o qb _ _ _⟩,by simp[intOf]⟩
      · have J7:Hd (w6.heap[P]?=_):=ir _ _ _ qd HL5.o
        have HQ6:Hd (w6.heap[w.heap.size]?=_):=ir _ _ _ qd lz.o;have HZ6:Hd (w6.heap[w.heap.size+1+1]?=_):=ir _ _ _ qd pg.o;have zx:=hid (lh.o.trans ci);have zg:=ci.size;obtain⟨At,eAt⟩:=Ai (clA b);obtain⟨Bt,eBt⟩:=Ai (clB b);(have HC6:Hd (w6.cell? ⟨hb,8,none⟩=some (.string At)/\w6.cell? ⟨hb,9,none⟩=some (.string Bt)):=by rw[← eAt,← eBt];exact⟨I2.1,I2.2.1⟩);obtain⟨hc5,R8⟩:=FinB.fall (n:=n) (ss:=ss) (ts:=ts) (T:=T) (R:=R) (B:=w.heap.size) A2 (show w.heap.size<=w6.heap.size from qb) bi I2;rw[eAt,eBt] at R8;have HFI:=hid R8;have hdI:(c > 5)=True:=qh;have hdJ:decide (5<c)=true:=qh;clear ci ir bi A2 I2 R8 eAt eBt Eq tr HL5 lz pg lh;obtain⟨z0,z1,z2,zf⟩:=Ea J7.o
        go_upto_region 11 with fail
        clear z0 z1 z2 zf;obtain⟨w7,e7⟩:=Ai (((w6.setCell ⟨P,0,none⟩ (I c)).setCell ⟨P,1,none⟩ (.string t)).setCell ⟨P,2,none⟩ (.slice ca cn cc));(have Q0:∀ b,b≠P->w7.heap[b]?=w6.heap[b]?:=fun b q=>by rw[← e7];exact Ew q _ _ _);(have HL7:Hd (w7.heap[P]?=some (.cells #[I c,.string t,.slice ca cn cc] 105 (0,0))):=by show _=_;rw[← e7];exact Bi J7.o _ _ _);(have F5:Bw w w7:=by rw[← e7];exact Gc zx.o qb _ _ _);(have hs67:w7.heap.size=w6.heap.size:=by rw[← e7];simp);rw[e7];clear e7;obtain⟨U,eU⟩:=Ai w7.drew;have bm:Bw w7 U:=qbt;have HZU:Hd (U.heap[(w.heap.size+1+1)]?=some (.cells z10 36 (0,0))):=Ab bm ((Q0 _ qb).trans HZ6.o);have gv:Hd (U.heap[P]?=some (.cells #[I (c),.string t,.slice ca cn cc] 105 (0,0))/\U.heap[w.heap.size]?=some (.cells #[I n,.slice (some ⟨tb,tf,none⟩) T.length tc,.slice qa R.length qc] 34 (0,0))/\U.cell? ⟨hb,8,none⟩=some (.string At)/\U.cell? ⟨hb,9,none⟩=some (.string Bt)):=⟨Ab bm HL7.o,Ab bm ((Q0 _ qb).trans HQ6.o),Aa bm ((De (Q0 hb qb)).trans HC6.o.1),Aa bm ((De (Q0 hb qb)).trans HC6.o.2)⟩;have J9:=hid (bt F5 bm);(have jw:Hd (∀(b:Nat) (cur:Array Value),w6.heap[b]?=some (.cells cur 9 (0,0))->U.heap[b]?=w6.heap[b]?):=fun b cur q=>by rw[bm.block b (zo (Af q)),Q0 b (fun q2=>by rw[q2,J7.o] at q;injection q with q;injection q with _ q;exact absurd q qd)]);have hU6:w6.heap.size<=U.heap.size:=zo bm.size;clear hs67 bm Q0 HL7 F5 J7 HQ6 HZ6 HC6;refine Lt.begin 99 (fun w'=>w'.heap[P]?=some (.cells #[I (c),.string t,.slice ca cn cc] 105 (0,0))/\w'.heap[w.heap.size]?=some (.cells #[I n,.slice (some ⟨tb,tf,none⟩) T.length tc,.slice qa R.length qc] 34 (0,0))/\w'.cell? ⟨hb,8,none⟩=some (.string At)/\w'.cell? ⟨hb,9,none⟩=some (.string Bt)) qi ?_;rw[eU];clear eU;change K 0 _
        iterate 7
         refine Lt.ti (v:=?_) gv.o ?_ ?_;rotate_left 1
         · exact qbi
         simp only[gX]
        change K 8 _
        iterate 6
         refine Lt.ti (v:=?_) gv.o ?_ ?_;rotate_left 1
         · exact qbi
         simp only[gX]
        refine Lt.sp (i:=7) (fun K hK=>?_);go_simp;refine(O6.o U J9.o).mono ?_;rintro e w8 ⟨ly,g8,p8,v8,rfl,o1,o2⟩;obtain⟨a8,q8,rfl,_⟩:=o2.sl;have jj:Hd (w8.heap[P]?=some (.cells #[I (c),.string t,.slice ca cn cc] 105 (0,0))/\w8.heap[w.heap.size]?=some (.cells #[I n,.slice (some ⟨tb,tf,none⟩) T.length tc,.slice qa R.length qc] 34 (0,0))/\w8.cell? ⟨hb,8,none⟩=some (.string At)/\w8.cell? ⟨hb,9,none⟩=some (.string Bt)):=⟨Ab ly gv.o.1,Ab ly gv.o.2.1,Aa ly gv.o.2.2.1,Aa ly gv.o.2.2.2⟩;have I9:=hid (Ab ly HZU.o);have HB8:=hid (bt J9.o ly);(have vg:Hd (∀(b:Nat) (cur:Array Value),w6.heap[b]?=some (.cells cur 9 (0,0))->w8.heap[b]?=w6.heap[b]?):=fun b cur q=>by rw[ly.block b (zo (Af q)),jw.o b cur q]);have gq:=hid (show Fs w8 w6.heap.size (.slice (p_ g8) T.length p8) (.slice a8 R.length q8) T R from ⟨Ah o1.own hU6,⟨g8,p8,rfl⟩,o2.recO.base hU6⟩);have h8s:=ly.size;refine hK.out _ _ (fun _=>jj.o) (fun _=>?_);clear hK K ly o1 o2 gv HZU J9 jw
        try simp only[gX]
        refine Lt.ti (i:=14) (v:=?_) jj.o ?_ ?_;rotate_left 1
        · exact qbi
        simp only[gX];obtain⟨L6,L5,L4,L2,L1,L0,Le,K9,K8,K7⟩:=Fc I9.o;have zcf:=fZ I9.o;obtain⟨l,el⟩:∃ l:List (Nat × Nat × Value),l=[((w.heap.size+1+1),0,I c),((w.heap.size+1+1),1,.string t),((w.heap.size+1+1),2,.slice ca cn cc),((w.heap.size+1+1),3,I n),((w.heap.size+1+1),4,.slice (p_ g8) T.length p8),((w.heap.size+1+1),5,.slice a8 R.length q8),((w.heap.size+1+1),6,nS),((w.heap.size+1+1),7,nS),((w.heap.size+1+1),8,.string At),((w.heap.size+1+1),9,.string Bt)]:=⟨_,rfl⟩;have dr:∀ x∈l,x.1=(w.heap.size+1+1):=qab;have cm:=Ds l w8 _ dr I9.o;have hS:=gq.o.setU dr I9.o;have hN:=fun (b:Nat) (h:b≠(w.heap.size+1+1))=>Gm (b:=b) l w8 (fun x hx q=>h (by rw[q,dr x hx]));have fc:Bw w (Cf w8 l):=Br l w8 HB8.o (fun x hx=>qag);obtain⟨V,eV⟩:=Ai (Cf w8 l);rw[eV] at cm fc hS;simp only[eV] at hN;rw[el] at cm eV;simp only[Cf,List.foldl] at eV;simp only[List.foldl,List.setIfInBounds_toArray,List.set_cons_zero,List.set_cons_succ] at cm;have HV:=hid cm;have mn:=hid fc;have ji:=hid hS;have gu:=hid hN;clear cm fc el dr hS hN;refine Lt.sp (i:=15) (fun K hK=>?_);go_simp
        try rw[eV]
        refine hK.out _ _ (fun _=>⟨(gu.o P qb).trans jj.o.1,(gu.o w.heap.size qb).trans jj.o.2.1,(De (gu.o hb qb)).trans jj.o.2.2.1,(De (gu.o hb qb)).trans jj.o.2.2.2⟩) (fun _=>?_);clear hK K L6 L5 L4 L2 L1 L0 Le K9 K8 K7 zcf eV
        try simp only[gX]
        refine Lt.sp (i:=16) (fun K hK=>?_);go_simp;refine hK.out _ _ (fun _=>⟨(gu.o P qb).trans jj.o.1,(gu.o w.heap.size qb).trans jj.o.2.1,(De (gu.o hb qb)).trans jj.o.2.2.1,(De (gu.o hb qb)).trans jj.o.2.2.2⟩) (fun _=>?_);clear hK K
        try simp only[gX]
        refine Lt.done qi ?_ _;go_wp2_with fail;obtain⟨y0,y1,y2,y3,y4,y5,y6,y7,y8,y9⟩:=Fc HV.o;refine bR (v:=.tuple #[.agg #[I c,.string t,.slice ca cn cc,I n,.slice (p_ g8) T.length p8,.slice a8 R.length q8,nS,nS,.string At,.string Bt],nS]) qds rfl ⟨mn.o,_,_,rfl,HFI.o V _ _ (fun b cur q=>?_) ji.o⟩;exact qjp
    · obtain⟨h,mb,sb,ms',s',⟨dc,dt,dls⟩,av',kv',vs',r',A2,bi,md,hp5,hz5,hbw5⟩:=HD.o
      clear HD Eq tr HL5 lz jz pg E3 lh;obtain⟨l7,sj,et⟩:=Aw md.rs.tx;(obtain⟨za,yz,eq_⟩:∃ a c,r'.qv=.slice a s'.R.length c:=by obtain⟨zs,cv,lv,qr⟩:=md.rs.qs;exact Aw qr.row);obtain⟨na',As,en⟩:=Aw md.rs.ran;obtain⟨ea',ec',ee⟩:=Aw md.rs.held;(obtain⟨ua',uc',eu⟩:∃ a c,r'.uv=.slice a s'.R.length c:=by obtain⟨xs,uo⟩:=md.rs.us;exact Aw uo);obtain⟨tn',etn⟩:=Ai s'.T.length;obtain⟨qn',eqn⟩:=Ai s'.R.length;obtain⟨nn',enn⟩:=Ai s'.ran.length;obtain⟨en',een⟩:=Ai s'.held.length;rw[etn] at et;rw[eqn] at eq_ eu;rw[enn] at en;rw[een] at ee;have X4:=hid (show r'.tx=.slice l7 tn' sj/\r'.qv=.slice za qn' yz/\r'.nv=.slice na' nn' As/\r'.ev=.slice ea' en' ec'/\r'.uv=.slice ua' qn' uc' from ⟨et,eq_,en,ee,eu⟩);have HNU:=hid (show Am nm/\Bc ss ts n [] ⟨T,R,[],[]⟩ [] (.make nm) ms' s' (.ok ⟨dc,dt,dls⟩) from ⟨A2,bi⟩);have HBS:=hid md;have HL5:=hid hp5;have HZ5:=hid hz5;have lh:=hid hbw5;have hZl:=Af hz5;have uq:=Af hp5;clear A2 bi md hp5 hz5 hbw5 et eq_ en ee eu etn eqn enn een
      go_upto_region 13 with fail
      obtain⟨U,eU⟩:=Ai wr.drew;have bm:Bw wr U:=qbt;have K5:=hid (HBS.o.bl bm);have pd:=hid (Ab bm HZ5.o);have gi:=hid (bt lh.o bm);have dj:=K5.o.rs.sh;rw[X4.o.1,X4.o.2.1] at dj;have gv:Hd (U.heap[P]?=some (.cells #[I dc,.string dt,nS] 105 (0,0))/\U.heap[hb]?=some (.cells (Rm ⟨hb,g,sb,n⟩ h r') 146 (0,0))/\U.heap[g]?=some (.cells #[I n,.slice l7 tn' sj,.slice za qn' yz,r'.su] 149 (0,0))):=⟨Ab bm HL5.o,K5.o.rs.bd,dj⟩;have hUs:=bm.size;refine Lt.begin 99 (fun w'=>w'.heap[P]?=some (.cells #[I dc,.string dt,nS] 105 (0,0))/\w'.heap[hb]?=some (.cells (Rm ⟨hb,g,sb,n⟩ h r') 146 (0,0))/\w'.heap[g]?=some (.cells #[I n,.slice l7 tn' sj,.slice za qn' yz,r'.su] 149 (0,0))) qi ?_;rw[eU];clear eU bm dj HBS HZ5 lh HL5;change K 0 _
      iterate 16
       refine Lt.ti (v:=?_) gv.o ?_ ?_;rotate_left 1
       · rintro w ⟨s1,s2,s3⟩
         obtain⟨l0,l1,l2,-⟩:=Ea s1;have b0:=cK s2 0;(have b1:w.cell? ⟨hb,1,none⟩=some (.slice na' nn' As):=by rw[cH s2,← X4.o.2.2.1];rfl);(have b2:w.cell? ⟨hb,2,none⟩=some (.slice ea' en' ec'):=by rw[cH s2,← X4.o.2.2.2.1];rfl);(have b3:w.cell? ⟨hb,3,none⟩=some (.slice ua' qn' uc'):=by rw[cH s2,← X4.o.2.2.2.2];rfl);obtain⟨g0,g1,g2,g3,-⟩:=Lk s3;exact qbm
       simp only[gX]
      obtain⟨L6,L5,L4,L2,L1,L0,Le,K9,K8,K7⟩:=Fc pd.o;have zcf:=fZ pd.o;obtain⟨l,el⟩:∃ l:List (Nat × Nat × Value),l=[((w.heap.size+1+1),0,I dc),((w.heap.size+1+1),1,.string dt),((w.heap.size+1+1),2,nS),((w.heap.size+1+1),3,I n),((w.heap.size+1+1),4,(.slice l7 tn' sj)),((w.heap.size+1+1),5,(.slice za qn' yz)),((w.heap.size+1+1),6,(.slice na' nn' As)),((w.heap.size+1+1),7,(.slice ea' en' ec')),((w.heap.size+1+1),8,ze),((w.heap.size+1+1),9,ze)]:=⟨_,rfl⟩;have dr:∀ x∈l,x.1=(w.heap.size+1+1):=qab;have cm:=Ds l U _ dr pd.o;have hT:=Dw K5.o.rs.tx dr pd.o qd;have hRc:=K5.o.rs.qs.setU dr pd.o;have hA:=Dw K5.o.rs.ran dr pd.o qd;have hE:=Dw K5.o.rs.held dr pd.o qd;have hN:=fun (b:Nat) (h:b≠(w.heap.size+1+1))=>Gm (b:=b) l U (fun x hx q=>h (by rw[q,dr x hx]));have fc:Bw w (Cf U l):=Br l U gi.o (fun x hx=>qag);obtain⟨V,eV⟩:=Ai (Cf U l);rw[eV] at cm fc hT hRc hA hE;simp only[eV] at hN;rw[el] at cm eV;simp only[Cf,List.foldl] at eV;simp only[List.foldl,List.setIfInBounds_toArray,List.set_cons_zero,List.set_cons_succ] at cm;have HV:=hid cm;have mn:=hid fc;have H_hT:=hid hT;have H_hRc:=hid hRc;have H_hA:=hid hA;have H_hE:=hid hE;have gu:=hid hN;clear cm fc el dr hT hRc hA hE hN;refine Lt.sp (i:=16) (fun K hK=>?_);go_simp
      try rw[eV]
      refine hK.out _ _ (fun _=>⟨(gu.o P qb).trans gv.o.1,(gu.o hb qb).trans gv.o.2.1,(gu.o g qb).trans gv.o.2.2⟩) (fun _=>?_);clear hK K L6 L5 L4 L2 L1 L0 Le K9 K8 K7 zcf eV
      try simp only[gX]
      refine Lt.sp (i:=17) (fun K hK=>?_);go_simp;refine hK.out _ _ (fun _=>⟨(gu.o P qb).trans gv.o.1,(gu.o hb qb).trans gv.o.2.1,(gu.o g qb).trans gv.o.2.2⟩) (fun _=>?_);clear hK K
      try simp only[gX]
      refine Lt.done qi ?_ _;go_wp2_with fail;obtain⟨y0,y1,y2,y3,y4,y5,y6,y7,y8,y9⟩:=Fc HV.o;refine bR (v:=.tuple #[.agg #[I dc,.string dt,nS,I n,(.slice l7 tn' sj),(.slice za qn' yz),(.slice na' nn' As),(.slice ea' en' ec'),ze,ze],.slice ua' qn' uc']) qds rfl ⟨mn.o,_,_,rfl,Or.inr ⟨HNU.o.1,ms',s',_,HNU.o.2,Or.inl ⟨⟨dc,dt,dls⟩,_,_,_,_,rfl,rfl,by rw[← X4.o.1];exact H_hT.o,by rw[← X4.o.2.1];exact H_hRc.o,by rw[← X4.o.2.2.1];exact H_hA.o,by rw[← X4.o.2.2.2.1];exact H_hE.o,?_⟩⟩⟩;have jp:=K5.o.rs.ap;rw[X4.o.1,X4.o.2.2.1,X4.o.2.2.2.1] at jp;exact List.Pairwise.sublist (List.Sublist.cons _ (List.Sublist.cons _ (List.Sublist.cons_cons _ (List.Sublist.cons _ (List.Sublist.cons_cons _ (List.Sublist.cons_cons _ List.Sublist.slnil)))))) jp
theorem Jb.kept (h:Jb B w b l) (hk:∀(e sz n:Nat) (u:Value) (xs:List Value),w.ownsRow B e sz u n xs->e≠36->w'.ownsRow B e sz u n xs):Jb B w' b l:=by
  cases b with
  | circle ch=>obtain⟨cv,a,b⟩:=h;exact⟨cv,hk _ _ _ _ _ a qd,b⟩
  | deep nm=>exact h
  | clash A B=>exact h
  | full=>exact h
theorem Jb.base {B0:Nat} (h:Jb B w b l) (hB:B0<=B):Jb B0 w b l:=by
  cases b with
  | circle ch=>obtain⟨cv,a,b⟩:=h;exact⟨cv,Ah a hB,b⟩
  | deep nm=>exact h
  | clash A B=>exact h
  | full=>exact h
theorem Es.keptE (h:Es w B v R) (hk:∀(e sz n:Nat) (u:Value) (xs:List Value),w.ownsRow B e sz u n xs->e≠36->w'.ownsRow B e sz u n xs):Es w' B v R:=by
  obtain⟨xs,cv,lv,r⟩:=h;exact⟨xs,cv,lv,hk _ _ _ _ _ r.row qd,r.fil,fun i hi=>by obtain⟨ys,a,b⟩:=r.code i hi;exact⟨ys,hk _ _ _ _ _ a qd,b⟩,fun i hi=>by obtain⟨ys,a,b⟩:=r.look i hi;exact⟨ys,hk _ _ _ _ _ a qd,b⟩,r.apc,r.apl⟩
def Gz (B:Nat) (n:Int) (ss:List S2) (ts:List T2) (T:List By) (R:List T3) (nm:By) (v:Value) (w':World):Prop:=
  (¬ (Kx n T R/\Hn ss ts=0/\Am nm)/\Zr B n T R v w')\/((Kx n T R/\Hn ss ts=0/\Am nm)/\∃ m:Nat,n=(m:Int)/\BuildI B m ss ts T R nm v w')
section
variable {B B0:Nat} {n:Int} {ss:List S2} {ts:List T2} {T:List By} {R:List T3} {nm:By} {v:Value} {w w':World}
theorem Gz.kept (h:Gz B n ss ts T R nm v w) (hk:∀(e sz n:Nat) (u:Value) (xs:List Value),w.ownsRow B e sz u n xs->e≠36->w'.ownsRow B e sz u n xs):Gz B n ss ts T R nm v w':=by
  rcases h with ⟨h0,tx,qv,e,hs⟩|⟨h0,m,hm,ms',s',a,bi,⟨d,tx,qv,nv,ev,ea,e,h1,h2,h3,h4,h5⟩|⟨b,x,y,cv,tx,qv,A,B',ea,h1,e,hs,h2⟩⟩
  · exact Or.inl ⟨h0,tx,qv,e,hk _ _ _ _ _ hs.txt qd,hs.txa,hs.rcs.keptE hk⟩
  · exact Or.inr ⟨h0,m,hm,ms',s',a,bi,Or.inl ⟨d,tx,qv,nv,ev,ea,e,hk _ _ _ _ _ h1 qd,h2.keptE hk,hk _ _ _ _ _ h3 qd,hk _ _ _ _ _ h4 qd,h5⟩⟩
  · exact Or.inr ⟨h0,m,hm,ms',s',a,bi,Or.inr ⟨b,x,y,cv,tx,qv,A,B',ea,h1.kept hk,e,⟨hk _ _ _ _ _ hs.txt qd,hs.txa,hs.rcs.keptE hk⟩,h2⟩⟩
theorem Gz.bl (h:Gz B n ss ts T R nm v w) (hb:Bw w w'):Gz B n ss ts T R nm v w':=h.kept fun _ _ _ _ _ ho _=>Ac ho hb
theorem Gz.base (h:Gz B n ss ts T R nm v w) (hB:B0<=B):Gz B0 n ss ts T R nm v w:=by
  rcases h with ⟨h0,tx,qv,e,hs⟩|⟨h0,m,hm,ms',s',a,bi,⟨d,tx,qv,nv,ev,ea,e,h1,h2,h3,h4,h5⟩|⟨b,x,y,cv,tx,qv,A,B',ea,h1,e,hs,h2⟩⟩
  · exact Or.inl ⟨h0,tx,qv,e,hs.base hB⟩
  · exact Or.inr ⟨h0,m,hm,ms',s',a,bi,Or.inl ⟨d,tx,qv,nv,ev,ea,e,Ah h1 hB,h2.base hB,Ah h3 hB,Ah h4 hB,h5⟩⟩
  · exact Or.inr ⟨h0,m,hm,ms',s',a,bi,Or.inr ⟨b,x,y,cv,tx,qv,A,B',ea,h1.base hB,e,hs.base hB,h2⟩⟩
theorem Gz.setU {h0:Nat} {cs:Array Value} {l:List (Nat × Nat × Value)} (h:Gz B n ss ts T R nm v w) (hh:∀ x∈l,x.1=h0) (hk:w.heap[h0]?=some (.cells cs 36 (0,0))):Gz B n ss ts T R nm v (Cf w l):=h.kept fun _ _ _ _ _ ho he=>Dw ho hh hk (fun e=>he e.symm)
theorem Gz.form (h:Gz B n ss ts T R nm v w):∃(xc:Int) (yt:By) (ca:Option Addr) (cn cc:Nat) (m:Int) (ta:Option Addr) (tn tc:Nat) (qa:Option Addr) (qn qc:Nat) (na:Option Addr) (nn nc:Nat) (ea:Option Addr) (en ec:Nat) (At Bt:By),v=.agg #[I xc,.string yt,.slice ca cn cc,I m,.slice ta tn tc,.slice qa qn qc,.slice na nn nc,.slice ea en ec,.string At,.string Bt]:=by
  rcases h with ⟨h0,tx,qv,rfl,hs⟩|⟨h0,m,hm,ms',s',a,bi,⟨d,tx,qv,nv,ev,_,rfl,h1,h2,h3,h4,h5⟩|⟨b,x,y,cv,tx,qv,A,B',_,h1,rfl,hs,h2⟩⟩
  · obtain⟨a1,b1,rfl⟩:=Aw hs.txt
    obtain⟨xs,c,l,r⟩:=hs.rcs;obtain⟨a2,b2,rfl⟩:=Aw r.row;exact qfh
  · obtain⟨a1,b1,rfl⟩:=Aw h1
    obtain⟨xs,c,l,r⟩:=h2;obtain⟨a2,b2,rfl⟩:=Aw r.row;obtain⟨a3,b3,rfl⟩:=Aw h3;obtain⟨a4,b4,rfl⟩:=Aw h4;exact qfh
  · obtain⟨a1,b1,rfl⟩:=Aw hs.txt
    obtain⟨xs,c,l,r⟩:=hs.rcs;obtain⟨a2,b2,rfl⟩:=Aw r.row
    cases b with
    | circle ch=>
      obtain⟨cv',a,e⟩:=h1;obtain⟨a3,b3,rfl⟩:=Aw a;simp only[List.cons.injEq,and_true,true_and] at e;obtain⟨rfl,rfl,rfl,rfl,rfl⟩:=e;exact qfh
    | deep nm'=>
      exact qew
    | clash X Y=>
      exact qew
    | full=>
      exact qew
end
structure ArgB (w:World) (n:Int) (tb tf:Nat) (qa sa ta:Option Addr) (T:List By) (R:List T3) (ss:List S2) (ts:List T2) (nm:By):Prop where
  tab:Lr w
  pow:Mb w
  st:Oq w (some ⟨tb,tf,none⟩) T qa R
  rz:Ur w qa R
  lr:R.length ≤ 1048576
  lk:∀ i,i<R.length→(qx R i).code.length ≤ 1048576∧(qx R i).looks.length ≤ 1048576
  sp:Ll w sa ss ta ts
  sm:Fb ss ts
  nm:nm.size<=9223372036854775807
theorem ArgB.bl {n:Int} {tb tf:Nat} {qa sa ta:Option Addr} (h:ArgB w n tb tf qa sa ta T R ss ts nm) (hb:Bw w w'):ArgB w' n tb tf qa sa ta T R ss ts nm:=⟨h.tab.bl hb,h.pow.bl hb,h.st.bl hb,h.rz.bl hb,h.lr,h.lk,h.sp.bl hb,h.sm,h.nm⟩
theorem all1_any (n:Int) (tb tf tc nb nc:Nat) (qa sa ta:Option Addr) (qc c1 c2:Nat) (T:List By) (R:List T3) (ss:List S2) (ts:List T2) (nm:By) (w:World) (h:ArgB w n tb tf qa sa ta T R ss ts nm) (ip:w.heap[nb]?=some (.cells #[.string nm] 9 (0,0))) :
    Calls prog 54 #[.agg #[I n,.slice (some ⟨tb,tf,none⟩) T.length tc,.slice qa R.length qc],.agg #[.slice sa ss.length c1,.slice ta ts.length c2],.slice (p_ nb) 1 nc] w fun e w'=>Bw w w'/\∃ v u,e=.returned (.tuple #[v,u])/\Gz w.heap.size n ss ts T R nm v w':=by
  by_cases hv:Kx n T R/\Hn ss ts=0
  · obtain⟨m,rfl⟩:=Int.eq_ofNat_of_zero_le (show 0<=n by have:=hv.1.1;omega)
    refine(allB_yes m tb tf tc nb nc qa sa ta qc c1 c2 T R ss ts nm w h.tab h.pow h.st h.rz h.lr h.lk h.sp h.sm hv.1 hv.2 ip h.nm).mono ?_;rintro e w' ⟨hb,v,u,he,⟨gk,hp⟩|⟨hy,hp⟩⟩
    · exact⟨hb,v,u,he,Or.inl ⟨fun q=>gk q.2.2,hp⟩⟩
    · exact⟨hb,v,u,he,Or.inr ⟨⟨hv.1,hv.2,hy⟩,m,rfl,hp⟩⟩
  · refine(allB_no n tb tf tc nb nc qa sa ta qc c1 c2 T R ss ts nm w h.tab h.st h.rz h.lr h.lk h.sp h.sm hv).mono ?_
    rintro e w' ⟨hb,v,u,he,hp⟩;exact⟨hb,v,u,he,Or.inl ⟨fun q=>hv ⟨q.1,q.2.1⟩,hp⟩⟩
theorem Wg (n:Int) (tb tf tc nb nc:Nat) (qa sa ta:Option Addr) (qc c1 c2:Nat) (T:List By) (R:List T3) (ss:List S2) (ts:List T2) (nm:By) (w:World) (ha:ArgB w n tb tf qa sa ta T R ss ts nm) (ip:w.heap[nb]?=some (.cells #[.string nm] 9 (0,0))) :
    Calls prog 30 #[.agg #[I n,.slice (some ⟨tb,tf,none⟩) T.length tc,.slice qa R.length qc],.agg #[.slice sa ss.length c1,.slice ta ts.length c2],.slice (p_ nb) 1 nc] w fun e w'=>Bw w w'/\∃ v,e=.returned v/\Gz w.heap.size n ss ts T R nm v w':=by
  obtain⟨W,eW⟩:=Ai (((w.alloc (.cells #[I n,.slice (some ⟨tb,tf,none⟩) T.length tc,.slice qa R.length qc] 34)).alloc (.cells #[.slice sa ss.length c1,.slice ta ts.length c2] 42)).alloc (.cells z10 36));have bn:Bw w W:=qck;have HQ:Hd (W.heap[w.heap.size]?=some (.cells #[I n,.slice (some ⟨tb,tf,none⟩) T.length tc,.slice qa R.length qc] 34 (0,0))):=qcn
  have HP:Hd (W.heap[w.heap.size+1]?=some (.cells #[.slice sa ss.length c1,.slice ta ts.length c2] 42 (0,0))):=by
    exact qci
  have HZ:Hd (W.heap[w.heap.size+1+1]?=some (.cells z10 36 (0,0))):=by
    exact qch
  have up:=Af HZ.o;have vk:=hid bn;have HAR:=hid (ha.bl bn);obtain⟨q0,q1,q2,qf⟩:=Ea HQ.o;obtain⟨x0,x1⟩:=Fr HP.o;have HAL:=hid (all1_any n tb tf tc nb nc qa sa ta qc c1 c2 T R ss ts nm W HAR.o (Ab bn ip));clear ha ip bn;go_enter func30,ntmps30;go_wp2_with fail;clear eW q0 q1 q2 qf x0 x1;refine HAL.o.mono ?_;rintro e w1 ⟨af,v,u,rfl,hpo⟩;obtain⟨xc,yt,ca,cn,cc,m,l7,tn,sj,za,qn,yz,na,nn,As,ea,en,ec,At,Bt,rfl⟩:=hpo.form;have HPO:=hid (hpo.base (show w.heap.size<=W.heap.size from qb));have pg:=hid (Ab af HZ.o);have fw:=hid (bt vk.o af);have eg:=af.size;clear af hpo HAL HQ HP HZ vk HAR
  go_upto_region 2 with fail
  obtain⟨w2,e2⟩:=Ai (w1.alloc (.cells #[I xc,.string yt,.slice ca cn cc,I m,.slice l7 tn sj,.slice za qn yz,.slice na nn As,.slice ea en ec,.string At,.string Bt] 36));obtain⟨RR,eRR⟩:=Ai w1.heap.size;have ag:=aB e2;have iy:=hid (nW e2 eRR);rw[e2,eRR];have hR1:W.heap.size<=RR:=qb;have HPO2:=hid (HPO.o.bl ag);have pd:=hid (Ab ag pg.o);have gi:=hid (bt fw.o ag);clear e2 eRR ag HPO pg fw;obtain⟨k0,k1,k2,k3,k4,k5,k6,k7,k8,k9⟩:=Fc iy.o;obtain⟨L6,L5,L4,L2,L1,L0,Le,K9,K8,K7⟩:=Fc pd.o;have zcf:=fZ pd.o;obtain⟨l,el⟩:∃ l:List (Nat × Nat × Value),l=[((w.heap.size+1+1),0,I xc),((w.heap.size+1+1),1,.string yt),((w.heap.size+1+1),2,.slice ca cn cc),((w.heap.size+1+1),3,I m),((w.heap.size+1+1),4,.slice l7 tn sj),((w.heap.size+1+1),5,.slice za qn yz),((w.heap.size+1+1),6,.slice na nn As),((w.heap.size+1+1),7,.slice ea en ec),((w.heap.size+1+1),8,.string At),((w.heap.size+1+1),9,.string Bt)]:=⟨_,rfl⟩;have dr:∀ x∈l,x.1=(w.heap.size+1+1):=qab;have cm:=Ds l w2 _ dr pd.o;have hS:=HPO2.o.setU dr pd.o;have fc:Bw w (Cf w2 l):=Br l w2 gi.o (fun x hx=>qag);obtain⟨V,eV⟩:=Ai (Cf w2 l);rw[eV] at cm fc hS;rw[el] at cm eV;simp only[Cf,List.foldl] at eV;simp only[List.foldl,List.setIfInBounds_toArray,List.set_cons_zero,List.set_cons_succ] at cm;have HV:=hid cm;have mn:=hid fc;have ji:=hid hS;clear cm fc el dr hS;go_wp2_with fail
  try rw[eV]
  obtain⟨y0,y1,y2,y3,y4,y5,y6,y7,y8,y9⟩:=Fc HV.o;exact bR (v:=.agg #[I xc,.string yt,.slice ca cn cc,I m,.slice l7 tn sj,.slice za qn yz,.slice na nn As,.slice ea en ec,.string At,.string Bt]) (by simp[results,results30,go_sem,y0,y1,y2,y3,y4,y5,y6,y7,y8,y9]) rfl ⟨mn.o,_,rfl,ji.o⟩
theorem Vw (n:Int) (tb tf tc:Nat) (qa sa ta:Option Addr) (qc c1 c2:Nat) (T:List By) (R:List T3) (ss:List S2) (ts:List T2) (nm:By) (w:World) (ha:ArgB w n tb tf qa sa ta T R ss ts nm) :
    Calls prog 9 #[.agg #[I n,.slice (some ⟨tb,tf,none⟩) T.length tc,.slice qa R.length qc],.agg #[.slice sa ss.length c1,.slice ta ts.length c2],.string nm] w fun e w'=>Bw w w'/\∃ v,e=.returned v/\Gz w.heap.size n ss ts T R nm v w':=by
  obtain⟨W,eW⟩:=Ai (((w.alloc (.cells #[I n,.slice (some ⟨tb,tf,none⟩) T.length tc,.slice qa R.length qc] 34)).alloc (.cells #[.slice sa ss.length c1,.slice ta ts.length c2] 42)).alloc (.cells z10 36));have bn:Bw w W:=qck;have HQ:Hd (W.heap[w.heap.size]?=some (.cells #[I n,.slice (some ⟨tb,tf,none⟩) T.length tc,.slice qa R.length qc] 34 (0,0))):=qcn
  have HP:Hd (W.heap[w.heap.size+1]?=some (.cells #[.slice sa ss.length c1,.slice ta ts.length c2] 42 (0,0))):=by
    exact qci
  have HZ:Hd (W.heap[w.heap.size+1+1]?=some (.cells z10 36 (0,0))):=by
    exact qch
  have up:=Af HZ.o;have vk:=hid bn;have HAR:=hid (ha.bl bn);obtain⟨q0,q1,q2,qf⟩:=Ea HQ.o;obtain⟨x0,x1⟩:=Fr HP.o;obtain⟨N,eN⟩:=Ai (W.alloc (.cells #[.string nm] 9));have F2:=aB eN;have HAL:=hid (Wg n tb tf tc W.heap.size 1 qa sa ta qc c1 c2 T R ss ts nm N (HAR.o.bl F2) (by rw[← eN];exact Gq _ _));have HZN:=hid (Ab F2 HZ.o);have HBN:=hid (bt vk.o F2);have hsN:=F2.size;clear ha bn F2;go_enter func9,ntmps9;go_wp2_with fail;clear eW eN q0 q1 q2 qf x0 x1;refine HAL.o.mono ?_;rintro e w1 ⟨af,v,rfl,hpo⟩;obtain⟨xc,yt,ca,cn,cc,m,l7,tn,sj,za,qn,yz,na,nn,As,ea,en,ec,At,Bt,rfl⟩:=hpo.form;have HPO:=hid (hpo.base (show w.heap.size<=N.heap.size from qb));have pg:=hid (Ab af HZN.o);have fw:=hid (bt HBN.o af);have eg:=af.size;clear af hpo HAL HQ HP HZ vk HAR HZN HBN;obtain⟨L6,L5,L4,L2,L1,L0,Le,K9,K8,K7⟩:=Fc pg.o;have zcf:=fZ pg.o;obtain⟨l,el⟩:∃ l:List (Nat × Nat × Value),l=[((w.heap.size+1+1),0,I xc),((w.heap.size+1+1),1,.string yt),((w.heap.size+1+1),2,.slice ca cn cc),((w.heap.size+1+1),3,I m),((w.heap.size+1+1),4,.slice l7 tn sj),((w.heap.size+1+1),5,.slice za qn yz),((w.heap.size+1+1),6,.slice na nn As),((w.heap.size+1+1),7,.slice ea en ec),((w.heap.size+1+1),8,.string At),((w.heap.size+1+1),9,.string Bt)]:=⟨_,rfl⟩;have dr:∀ x∈l,x.1=(w.heap.size+1+1):=qab;have cm:=Ds l w1 _ dr pg.o;have hS:=HPO.o.setU dr pg.o;have fc:Bw w (Cf w1 l):=Br l w1 fw.o (fun x hx=>qag);obtain⟨V,eV⟩:=Ai (Cf w1 l);rw[eV] at cm fc hS;rw[el] at cm eV;simp only[Cf,List.foldl] at eV;simp only[List.foldl,List.setIfInBounds_toArray,List.set_cons_zero,List.set_cons_succ] at cm;have HV:=hid cm;have mn:=hid fc;have ji:=hid hS;clear cm fc el dr hS;go_wp2_with fail
  try rw[eV]
  obtain⟨y0,y1,y2,y3,y4,y5,y6,y7,y8,y9⟩:=Fc HV.o;exact bR (v:=.agg #[I xc,.string yt,.slice ca cn cc,I m,.slice l7 tn sj,.slice za qn yz,.slice na nn As,.slice ea en ec,.string At,.string Bt]) (by simp[results,results9,go_sem,y0,y1,y2,y3,y4,y5,y6,y7,y8,y9]) rfl ⟨mn.o,_,rfl,ji.o⟩
end Go.Proofs.YtfgoholldpeabaaGreatDoor
