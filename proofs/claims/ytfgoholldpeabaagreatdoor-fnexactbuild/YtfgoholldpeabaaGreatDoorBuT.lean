import Derived.Test.YtfgoholldpeabaaGreatDoorBtA
import Derived.Test.YtfgoholldpeabaaGreatDoorBuJ
namespace Go.Proofs.YtfgoholldpeabaaGreatDoor
set_option maxHeartbeats 8000000
set_option maxRecDepth 100000
open _root_.Go.Proofs.Tryz Go.RowKit Go.Deep
set_option linter.unusedVariables false
set_option linter.unusedSimpArgs false
variable {W0 w wr w' w2 w3 W w1:World} {h cap i g lo hi n j g3 l3 c3 B:Nat} {C:Ep} {sv tv av kv qv v:Value} {ss ts st ts':List By} {ms ms1:Mm} {s s1:Sb} {r:Rv} {is:List I3} {a:Option Addr} {R:List T3} {zs xs:List Value} {x:By} {ops:Array Oper} {Q:Exit->Act->World->Prop}
def TakeB (B h mb:Nat) (C:Ep) (sv tv:Value) (ss:List S2) (ts:List T2) (ms:Mm) (s:Sb) (st:List By) (av kv:Value) (r:Rv) (is:List I3) (w:World) (e:Ending) (w':World):Prop:=
  (∃ ms' s' av' kv' vs' r',((∃ c t,Bc ss ts C.n ms s st (.tri is 0 s.R.length) ms' s' (.hit c t)/\e=.returned (.tuple #[.agg #[I c,.string t,nS],.bool true]))\/(Bc ss ts C.n ms s st (.tri is 0 s.R.length) ms' s' .none/\e=.returned (.tuple #[.agg #[I 0,ze,nS],.bool false])))/\Kz B h mb C sv tv ss ts w' ms' st av' kv' vs' s' r'/\KQ B h mb C av kv r r' w w'/\Ak w av av'/\Ak w kv kv'/\r'.sn+400200*Dd ts ms st<=r.sn+200*s.R.length+400200*Dd ts ms' st)\/
  (∃ b v r' ms' s',e=Kq v/\KQ B h mb C av kv r r' w w'/\Bc ss ts C.n ms s st (.tri is 0 s.R.length) ms' s' (.bad b)/\Db B C w' b v)
section
variable {B h mb k:Nat} {C:Ep} {sv tv:Value} {ss:List S2} {ts:List T2} {w w':World} {ms:Mm} {mk st:List By} {al:Nat} {av kv:Value} {vs:By->Value} {s:Sb} {r r':Rv}
theorem KQ.recAt (K:KQ B h mb C av kv r r' w w') (q:BS B h mb k C sv tv ss ts w ms mk st al av kv vs s r) {i:Nat} (hi:i<s.R.length):∃ g cp ca cc la lc,r.qv=.slice (p_ g) s.R.length cp/\w'.cell? ⟨g,i*3,none⟩=some (.slice ca (qx s.R i).code.length cc)/\w'.cell? ⟨g,i*3+1,none⟩=some (.slice la (qx s.R i).looks.length lc)/\w'.cell? ⟨g,i*3+2,none⟩=some (.string (qx s.R i).out)/\Cj w' ca (qx s.R i).code/\∃ ys,w'.ownsRow B 125 3 (.slice la (qx s.R i).looks.length lc) (qx s.R i).looks.length ys/\Bo (qx s.R i).looks (qx s.R i).looks.length ys:=by
  obtain⟨xs,cv,lv,qr⟩:=q.rs.qs;obtain⟨f1,f2,f3⟩:=qr.fil i hi;obtain⟨ys,k1,k2⟩:=qr.code i hi;obtain⟨zs,l1,l2⟩:=qr.look i hi;have k1':=K.ownK q k1 qd;have l1':=K.ownK q l1 qd;obtain⟨ca,cc,e1,r1⟩:=Pe k1' k2;obtain⟨la,lc,e2⟩:=Aw l1';rw[e1] at f1;rw[e2] at f2 l1'
  rcases qr.row.2 with ⟨_,h0⟩|⟨g,cp,cur,e,hB,hh,h1,h2,h3,h4⟩
  · omega
  · obtain⟨cs',b',c'⟩:=K.old g _ cp cur e hh
    have at_:∀ j u,j<s.R.length*3->xs[j]?=some u->w'.cell? ⟨g,j,none⟩=some u:=fun j u hj hx=>by
      rw[cH b',c' j hj,← Array.getElem?_toList];rw[← h4,List.getElem?_take,if_pos hj] at hx;exact hx
    exact⟨g,cp,ca,cc,la,lc,e,at_ _ _ qb f1,at_ _ _ qb f2,at_ _ _ qb f3,r1,zs,l1',l2⟩
theorem BS.dfAt (q:BS B h mb k C sv tv ss ts w ms mk st al av kv vs s r) {i:Nat} (hi:i<s.R.length):∃ g cp b,r.dv=.slice (p_ g) s.R.length cp/\w.cell? ⟨g,i,none⟩=some (.bool b)/\(b=true->NoH ss ts C.n ms (qx s.R i).looks)/\∀ j,w.frozen? ⟨g,j,none⟩=false:=by
  obtain⟨ys,d1,d2⟩:=q.rs.df;obtain⟨a,cap,e⟩:=Aw d1;have hl:=d1.1;rw[List.length_map] at hl;have hy:i<ys.length:=qb;rw[e] at d1;obtain⟨g,rfl,hc⟩:=Cn (j:=i) (u:=.bool ys[i]) d1 (by rw[List.getElem?_map,Iu hy];rfl);obtain⟨_,cs,hh⟩:=Dr d1 (b:=g) rfl;exact⟨g,cap,ys[i],e,hc,fun hb=>d2 i (by rw[Iu hy,hb]),fun j=>fH hh j⟩
theorem BS.usAt (q:BS B h mb k C sv tv ss ts w ms mk st al av kv vs s r) {i:Nat} (hi:i<s.R.length):∃ g cp b,r.uv=.slice (p_ g) s.R.length cp/\w.cell? ⟨g,i,none⟩=some (.bool b)/\∀ j,w.frozen? ⟨g,j,none⟩=false:=by
  obtain⟨ys,d1⟩:=q.rs.us;obtain⟨a,cap,e⟩:=Aw d1;have hl:=d1.1;rw[List.length_map] at hl;have hy:i<ys.length:=qb;rw[e] at d1;obtain⟨g,rfl,hc⟩:=Cn (j:=i) (u:=.bool ys[i]) d1 (by rw[List.getElem?_map,Iu hy];rfl);obtain⟨_,cs,hh⟩:=Dr d1 (b:=g) rfl;exact⟨g,cap,ys[i],e,hc,fun j=>fH hh j⟩
theorem BS.get (q:BS B h mb k C sv tv ss ts w ms mk st al av kv vs s r) (ft:Kl C.n s) (t:By):Calls prog 145 #[.pointer (p_ C.hs),.string t] w fun e w'=>w=w'/\∃ A ok,e=.returned (.tuple #[.string A,.bool ok])/\A=Lg C.n s.T t/\A.size<=2002:=by
  obtain⟨ta,tc,e1⟩:=Aw q.rs.tx;obtain⟨sa,sc,e2⟩:=Aw q.rs.su;obtain⟨zs,cv,lv,qr⟩:=q.rs.qs;obtain⟨ra,rc,e3⟩:=Aw qr.row;have h1:=q.rs.tx;rw[e1] at h1;have h2:=q.rs.su;rw[e2] at h2;have dj:=q.rs.sh;rw[e1,e2,e3] at dj;refine(get_any C.n C.hs ta ra sa tc s.R.length rc sc s.T t w dj (Mh (by rw[List.length_map]) h2) (Mh rfl h1) (zo ft.1.1) ft.1.2.2).mono ?_;rintro e w' ⟨rfl,A,ok,rfl,hg⟩;obtain⟨k1,_⟩:=getA_rr ft.1.2.2 hg;exact⟨rfl,A,ok,rfl,k1,by rw[k1];exact Xe ft.1.2.1⟩
end
structure TkI (W0:World) (h mb:Nat) (C:Ep) (sv tv:Value) (ss:List S2) (ts:List T2) (w:World) (ms:Mm) (s:Sb) (st:List By) (av kv:Value) (r:Rv) (is:List I3) (a:Option Addr) (cap i:Nat) (wr:World) (ms1:Mm) (s1:Sb) (av1 kv1:Value) (vs1:By->Value) (r1:Rv):Prop where
  dd:∀ br s2 b,Bc ss ts C.n ms1 s1 st (.tri is i s.R.length) br s2 b->Bc ss ts C.n ms s st (.tri is 0 s.R.length) br s2 b
  pre:Fd ss ts C.n ms1 s1 st r1.sn (200*(s.R.length-i))
  sn:r1.sn+400200*Dd ts ms st<=r.sn+200*i+400200*Dd ts ms1 st
  bs:Kz W0.heap.size h mb C sv tv ss ts wr ms1 st av1 kv1 vs1 s1 r1
  kq:KQ W0.heap.size h mb C av kv r r1 w wr
  ra:Ak w av av1
  rk:Ak w kv kv1
  rx:∃ rr,s1.R=s.R++rr
  ab:wr.heap[w.heap.size]?=some (.cells #[.slice a is.length cap] 94 (0,0))
  rb:wr.heap[w.heap.size+1]?=some (.cells #[I 0,ze,nS] 105 (0,0))
theorem TkI.bl {mb:Nat} {ss:List S2} {ts:List T2} {av1 kv1:Value} {vs1:By->Value} {r1:Rv} (q:TkI W0 h mb C sv tv ss ts w ms s st av kv r is a cap i wr ms1 s1 av1 kv1 vs1 r1) (hb:Bw wr w') (hB:W0.heap.size<=wr.heap.size):TkI W0 h mb C sv tv ss ts w ms s st av kv r is a cap i w' ms1 s1 av1 kv1 vs1 r1:=
  ⟨q.dd,q.pre,q.sn,q.bs.bl hb,q.kq.after q.ra q.rk q.bs hb hB,q.ra,q.rk,q.rx,Ab hb q.ab,Ab hb q.rb⟩
theorem Ym {rr:List T3} (h:i<R.length):qx (R++rr) i=qx R i:=by
  exact qmh
structure HoI (W0:World) (h mb:Nat) (C:Ep) (sv tv:Value) (ss:List S2) (ts:List T2) (w:World) (ms:Mm) (s:Sb) (st:List By) (av kv:Value) (r:Rv) (is:List I3) (a:Option Addr) (cap i:Nat) (ms1:Mm) (s1:Sb) (ls:List G3) (P X ml:Nat) (pv lv:Value) (ot:By) (rc:Int) (rt:By) (zs:List Value) (k:Nat) (wr:World) (br:Mm) (s2:Sb) (av2 kv2:Value) (vs2:By->Value) (r2:Rv):Prop where
  dd:∀ kt s3 b,Bc ss ts C.n br s2 st (.holds ls k) kt s3 b->Bc ss ts C.n ms1 s1 st (.holds ls 0) kt s3 b
  eq:Eqs ss ts C.n br ls k
  pre:Fd ss ts C.n br s2 st r2.sn (200*(s.R.length-i)-k)
  sn:r2.sn+400200*Dd ts ms st<=r.sn+200*i+k+400200*Dd ts br st
  bs:Kz W0.heap.size h mb C sv tv ss ts wr br st av2 kv2 vs2 s2 r2
  kq:KQ W0.heap.size h mb C av kv r r2 w wr
  ra:Ak w av av2
  rk:Ak w kv kv2
  rx:∃ rr,s2.R=s.R++rr
  ab:wr.heap[w.heap.size]?=some (.cells #[.slice a is.length cap] 94 (0,0))
  rb:wr.heap[w.heap.size+1]?=some (.cells #[I 0,ze,nS] 105 (0,0))
  pb:wr.heap[P]?=some (.cells #[pv,lv,.string ot] 97 (0,0))
  fp:Fre h mb C av2 kv2 r2 P
  xb:wr.heap[X]?=some (.cells #[I rc,.string rt,nS] 105 (0,0))
  lr:wr.ownsRow W0.heap.size 125 3 lv ml zs
theorem HoI.kq2 {mb:Nat} {ss:List S2} {ts:List T2} {ls:List G3} {P X ml:Nat} {pv lv:Value} {ot:By} {rc:Int} {rt:By} {k k':Nat} {br kt:Mm} {s2 s3:Sb} {av2 kv2 av3 kv3:Value} {vs2 vs3:By->Value} {r2 r3:Rv} (q:HoI W0 h mb C sv tv ss ts w ms s st av kv r is a cap i ms1 s1 ls P X ml pv lv ot rc rt zs k wr br s2 av2 kv2 vs2 r2) (K:KQ W0.heap.size h mb C av2 kv2 r2 r3 wr w') (ha:Ak wr av2 av3) (hk:Ak wr kv2 kv3) (b3:Kz W0.heap.size h mb C sv tv ss ts w' kt st av3 kv3 vs3 s3 r3)
    (dd:∀ ms4 s4 b,Bc ss ts C.n kt s3 st (.holds ls k') ms4 s4 b->Bc ss ts C.n ms1 s1 st (.holds ls 0) ms4 s4 b) (eq:Eqs ss ts C.n kt ls k') (pre:Fd ss ts C.n kt s3 st r3.sn (200*(s.R.length-i)-k')) (sn:r3.sn+400200*Dd ts ms st<=r.sn+200*i+k'+400200*Dd ts kt st) (rx:∃ rr,s3.R=s.R++rr):HoI W0 h mb C sv tv ss ts w ms s st av kv r is a cap i ms1 s1 ls P X ml pv lv ot rc rt zs k' w' kt s3 av3 kv3 vs3 r3:=
  ⟨dd,eq,pre,sn,b3,q.kq.trans q.ra q.rk q.bs K,q.ra.trans q.kq.bel.size ha,q.rk.trans q.kq.bel.size hk,rx,K.blk q.bs q.ab qd,K.blk q.bs q.rb qd,K.keepF q.pb q.fp,K.fre ha hk (Af q.pb) q.fp,K.blk q.bs q.xb qd,K.ownK q.bs q.lr qd⟩
theorem take_any (W0:World) (h mb:Nat) (C:Ep) (sa ta:Option Addr) (c1 c2:Nat) (ss:List S2) (ts:List T2) (hE:Ir W0 sa ta ss ts) (st:List By) (hU:Gx W0 h mb C (.slice sa ss.length c1) (.slice ta ts.length c2) ss ts st) (ms:Mm) (s:Sb) (av kv:Value) (vs:By->Value) (r:Rv) (a:Option Addr) (cap:Nat) (is:List I3) (w:World) (q:Kz W0.heap.size h mb C (.slice sa ss.length c1) (.slice ta ts.length c2) ss ts w ms st av kv vs s r) (hp:Fd ss ts C.n ms s st r.sn (200*s.R.length)) (hW:Bw W0 w) (hr:Cj W0 a is) (B1:is.length<=200) :
    Calls prog 127 #[.pointer (p_ C.hb),.agg #[.slice a is.length cap]] w fun e w'=>TakeB W0.heap.size h mb C (.slice sa ss.length c1) (.slice ta ts.length c2) ss ts ms s st av kv r is w e w':=by
  have fy:=hW.size;obtain⟨W,eW⟩:=Ai ((w.alloc (.cells #[.slice a is.length cap] 94)).alloc (.cells #[I 0,ze,nS] 105));have bn:Bw w W:=qbq
  have HAB:Hd (W.heap[w.heap.size]?=some (.cells #[.slice a is.length cap] 94 (0,0))):=by
    exact qdo
  have kh:Hd (W.heap[w.heap.size+1]?=some (.cells #[I 0,ze,nS] 105 (0,0))):=by
    show _=_;rw[<- eW];have:=Gq (w.alloc (.cells #[.slice a is.length cap] 94)) (.cells #[I 0,ze,nS] 105)
    rwa [show (w.alloc (.cells #[.slice a is.length cap] 94)).heap.size=w.heap.size+1 from qg] at this
  have HQ:=hid q;have zq:=hid (q.bl bn);have HI0:Hd (TkI W0 h mb C (.slice sa ss.length c1) (.slice ta ts.length c2) ss ts w ms s st av kv r is a cap 0 W ms s av kv vs r):=⟨fun _ _ _ k=>k,hp,qb,zq.o,KQ.of_below q bn fy,Ak.refl _ _,Ak.refl _ _,⟨[],qg⟩,HAB.o,kh.o⟩;obtain⟨zs,cv,lv,qr⟩:=q.rs.qs;obtain⟨qa,qc,eqv⟩:=Aw qr.row;obtain⟨y0,-,-,-,-,-,-,-,-,-,y2,-⟩:=zq.o.rs.cellsB;rw[eqv] at y2;obtain⟨m,em⟩:=Ai s.R.length;rw[em] at y2 eqv;have EQV:=hid eqv;have EM:=hid em;have sw:m<=2000:=by rw[← em];exact hp.ok.2.1
  have HE:=hid hE;have HW:=hid hW;have HU:=hid hU;have HRW:=hid hr;clear q hp hW hr hE hU bn qr eqv zq em;go_enter func127,ntmps127;go_wp2_with fail;refine wp_scope_straight (wp_seq (wp_label ?_));simp only[Exit.then];go_wp2_with fail;clear eW y0 y2
  go_loopw [23] (fun v wr=>∃(i:Nat) (ms1:Mm) (s1:Sb) (av1 kv1:Value) (vs1:By->Value) (r1:Rv),i<=m/\v=I i/\Hd (TkI W0 h mb C (.slice sa ss.length c1) (.slice ta ts.length c2) ss ts w ms s st av kv r is a cap i wr ms1 s1 av1 kv1 vs1 r1)) (fun i _=>m-(intOf i).toNat)
  case atStart=>exact⟨0,ms,s,av,kv,vs,r,Nat.zero_le _,rfl,HI0⟩
  case round=>
    clear HI0 HAB kh;obtain⟨i,ms1,s1,av1,kv1,vs1,r1,hi,rfl,HI⟩:=hrel;have hwr:=HI.o.kq.bel.size
    by_cases aj:i<m
    rotate_left 1
    · have je:¬ (i:Int)<(m:Int):=qb
      have HY:=hid (HI.o.dd _ _ _ (.tend (ss:=ss) (ts:=ts) (n:=C.n) (ms:=ms1) (s:=s1) (st:=st) (is:=is) (i:=i) (m:=s.R.length) qcb));obtain⟨z0,z1,z2,zf⟩:=Ea HI.o.rb;go_wp2_with fail;obtain⟨y0,y1,y2,_⟩:=Ea (Bi HI.o.rb (I 0) ze nS);refine bR (v:=.tuple #[.agg #[I 0,ze,nS],.bool false]) (by simp[results,results127,go_sem,y0,y1,y2]) rfl (Or.inl ⟨ms1,s1,av1,kv1,vs1,r1,Or.inr ⟨HY.o,rfl⟩,HI.o.bs.set3 HI.o.rb qd _ _ _,HI.o.kq.set3 qb qb _ _ _,HI.o.ra,HI.o.rk,?_⟩);have:=HI.o.sn;have:=EM.o;have hi2:i<=s.R.length:=qb;omega
    have je:(i:Int)<(m:Int):=qb;have jm:(0:Int)<=(i:Int):=qb;have hiR:i<s.R.length:=qca;obtain⟨rr,err⟩:=HI.o.rx;(have hqx:qx s1.R i=qx s.R i:=by rw[err];exact Ym hiR);(have hi1:i<s1.R.length:=by rw[err,List.length_append];omega);obtain⟨g,cp,ca,cc,la,lc,eq2,g1,g2,g3,wf,zs,l1,l2⟩:=HI.o.kq.recAt HQ.o hiR;rw[EQV.o,EM.o] at eq2
    obtain⟨rfl,rfl⟩:qa=p_ g/\qc=cp:=by
      simp only[Value.slice.injEq,true_and] at eq2;exact eq2
    have oh:=hid (HI.o.pre.ok.2.2 i hi1);have jl:Hd (Uv C.n s1 is i↔((qx s1.R i).code=is/\Yl (Lg C.n s1.T (qx s1.R i).out))):=Iff.rfl;have HOTH:Hd (¬ Uv C.n s1 is i->∀ br s2 b,Bc ss ts C.n ms1 s1 st (.tri is (i+1) s.R.length) br s2 b->Bc ss ts C.n ms s st (.tri is 0 s.R.length) br s2 b):=fun q1 br s2 b q2=>HI.o.dd _ _ _ (.tother hiR q1 q2);have vh:Hd (Uv C.n s1 is i->∀ br s2,Bc ss ts C.n ms1 s1 st (.holds (qx s1.R i).looks 0) br s2 .yes->Bc ss ts C.n ms s st (.tri is 0 s.R.length) br s2 (.hit (rdC (Lg C.n s1.T (qx s1.R i).out)) (rdT (Lg C.n s1.T (qx s1.R i).out)))):=fun q1 br s2 q2=>HI.o.dd _ _ _ (.thit hiR q1 q2);have jo:Hd (Uv C.n s1 is i->∀ br s2,Bc ss ts C.n ms1 s1 st (.holds (qx s1.R i).looks 0) br s2 .no->∀ kt s3 b,Bc ss ts C.n br s2 st (.tri is (i+1) s.R.length) kt s3 b->Bc ss ts C.n ms s st (.tri is 0 s.R.length) kt s3 b):=fun q1 br s2 q2 kt s3 b q3=>HI.o.dd _ _ _ (.tno hiR q1 q2 q3);have vo:Hd (Uv C.n s1 is i->∀ br s2 b,Bc ss ts C.n ms1 s1 st (.holds (qx s1.R i).looks 0) br s2 (.bad b)->Bc ss ts C.n ms s st (.tri is 0 s.R.length) br s2 (.bad b)):=fun q1 br s2 b q2=>HI.o.dd _ _ _ (.tbad hiR q1 q2);obtain⟨dg,dcp,db,edv,hdc,hdn,hdf⟩:=HI.o.bs.dfAt hi1;have HDN:=hid hdn
    have yr:Hd (∀ V:World,Bw wr V->¬ Uv C.n s1 is i\/NoH ss ts C.n ms1 (qx s1.R i).looks->TkI W0 h mb C (.slice sa ss.length c1) (.slice ta ts.length c2) ss ts w ms s st av kv r is a cap (i+1) V ms1 s1 av1 kv1 vs1 r1):=fun V hV hA=>by
      have q:=HI.o.bl hV qb;refine⟨fun br s2 b k=>?_,q.pre.le qb,by have:=q.sn;omega,q.bs,q.kq,q.ra,q.rk,q.rx,q.ab,q.rb⟩
      by_cases jp:Uv C.n s1 is i
      · rcases hA with hA|hA
        · exact absurd jp hA
        · exact jo.o jp ms1 s1 (hA.bld s1 st) _ _ _ k
      · exact HOTH.o jp _ _ _ k
    rw[← hqx] at g1 g2 g3 wf l1 l2;obtain⟨cd,ls,ot,erx⟩:∃ x y z,qx s1.R i=⟨x,y,z⟩:=⟨_,_,_,rfl⟩;rw[erx] at g1 g2 g3 wf l1 l2 oh jl vh jo vo HDN yr;dsimp only at g1 g2 g3 wf l1 l2 oh jl vh jo vo HDN yr;have X2:=hid l1;have O0:=hid l2;have ig:=hid wf;have HQX:=hid erx;have HI1:=hid hi1;have hcdl:=(Ko oh.o.1).2;clear l1 l2 wf erx hqx err hdn HOTH;obtain⟨P,eP⟩:=Ai wr.heap.size;obtain⟨wC,eWC⟩:=Ai (wr.alloc (.cells #[.slice ca cd.length cc,.slice la ls.length lc,.string ot] 97));have ja:=aB eWC;have X5:=hid ja;have Ge:=hid (nW eWC eP);have HIC:=hid (HI.o.bl ja qb);have HFP:Hd (Fre h mb C av1 kv1 r1 P):=HI.o.bs.fresh qb;(have hPw:w.heap.size+1<P:=by rw[← eP];exact Af HI.o.rb);obtain⟨d0,d1,d2⟩:=Bb Ge.o;obtain⟨y0,-,-,-,-,-,y6,-⟩:=HIC.o.bs.rs.cellsB;rw[edv] at y6;have p0:=Ho HIC.o.ab;have hdc':=Aa ja hdc;have hiI:(i:Int)<(s1.R.length:Int):=qb;clear ja hdc hdf edv;have HDC:=hid hdc';have HHB:=hid y0
    cases db with
    | true=>
      have ph:=hid (yr.o wC X5.o (Or.inr (HDN.o rfl)))
      go_upto_region 4 with fail
      clear eWC g1 g2 g3 yr jl vh jo vo HDN oh X2 O0 ig HQX Ge HIC HFP d0 d1 d2 p0
      go_upto_region 16 with fail
      clear y0 y6 hdc';go_wp2_with fail;exact⟨⟨i+1,ms1,s1,av1,kv1,vs1,r1,qb,qj,ph.o⟩,qar⟩
    | false=>
      go_upto_region 4 with fail
      clear eWC g1 g2 g3;go_wp2_with fail;clear d0 d1 d2 p0 y0 y6 hdc';refine(equal_any ca a cc cap cd is wC (ig.o.bl X5.o) (HRW.o.bl (HW.o.trans HIC.o.kq.bel)) qb qb).mono ?_;rintro e w1 ⟨af,bb,rfl,hbb⟩;have HBI:=hid hbb;have fw:=hid (Ay X5.o af);have HI1C:=hid (HIC.o.bl af (zo X5.o.size));have jz:=hid (Ab af Ge.o);have hP1:=Af jz.o;clear af hbb ig
      cases bb with
      | false=>
        (have HNA:Hd (¬ Uv C.n s1 is i):=fun q=>by have:=HBI.o.2 (jl.o.1 q).1;cases this);have ph:=hid (yr.o w1 fw.o (Or.inl HNA.o));clear HBI yr jl vh jo vo HDN oh X2 O0 HQX Ge HIC HFP HI1C jz HNA;exact qki
      | true=>
        have N9:Hd (cd=is):=HBI.o.1 rfl;clear HBI;obtain⟨U,eU⟩:=Ai w1.drew;have bm:Bw w1 U:=qax;have tr:=hid (Ay fw.o bm);have HIU:=hid (HI1C.o.bl bm (zo fw.o.size));have HPU:=hid (Ab bm jz.o);obtain⟨-,-,d2⟩:=Bb HPU.o;obtain⟨y0,-⟩:=HIU.o.bs.rs.cellsB;have HG:=hid (HIU.o.bs.get HIU.o.pre.ok ot);clear bm HI1C jz
        go_upto_region 5 with fail
        refine Lt.begin 99 (fun w'=>w'=U) qi ?_;rw[eU];clear eU;have hS:U=U:=rfl;change K 0 _
        iterate 6
         refine Lt.ti (v:=?_) hS ?_ ?_;rotate_left 1
         · rintro w rfl
           exact qbm
         simp only[gX]
        refine Lt.sp (i:=6) (fun K hK=>?_);go_simp;refine HG.o.mono ?_;rintro e w2 ⟨G6,A,ok,rfl,hA,hAs⟩;subst G6;have EA:=hid hA;clear hA;refine hK.out _ _ (fun _=>hS) (fun _=>?_);clear hK K 
        try simp only[gX]
        change K 7 _
        iterate 5
         refine Lt.ti (v:=?_) hS ?_ ?_;rotate_left 1
         · rintro w rfl
           exact qbm
         simp only[gX]
        refine Lt.done qi ?_ _;clear y0 d2 HG hS;go_wp2_with fail;refine(Zh A _ hAs).mono ?_;rintro e w3 ⟨aw,⟨xy,rfl⟩|⟨xy,rfl⟩⟩;rotate_left 1
        · have HNA:Hd (¬ Uv C.n s1 is i):=fun q=>xy (by rw[EA.o];exact(jl.o.1 q).2)
          have ph:=hid (yr.o _ (Ay tr.o (Ay aw (Ag w3 (.cells #[I 0,ze,nS] 105)))) (Or.inl HNA.o));clear yr jl vh jo vo HDN oh X2 O0 HQX Ge HIC HFP HIU HPU HNA xy aw EA;exact qki
        have vp:Hd (Uv C.n s1 is i):=jl.o.2 ⟨N9.o,by rw[← EA.o];exact xy⟩;obtain⟨rc,erc⟩:=Ai (rdC A);obtain⟨rt,ert⟩:=Ai (rdT A);have EA2:Hd (Lg C.n s1.T ot=A/\rdC A=rc/\rdT A=rt):=⟨EA.o.symm,erc,ert⟩;rw[erc,ert];clear erc ert hAs EA
        go_upto_region 8 with fail
        obtain⟨w4,e4⟩:=Ai (w3.alloc (.cells #[I rc,.string rt,nS] 105));rw[e4];have cj:=aB e4;(have HXB:Hd (w4.heap[w3.heap.size]?=some (.cells #[I rc,.string rt,nS] 105 (0,0))):=by show _=_;rw[← e4];exact Gq _ _);have hb34:=Ay aw cj;have xr:=hid (Ay tr.o hb34);have HI4:=hid (HIU.o.bl hb34 (zo tr.o.size));have HP4:=hid (Ab hb34 HPU.o);have ve:=hid (Ac X2.o xr.o);(have hPX:P<w3.heap.size:=by have:=Af HPU.o;have:=aw.size;omega);obtain⟨-,d1,-⟩:=Bb HP4.o;have HHIT2:=hid (vh.o vp.o);have U0:=hid (jo.o vp.o);have HBAD2:=hid (vo.o vp.o);rw[EA2.o.1,EA2.o.2.1,EA2.o.2.2] at HHIT2;clear xy aw cj hb34 EA2 vh jo vo jl HPU HIU Ge HIC X2 tr fw X5 N9 HDN e4;obtain⟨ml,eml⟩:=Ai ls.length;have EML:=hid eml;(have wu:ml<=200:=by rw[← eml];exact oh.o.2.2.1);rw[eml] at d1 HP4 ve ⊢;clear eml;obtain⟨X,eX⟩:=Ai w3.heap.size;rw[eX] at HXB hPX ⊢;clear eX;go_wp2_with fail;clear d1;have HH0:Hd (HoI W0 h mb C (.slice sa ss.length c1) (.slice ta ts.length c2) ss ts w ms s st av kv r is a cap i ms1 s1 ls P X ml (.slice ca cd.length cc) (.slice la ml lc) ot rc rt zs 0 w4 ms1 s1 av1 kv1 vs1 r1):=⟨fun _ _ _ k=>k,(fun j hj=>qb),HI4.o.pre,by have:=HI4.o.sn;omega,HI4.o.bs,HI4.o.kq,HI4.o.ra,HI4.o.rk,HI4.o.rx,HI4.o.ab,HI4.o.rb,HP4.o,HFP.o,HXB.o,ve.o⟩;have HGS:Hd (GsOk ls):=⟨oh.o.2.2.1,fun j hj=>(oh.o.2.2.2 j hj).1⟩;clear HI4 HP4 ve HXB HFP oh xr yr vp
        go_loopw [64] (fun v wx=>∃(k:Nat) (br:Mm) (s2:Sb) (av2 kv2:Value) (vs2:By->Value) (r2:Rv),k<=ml/\v=I k/\Hd (HoI W0 h mb C (.slice sa ss.length c1) (.slice ta ts.length c2) ss ts w ms s st av kv r is a cap i ms1 s1 ls P X ml (.slice ca cd.length cc) (.slice la ml lc) ot rc rt zs k wx br s2 av2 kv2 vs2 r2)) (fun v _=>ml-(intOf v).toNat)
        case atStart=>exact⟨0,ms1,s1,av1,kv1,vs1,r1,Nat.zero_le _,rfl,HH0⟩
        case round=>
          clear HH0;obtain⟨k,br,s2,av2,kv2,vs2,r2,hk,rfl,HH⟩:=hrel;have hwx:=HH.o.kq.bel.size;obtain⟨rr2,err2⟩:=HH.o.rx;(have hi2:i<s2.R.length:=by rw[err2,List.length_append];have:=EM.o;omega);have G0:=hid hi2
          by_cases sy:k<ml
          rotate_left 1
          · have hkJ:¬ (k:Int)<(ml:Int):=qb
            have HY:=hid (HHIT2.o _ _ (HH.o.dd _ _ _ (.hend (ss:=ss) (ts:=ts) (n:=C.n) (ms:=br) (s:=s2) (st:=st) (gs:=ls) (k:=k) (by rw[EML.o];omega))));obtain⟨ug,ucp,ub,eu,hu,huf⟩:=HH.o.bs.usAt hi2;obtain⟨-,-,-,y3,-⟩:=HH.o.bs.rs.cellsB;rw[eu] at y3;have hiI2:(i:Int)<(s2.R.length:Int):=qb;obtain⟨sU,kU⟩:=HH.o.bs.setUs eu hi2;have xU:=kU.blk HH.o.bs HH.o.xb qd;have rU:=kU.blk HH.o.bs HH.o.rb qd;have kqU:=HH.o.kq.trans HH.o.ra HH.o.rk HH.o.bs kU;have HZ:Hd (Kz W0.heap.size h mb C (.slice sa ss.length c1) (.slice ta ts.length c2) ss ts (wr.setCell ⟨ug,i,none⟩ (.bool true)) br st av2 kv2 vs2 s2 r2/\KQ W0.heap.size h mb C av kv r r2 w (wr.setCell ⟨ug,i,none⟩ (.bool true))/\(wr.setCell ⟨ug,i,none⟩ (.bool true)).heap[w.heap.size+1]?=some (.cells #[I 0,ze,nS] 105 (0,0))):=⟨sU,kqU,rU⟩;obtain⟨x0,x1,x2,-⟩:=Ea xU;obtain⟨q0,q1,q2,qf⟩:=Ea rU;clear sU kU xU rU kqU eu err2;go_wp2_with fail;obtain⟨v0,v1,v2,_⟩:=Ea (Bi HZ.o.2.2 (I rc) (.string rt) nS);refine bR (v:=.tuple #[.agg #[I rc,.string rt,nS],.bool true]) (by simp[results,results127,go_sem,v0,v1,v2]) rfl (Or.inl ⟨br,s2,av2,kv2,vs2,r2,Or.inl ⟨rc,rt,HY.o,rfl⟩,HZ.o.1.set3 HZ.o.2.2 qd _ _ _,HZ.o.2.1.set3 qb qb _ _ _,HH.o.ra,HH.o.rk,?_⟩);have h1:=HH.o.sn;have h2:=EM.o;have h3:200*i+200<=200*s.R.length:=qb;omega
          have hkJ:(k:Int)<(ml:Int):=qb;have hkJ0:(0:Int)<=(k:Int):=qb;have A8:k<ls.length:=qcr;obtain⟨a2,cc2,e2,H8⟩:=Fp (by rw[EML.o];exact HH.o.lr) O0.o;rw[EML.o] at e2;cases e2;obtain⟨gb,goff,rfl,g1,g2,g3⟩:=H8 k A8;have HNMk:=hid (HGS.o.2 k A8);obtain⟨x,ex⟩:=Ai ((gx ls k).name);obtain⟨y,ey⟩:=Ai ((gx ls k).ask);obtain⟨z,ez⟩:=Ai ((gx ls k).sum);have EG:Hd ((gx ls k).name=x/\(gx ls k).ask=y/\(gx ls k).sum=z):=⟨ex,ey,ez⟩;(have pq:Hd (Am x):=by show Am x;rw[← ex];exact HNMk.o);rw[ex] at g1;rw[ey] at g2;rw[ez] at g3;clear ex ey ez H8 HNMk err2;obtain⟨G,eG⟩:=Ai wr.heap.size;obtain⟨wG,eWG⟩:=Ai (wr.alloc (.cells #[.string x,.bool y,.string z] 125));have yj:=aB eWG;have U6:=hid (nW eWG eG);obtain⟨U,eU⟩:=Ai wG.drew;(have bm:Bw wr U:=by rw[← eU];exact yj.drew);(have HGU:Hd (U.heap[G]?=some (.cells #[.string x,.bool y,.string z] 125 (0,0))):=by show _=_;rw[← eU];exact U6.o);have dw:=hid (HH.o.bs.bl bm);have jw:=hid (HH.o.kq.after HH.o.ra HH.o.rk HH.o.bs bm qb);have O2:=hid (HH.o.kq2 (KQ.of_below HH.o.bs bm qb) (Ak.refl _ _) (Ak.refl _ _) dw.o HH.o.dd HH.o.eq HH.o.pre HH.o.sn HH.o.rx);have yn:=hid (sumAt_any W0 h mb C sa ta c1 c2 ss ts br st av2 kv2 vs2 s2 r2 x y U HE.o dw.o (HW.o.trans jw.o.bel) HU.o (HH.o.pre.le qb) pq.o)
          go_upto_region 11 with fail
          clear eWG g1 g2 g3 yj U6 bm;refine Lt.begin 99 (fun w'=>w'.heap[G]?=some (.cells #[.string x,.bool y,.string z] 125 (0,0))) qi ?_;rw[eU];clear eU;change K 0 _
          iterate 6
           refine Lt.ti (v:=?_) HGU.o ?_ ?_;rotate_left 1
           · exact qdd
           simp only[gX]
          change K 7 _
          iterate 2
           refine Lt.ti (v:=?_) HGU.o ?_ ?_;rotate_left 1
           · exact qdd
           simp only[gX]
          refine Lt.sp (i:=6) (fun K hK=>?_);go_simp;refine yn.o.mono ?_;rintro e w8 (⟨v,rfl,kt,s3,f,av3,kv3,vs3,r3,rfl,hse,Y3,lq,W4,ry,xx⟩|⟨v,rfl,b,r3,kt,s3,lq,hy8,hf8⟩);rotate_left 1
          · have vi:Hd (KQ W0.heap.size h mb C av kv r r3 w w8/\Bc ss ts C.n ms s st (.tri is 0 s.R.length) kt s3 (.bad b)/\Db W0.heap.size C w8 b v):=⟨jw.o.trans HH.o.ra HH.o.rk dw.o lq,HBAD2.o _ _ _ (HH.o.dd _ _ _ (.haskbad qcr (EG.o.2.1.trans hy8.1) (by rw[EG.o.1];exact hy8.2))),hf8⟩
            clear lq hy8 hf8;unfold Kq;go_wp2_with fail;exact⟨rfl,Or.inr ⟨b,v,r3,kt,s3,rfl,vi.o.1,vi.o.2.1,vi.o.2.2⟩⟩
          have HG8:Hd (w8.heap[G]?=some (.cells #[.string x,.bool y,.string z] 125 (0,0))):=lq.blkK dw.o HGU.o qd;obtain⟨M3,E9,hfs⟩:=hse.said HE.o.v HH.o.pre.inv HH.o.pre.ok pq.o;have HSD:Hd (Ji ss ts kt (gx ls k).name (gx ls k).ask=some f/\Ext br kt):=⟨by rw[EG.o.1,EG.o.2.1];exact M3,E9⟩;have uu:=hid (hse.pre HE.o.v HH.o.pre pq.o (zo EM.o) xx);have HSE:=hid hse;have gq:Hd (Kz W0.heap.size h mb C (.slice sa ss.length c1) (.slice ta ts.length c2) ss ts w8 kt st av3 kv3 vs3 s3 r3/\KQ W0.heap.size h mb C av2 kv2 r2 r3 U w8/\Ak U av2 av3/\Ak U kv2 kv3/\r3.sn+400200*Dd ts br st<=r2.sn+1+400200*Dd ts kt st):=⟨Y3,lq,W4,ry,xx⟩
          have HRX3:Hd (∃ rr,s3.R=s.R++rr):=by
            show ∃ rr,_
            rcases HSE.o with ⟨_,_,e3,_⟩|⟨_,d,hb,_⟩
            · rw[e3];exact HH.o.rx
            · obtain⟨q1,e1⟩:=(hb.inv HE.o.v HH.o.pre.inv HH.o.pre.ok pq.o (fun b e=>qu)).2.2.1.recs
              obtain⟨q2,e2⟩:=HH.o.rx;exact⟨q2++q1,by rw[e1,e2,List.append_assoc]⟩
          obtain⟨sm,esm⟩:=Ai (Ap C.n f);have ESM:=hid esm;rw[esm];clear M3 E9 hfs hse Y3 lq W4 ry xx esm;refine hK.out _ _ (fun _=>HG8.o) (fun _=>?_);clear hK K 
          try simp only[gX]
          by_cases hq:sm=z
          · have dq:=Cw hq
            refine Lt.ti (i:=9) (v:=?_) HG8.o ?_ ?_;rotate_left 1
            · exact qdd
            simp only[gX];refine Lt.done qi ?_ _;have HQE:=hid hq;clear dq hq;go_wp2_with fail;refine⟨⟨k+1,kt,s3,av3,kv3,vs3,r3,qb,qj,O2.o.kq2 gq.o.2.1 gq.o.2.2.1 gq.o.2.2.2.1 gq.o.1 (fun ms4 s4 b q=>HH.o.dd _ _ _ ?_) ((HH.o.eq.ext HSD.o.2).succ HSD.o.1 (by rw[ESM.o,HQE.o,EG.o.2.2])) (by have:=uu.o;rwa [Nat.sub_sub] at this) (by have:=HH.o.sn;have:=gq.o.2.2.2.2;omega) HRX3.o⟩,qar⟩;have A8:k<ls.length:=qcr
            rcases HSE.o with ⟨e1,rfl,rfl,e4⟩|⟨e1,d,hb,e4⟩
            · exact .hhas A8 (EG.o.2.1.trans e1) (by rw[EG.o.1,← e4,ESM.o,HQE.o,EG.o.2.2]) q
            · exact .hask A8 (EG.o.2.1.trans e1) (by rw[EG.o.1];exact hb) (by rw[← e4,ESM.o,HQE.o,EG.o.2.2]) q
          · have dq:=Gl hq
            refine Lt.ti (i:=9) (v:=?_) HG8.o ?_ ?_;rotate_left 1
            · exact qdd
            simp only[gX];refine Lt.done qi ?_ _;obtain⟨rr3,err3⟩:=HRX3.o;(have hi3:i<s3.R.length:=by rw[err3,List.length_append];have:=EM.o;omega);obtain⟨rr1,err1⟩:=HI.o.rx
            have hqx3:qx s3.R i=⟨cd,ls,ot⟩:=by
              (have e1:qx s1.R i=qx s.R i:=by rw[err1];exact Ym hiR);rw[err3,Ym hiR,← e1];exact HQX.o
            have hnoh:NoH ss ts C.n kt (qx s3.R i).looks:=by
              rw[hqx3];exact⟨k,qcr,HH.o.eq.ext HSD.o.2,f,HSD.o.1,by rw[ESM.o,EG.o.2.2];exact hq⟩
            have gk:Bc ss ts C.n ms1 s1 st (.holds ls 0) kt s3 .no:=by
              have A8:k<ls.length:=qcr;refine HH.o.dd _ _ _ ?_
              rcases HSE.o with ⟨e1,rfl,rfl,e4⟩|⟨e1,d,hb,e4⟩
              · exact .hhasno A8 (EG.o.2.1.trans e1) (by rw[EG.o.1,← e4,ESM.o,EG.o.2.2];exact hq)
              · exact .haskno A8 (EG.o.2.1.trans e1) (by rw[EG.o.1];exact hb) (by rw[← e4,ESM.o,EG.o.2.2];exact hq)
            obtain⟨dg3,dcp3,db3,ed3,hd3,hdn3,hdf3⟩:=gq.o.1.dfAt hi3;obtain⟨sD,kD⟩:=gq.o.1.setDf ed3 hi3 hnoh;have kq8:=O2.o.kq.trans O2.o.ra O2.o.rk O2.o.bs gq.o.2.1;have ra8:=O2.o.ra.trans O2.o.kq.bel.size gq.o.2.2.1;have rk8:=O2.o.rk.trans O2.o.kq.bel.size gq.o.2.2.2.1;have ab8:=gq.o.2.1.blk O2.o.bs O2.o.ab qd;have rb8:=gq.o.2.1.blk O2.o.bs O2.o.rb qd;have ph:Hd (TkI W0 h mb C (.slice sa ss.length c1) (.slice ta ts.length c2) ss ts w ms s st av kv r is a cap (i+1) (w8.setCell ⟨dg3,i,none⟩ (.bool true)) kt s3 av3 kv3 vs3 r3):=⟨fun ms4 s4 b q=>U0.o _ _ gk _ _ _ q,uu.o.le (zo EM.o),by have:=HH.o.sn;have:=gq.o.2.2.2.2;omega,sD,kq8.trans ra8 rk8 gq.o.1 kD,ra8,rk8,HRX3.o,kD.blk gq.o.1 ab8 qd,kD.blk gq.o.1 rb8 qd⟩;obtain⟨-,-,-,-,-,-,y6,-⟩:=gq.o.1.rs.cellsB;rw[ed3] at y6;have hiI3:(i:Int)<(s3.R.length:Int):=qb;have hiz:(0:Int)<=(i:Int):=qb;clear dq hq kq8 ra8 rk8 ab8 rb8 sD kD gk hnoh hqx3 err1 err3 ed3 hdn3 HG8 HSE HSD uu gq O2 dw jw yn HHIT2 U0 HBAD2 HH HRX3
            go_upto_region 16 with fail
            go_wp2_with fail;exact⟨⟨i+1,kt,s3,av3,kv3,vs3,r3,qb,qj,ph.o⟩,qar⟩
structure Lm (w:World) (g lo hi n:Nat) (sv tv qv:Value) (ss ts:List By):Prop where
  blk:w.heap[g]?=some (.cells #[I (n:Int),tv,qv,sv] 149 (0,0))
  sx:Dq w lo hi sv ss
  tx:Dq w lo hi tv ts
  qs:∃ a l c,qv=.slice a l c
  ne:∀ b,sv.ownBlock=some b→tv.ownBlock≠some b
theorem Lm.bl (h:Lm w g lo hi n sv tv qv ss ts) (hb:Bw w w'):Lm w' g lo hi n sv tv qv ss ts:=⟨Ae h.blk hb,h.sx.bl hb,h.tx.bl hb,h.qs,h.ne⟩
theorem Lm.wide {lo' hi':Nat} (h:Lm w g lo hi n sv tv qv ss ts) (h1:lo' ≤ lo) (h2:hi ≤ hi'):Lm w g lo' hi' n sv tv qv ss ts:=⟨h.blk,h.sx.wide h1 h2,h.tx.wide h1 h2,h.qs,h.ne⟩
theorem Lm.lt (h:Lm w g lo hi n sv tv qv ss ts):g<w.heap.size:=Fa h.blk
theorem Lm.setT {b T:Nat} (h:Lm w g lo hi n sv tv qv ss ts) (ht:Dk w b T) (hg:b≠g) (h9:T≠9) (h1:T≠97) (h2:T≠128) (h3:T≠125) (u:Value):Lm (w.setCell ⟨b,j,none⟩ u) g lo hi n sv tv qv ss ts:=
  ⟨by rw[hC w ⟨b,j,none⟩ u g (by show g≠b;omega)];exact h.blk,h.sx.setT ht h9 u,h.tx.setT ht h9 u,h.qs,h.ne⟩
theorem Lm.insS {ss':List By} (h:Lm w g lo hi n sv tv qv ss ts) (hh:hi ≤ w.heap.size) (hb:Bw w w2) (hl:l3=ss'.length) (ho:w3.ownsRow lo 9 1 (.slice (p_ g3) l3 c3) l3 (ss'.map .string)) (hk:Df sv.ownBlock w2 w3) (hs:w2.heap.size ≤ w3.heap.size) (ct:sv.ownBlock=some g3∨g3=w2.heap.size) :
    Lm (w3.setCell ⟨g,3,none⟩ (.slice (p_ g3) l3 c3)) g lo w3.heap.size n (.slice (p_ g3) l3 c3) tv qv ss' ts:=by
  subst hl;have h2:=h.bl hb;have md:=hb.size;have aj:=h2.lt;have os:=Bg.own h2.sx;have ot:=Bg.own h2.tx
  have kg:w3.heap[g]?=some (.cells #[I (n:Int),tv,qv,sv] 149 (0,0)):=by
    exact qmr
  have ht:Dk w3 g 149:=⟨_,kg⟩;have t3:Dq w3 lo w3.heap.size tv ts:=Dq.wide (Bg.same h2.tx fun b e=>hk b (ot.lt b e).2 (fun e'=>h.ne b e'.symm e)) (Nat.le_refl _) qb;have s3:Dq w3 lo w3.heap.size (.slice (p_ g3) ss'.length c3) ss':=Bg.new ho;refine⟨blk4_s3 kg _,s3.setT ht qd _,t3.setT ht qd _,h.qs,?_⟩;exact qkg
theorem Lm.insT (h:Lm w g lo hi n sv tv qv ss ts) (hh:hi ≤ w.heap.size) (hb:Bw w w2) (hl:l3=ts'.length) (ho:w3.ownsRow lo 9 1 (.slice (p_ g3) l3 c3) l3 (ts'.map .string)) (hk:Df tv.ownBlock w2 w3) (hs:w2.heap.size ≤ w3.heap.size) (ct:tv.ownBlock=some g3∨g3=w2.heap.size) :
    Lm (w3.setCell ⟨g,1,none⟩ (.slice (p_ g3) l3 c3)) g lo w3.heap.size n sv (.slice (p_ g3) l3 c3) qv ss ts':=by
  subst hl;have h2:=h.bl hb;have md:=hb.size;have aj:=h2.lt;have os:=Bg.own h2.sx;have ot:=Bg.own h2.tx
  have kg:w3.heap[g]?=some (.cells #[I (n:Int),tv,qv,sv] 149 (0,0)):=by
    exact qmq
  have ht:Dk w3 g 149:=⟨_,kg⟩;have s3:Dq w3 lo w3.heap.size sv ss:=Dq.wide (Bg.same h2.sx fun b e=>hk b (os.lt b e).2 (fun e'=>h.ne b e e'.symm)) (Nat.le_refl _) qb;have t3:Dq w3 lo w3.heap.size (.slice (p_ g3) ts'.length c3) ts':=Bg.new ho;refine⟨blk4_s1 kg _,s3.setT ht qd _,t3.setT ht qd _,h.qs,?_⟩;exact qkh
theorem Lm.set6T {R:Nat} (h:Lm w g lo hi n sv tv qv ss ts) (ht:Dk w R 142) (hg:R≠g) (u1 u2 u3 u4 u5 u6:Value):Lm ((((((w.setCell ⟨R,0,none⟩ u1).setCell ⟨R,1,none⟩ u2).setCell ⟨R,2,none⟩ u3).setCell ⟨R,3,none⟩ u4).setCell ⟨R,4,none⟩ u5).setCell ⟨R,5,none⟩ u6) g lo hi n sv tv qv ss ts:=
  (((((h.setT ht hg qd qd qd qd u1).setT (ht.set u1) hg qd qd qd qd u2).setT ((ht.set u1).set u2) hg qd qd qd qd u3).setT (((ht.set u1).set u2).set u3) hg qd qd qd qd u4).setT ((((ht.set u1).set u2).set u3).set u4) hg qd qd qd qd u5).setT (((((ht.set u1).set u2).set u3).set u4).set u5) hg qd qd qd qd u6

def Ut (w w':World) (g:Nat) (tv sv:Value):Prop:=∀ b,b<w.heap.size→b≠g→sv.ownBlock≠some b→tv.ownBlock≠some b→w'.heap[b]?=w.heap[b]?
def Ro (w:World) (g lo n:Nat) (sv tv qv:Value) (ts:List By) (x:By) (e:Ending) (w':World):Prop:=
  ∃ r cd ts' A B M0 L9,e=.returned (.agg #[I cd,I 0,nS,nS,.string A,.string B])∧Uu n ts (Ap n x) r∧Im n ts x r cd ts' A B∧Below lo w w'∧Lm w' g lo w'.heap.size n M0 L9 qv (ts'.map (Ap n)) ts'∧Ut w w' g tv sv∧(∀ b,M0.ownBlock=some b→sv.ownBlock=some b∨w.heap.size ≤ b)∧(∀ b,L9.ownBlock=some b→tv.ownBlock=some b∨w.heap.size ≤ b)
theorem Ro.mk {r:Nat} {M0 L9:Value} {A B:By} {cd:Int} (uf:lo ≤ w.heap.size) (hB:Below lo w w') (hR:Dk w' w.heap.size 142) (hp:Uu n ts (Ap n x) r) (hr:Im n ts x r cd ts' A B) (hg:g<w.heap.size)
    (dj:Lm w' g lo w'.heap.size n M0 L9 qv (ts'.map (Ap n)) ts') (hk:Ut w w' g tv sv) (hs:∀ b,M0.ownBlock=some b→sv.ownBlock=some b∨w.heap.size ≤ b) (ht:∀ b,L9.ownBlock=some b→tv.ownBlock=some b∨w.heap.size ≤ b) (u1 u2 u3 u4 u5 u6:Value) :
    Ro w g lo n sv tv qv ts x (.returned (.agg #[I cd,I 0,nS,nS,.string A,.string B])) ((((((w'.setCell ⟨w.heap.size,0,none⟩ u1).setCell ⟨w.heap.size,1,none⟩ u2).setCell ⟨w.heap.size,2,none⟩ u3).setCell ⟨w.heap.size,3,none⟩ u4).setCell ⟨w.heap.size,4,none⟩ u5).setCell ⟨w.heap.size,5,none⟩ u6):=
  ⟨r,cd,ts',A,B,M0,L9,rfl,hp,hr,Ig hB uf _ _ _ _ _ _,Lm.wide (Lm.set6T dj hR qb u1 u2 u3 u4 u5 u6) (Nat.le_refl _) qg,fun b h1 h2 h3 h4=>by rw[Ev qb];exact hk b h1 h2 h3 h4,hs,ht⟩
theorem put_b (g lo hi n:Nat) (ta:Option Addr) (p1:Nat) (sv qv:Value) (ts:List By) (x:By) (w:World) (h1:1 ≤ n) (h8:n ≤ 8) (hx:x.size ≤ 1048576) (hl:ts.length ≤ 5000) (ew:Gf (ts.map (Ap n))) (hlg:lo ≤ g) (hh:hi ≤ w.heap.size) (dj:Lm w g lo hi n sv (.slice ta ts.length p1) qv (ts.map (Ap n)) ts) :
    Calls prog 165 #[.pointer (p_ g),.string x] w fun e w'=>Ro w g lo n sv (.slice ta ts.length p1) qv ts x e w':=by
  obtain⟨sa,sc,esv,hss⟩:=Dq.sl dj.sx;rw[List.length_map] at esv;subst esv;obtain⟨qa,ql,qc,rfl⟩:=dj.qs;have hgl:=Lm.lt dj;have uf:lo ≤ w.heap.size:=qb;obtain⟨W,eW⟩:=Ai (w.alloc (.cells #[I 0,I 0,nS,nS,ze,ze] 142));have ak:Bw w W:=qgb;have HK:Hd (W.heap[w.heap.size]?=some (.cells #[I 0,I 0,nS,nS,ze,ze] 142 (0,0))):=by show _=_;rw[← eW];exact Cm _ _
  have N8:=hid dj;have jk:=hid ew;have gv:=hid hss;obtain⟨c0,c1,c2,c3,cf⟩:=Lk (N8.o.bl ak).blk;obtain⟨sm,esm⟩:=Ai (Ap n x);have po:Hd (∀ W':World,Calls prog 139 #[.string x,I (n:Int)] W' fun e w'=>e=.returned (.string sm)∧Bw W' w'):=fun W'=>by rw[← esm];exact Ie x n W' hx h1 h8
  have ESM:=hid esm
  have HBS:Hd (∀ W':World,Cv W' sa (ts.map (Ap n))→Calls prog 123 #[.slice sa ts.length sc,.string sm] W' fun e w'=>W'=w'∧∃(r:Nat) (b:Bool),e=.returned (.tuple #[I r,.bool b])∧Uu n ts sm r∧(b=true↔(r<ts.length∧Ap n (nx ts r)=sm))):=fun W' hW=>by
    have h:=Sz sa sc (ts.map (Ap n)) sm W' hW (by rw[List.length_map];omega) jk.o;rw[List.length_map] at h;refine h.mono ?_;rintro e w' ⟨rfl,r,b,rfl,k1,k2,k3,k4⟩;refine⟨rfl,r,b,rfl,⟨k1,fun j hj=>?_,fun hj=>?_⟩,?_⟩
    · rw[← Gp n ts j qb];exact k2 j hj
    · rw[← Gp n ts r hj];exact k3 r (Nat.le_refl _) hj
    · rcases k4 with ⟨rfl,k5,k6⟩|⟨rfl,k5⟩
      · exact⟨fun _=>⟨k5,by rw[← Gp n ts r k5];exact k6⟩,fun _=>rfl⟩
      · exact⟨fun h=>absurd h qd,fun h=>absurd ⟨h.1,by rw[Gp n ts r h.1];exact h.2⟩ k5⟩
  clear esm dj ew hss;go_enter func165,ntmps165;go_wp2_with fail;clear eW;refine(po.o _).mono ?_;rintro e w1 ⟨rfl,af⟩;have bg:=bt ak af;have d6:=hid (Ae HK.o af);have ie:=hid (N8.o.bl bg);have eg:=Fa d6.o;clear c0 c1 c2 c3 cf ak af HK;obtain⟨c0,c1,c2,c3,cf⟩:=Lk ie.o.blk;go_wp2_with fail;refine(HBS.o _ (gv.o.bl bg)).mono ?_;rintro e w2 ⟨G6,r,t,rfl,hp,hr⟩;subst G6;have yo:Hd (Uu n ts (Ap n x) r):=by show Uu _ _ _ _;rw[ESM.o];exact hp
  have To:Hd (t=true↔Iv n ts x r):=by show _↔_;unfold Iv;rw[ESM.o];exact hr
  have hrl:=hp.le;clear hp hr HBS po;obtain⟨r0,r1,r2,r3,r4,r5⟩:=Gw d6.o;have rf:=(fun j=>fH d6.o j);have O5:Hd (Dk w1 w.heap.size 142):=⟨_,d6.o⟩;have xj:Hd (Lm w1 g lo w1.heap.size n (.slice sa ts.length sc) (.slice ta ts.length p1) (.slice qa ql qc) (ts.map (Ap n)) ts):=Lm.wide ie.o (Nat.le_refl _) qb;have HKS:Hd (Ut w w1 g (.slice ta ts.length p1) (.slice sa ts.length sc)):=fun b hb _ _ _=>bg.block b hb;have HOWN:Hd (∀ b,(Value.slice sa ts.length sc).ownBlock=some b→(Value.slice sa ts.length sc).ownBlock=some b∨w.heap.size ≤ b):=fun b h=>Or.inl h;cases t
  · have T9:Hd (¬ Iv n ts x r):=fun h=>by have:=To.o.2 h;cases this
    by_cases h5:5000 ≤ ts.length
    · have HP:Hd (Im n ts x r 3 ts ⟨#[]⟩ ⟨#[]⟩):=Or.inr (Or.inr (Or.inl ⟨T9.o,h5,rfl,rfl,rfl,rfl⟩))
      have e5:ts.length=5000:=qb;(have d5:(((ts.length:Nat):Int) == 5000)=true:=by rw[e5];rfl);clear e5 To;go_wp2;refine bR (v:=.agg #[I 3,I 0,nS,nS,ze,ze]) qdv rfl (Ro.mk uf (bg.mono uf) O5.o yo.o HP.o hgl xj.o HKS.o HOWN.o (fun b h=>Or.inl h) _ _ _ _ _ _)
    · have HP:Hd (Im n ts x r 0 (Gj ts x r) ⟨#[]⟩ ⟨#[]⟩):=Or.inr (Or.inr (Or.inr ⟨T9.o,h5,rfl,rfl,rfl,rfl⟩))
      (have d5:(((ts.length:Nat):Int) == 5000)=false:=by rw[beq_eq_false_iff_ne];omega);clear To T9 xj HKS HOWN O5;obtain⟨w2,e2⟩:=Ai (w1.alloc (.cells #[.string sm] 9));have ag:=aB e2;(have HV2:Hd (w2.heap[w1.heap.size]?=some (.cells #[.string sm] 9 (0,0))):=by show _=_;rw[← e2];exact Cm _ _);have gp:=Fa HV2.o
      have HINS:Hd (Calls prog 176 #[.slice sa ts.length sc,I r,.slice (p_ w1.heap.size) 1 1] w2 fun e w'=>∃ g' cp,e=.returned (.slice (p_ g') (ts.length+1) cp)∧w'.ownsRow lo 9 1 (.slice (p_ g') (ts.length+1) cp) (ts.length+1) ((Gj (ts.map (Ap n)) sm r).map Value.string)∧Below lo w2 w'∧Df (Value.slice sa ts.length sc).ownBlock w2 w'∧((Value.slice sa ts.length sc).ownBlock=some g'∨g'=w2.heap.size)):=by
        have ho:w2.ownsRow lo 9 1 (.slice sa ts.length sc) ts.length ((ts.map (Ap n)).map Value.string):=by
          have:=Bg.own (ie.o.bl ag).sx;rw[List.length_map] at this;exact this
        rw[Pp];exact Rf lo ts.length r w1.heap.size _ _ (.string sm) w2 ho qb hrl qb HV2.o (fun e=>by have:=Bg.top ie.o.sx _ e;omega) (Nb _) qeb
      have gi:=hid ag;clear ag;go_wp2_with fail;clear e2;refine HINS.o.mono ?_;rintro e w3 ⟨g3,p3,rfl,ho3,aw,gh,V8⟩;have oa:=aw.size;have I1:=(ie.o.bl gi.o).blk
      have kg3:w3.heap[g]?=some (.cells #[I (n:Int),.slice ta ts.length p1,.slice qa ql qc,.slice sa ts.length sc] 149 (0,0)):=by
        rw[gh g qb (fun e=>Dk.ne (T:=149) ⟨_,I1⟩ (Bg.own (ie.o.bl gi.o).sx) qd e.symm)];exact I1
      have ig:Hd (w3.heap[w.heap.size]?=some (.cells #[I 0,I 0,nS,nS,ze,ze] 142 (0,0))):=by
        show _=_;rw[gh _ qb (fun e=>by have:=Bg.top ie.o.sx _ e.symm;omega)];exact Ae d6.o gi.o
      have T6:Hd (Lm (w3.setCell ⟨g,3,none⟩ (.slice (p_ g3) (ts.length+1) p3)) g lo w3.heap.size n (.slice (p_ g3) (ts.length+1) p3) (.slice ta ts.length p1) (.slice qa ql qc) (Gj (ts.map (Ap n)) sm r) ts):=
        Lm.insS ie.o qb gi.o (by rw[Ib _ _ _ (by rw[List.length_map];exact hrl),List.length_map]) ho3 gh oa V8
      have HKP3:Hd (∀ b,b<w.heap.size→b≠g→(Value.slice sa ts.length sc).ownBlock≠some b→(Value.slice ta ts.length p1).ownBlock≠some b→w3.heap[b]?=w.heap[b]?):=fun b q1 q2 q3 q4=>by
        rw[gh b qb (fun e=>q3 e.symm),gi.o.block b qb,bg.block b q1]
      have HBL3:Hd (Below lo w w3):=(bg.mono uf).trans ((gi.o.mono qb).trans aw)
      have HL3:Hd (∀ b,(Value.slice (p_ g3) (ts.length+1) p3).ownBlock=some b→(Value.slice sa ts.length sc).ownBlock=some b∨w.heap.size ≤ b):=fun b e=>by
        obtain rfl:g3=b:=qby
        rcases V8 with h|h
        · exact Or.inl h
        · right;omega
      clear c0 c1 c2 c3 cf r0 r1 r2 r3 r4 r5 rf I1 ho3 aw gh V8 HINS HV2;obtain⟨c0,c1,c2,c3,cf⟩:=Lk kg3;obtain⟨w4,e4⟩:=Ai (w3.setCell ⟨g,3,none⟩ (.slice (p_ g3) (ts.length+1) p3));(have ib:Hd (Lm w4 g lo w3.heap.size n (.slice (p_ g3) (ts.length+1) p3) (.slice ta ts.length p1) (.slice qa ql qc) (Gj (ts.map (Ap n)) sm r) ts):=by show Lm _ _ _ _ _ _ _ _ _ _;rw[← e4];exact T6.o);have A3:w3.heap.size ≤ w4.heap.size∧w4.heap.size ≤ w3.heap.size:=by rw[← e4];simp
      have mi:Hd (w4.heap[w.heap.size]?=some (.cells #[I 0,I 0,nS,nS,ze,ze] 142 (0,0))):=by
        show _=_;rw[← e4,hC w3 ⟨g,3,none⟩ _ w.heap.size (by show w.heap.size≠g;omega)];exact ig.o
      have HKP4:Hd (∀ b,b<w.heap.size→b≠g→(Value.slice sa ts.length sc).ownBlock≠some b→(Value.slice ta ts.length p1).ownBlock≠some b→w4.heap[b]?=w.heap[b]?):=fun b q1 q2 q3 q4=>by
        rw[← e4,hC w3 ⟨g,3,none⟩ _ b q2];exact HKP3.o b q1 q2 q3 q4
      (have HBL4:Hd (Below lo w w4):=by show Below _ _ _;rw[← e4];exact HBL3.o.setCell (p:=⟨g,3,none⟩) hlg _);obtain⟨x0,x1,x2,x3,xf⟩:=Lk ib.o.blk;obtain⟨w5,e5⟩:=Ai (w4.alloc (.cells #[.string x] 9));(have lh:Hd (Bw w4 w5):=by show Below _ _ _;rw[← e5];exact aN _ _);(have HV5:Hd (w5.heap[w4.heap.size]?=some (.cells #[.string x] 9 (0,0))):=by show _=_;rw[← e5];exact Cm _ _);have wo:=Fa HV5.o
      have HINS:Hd (Calls prog 176 #[.slice ta ts.length p1,I r,.slice (p_ w4.heap.size) 1 1] w5 fun e w'=>∃ g' cp,e=.returned (.slice (p_ g') (ts.length+1) cp)∧w'.ownsRow lo 9 1 (.slice (p_ g') (ts.length+1) cp) (ts.length+1) ((Gj ts x r).map Value.string)∧Below lo w5 w'∧Df (Value.slice ta ts.length p1).ownBlock w5 w'∧((Value.slice ta ts.length p1).ownBlock=some g'∨g'=w5.heap.size)):=by
        rw[Pp];exact Rf lo ts.length r w4.heap.size _ _ (.string x) w5 (Bg.own (ib.o.bl lh.o).tx) qb hrl qb HV5.o (fun e=>by have:=Bg.top ib.o.tx _ e;omega) (Nb _) qeb
      go_wp2_with fail;clear e4 e5;refine HINS.o.mono ?_;rintro e w6 ⟨g6,p6,rfl,Y9,ci,ir,hl6⟩;have zg:=ci.size;have hg5:=(ib.o.bl lh.o).blk
      have kg6:w6.heap[g]?=some (.cells #[I (n:Int),.slice ta ts.length p1,.slice qa ql qc,.slice (p_ g3) (ts.length+1) p3] 149 (0,0)):=by
        rw[ir g qb (fun e=>Dk.ne (T:=149) ⟨_,hg5⟩ (Bg.own (ib.o.bl lh.o).tx) qd e.symm)];exact hg5
      have kr6:w6.heap[w.heap.size]?=some (.cells #[I 0,I 0,nS,nS,ze,ze] 142 (0,0)):=by
        rw[ir _ qb (fun e=>by have:=Bg.top N8.o.tx _ e.symm;omega)];exact Ae mi.o lh.o
      have HSJ:Hd (Lm (w6.setCell ⟨g,1,none⟩ (.slice (p_ g6) (ts.length+1) p6)) g lo w6.heap.size n (.slice (p_ g3) (ts.length+1) p3) (.slice (p_ g6) (ts.length+1) p6) (.slice qa ql qc) (Gj (ts.map (Ap n)) sm r) (Gj ts x r)):=
        Lm.insT ib.o qb lh.o (Ib _ _ _ hrl).symm Y9 ir zg hl6
      have HKP6:Hd (Ut w (w6.setCell ⟨g,1,none⟩ (.slice (p_ g6) (ts.length+1) p6)) g (.slice ta ts.length p1) (.slice sa ts.length sc)):=fun b q1 q2 q3 q4=>by
        rw[hC w6 ⟨g,1,none⟩ _ b q2,ir b qb (fun e=>q4 e.symm),lh.o.block b qb];exact HKP4.o b q1 q2 q3 q4
      have HBL6:Hd (Below lo w (w6.setCell ⟨g,1,none⟩ (.slice (p_ g6) (ts.length+1) p6))):=(HBL4.o.trans ((lh.o.mono qb).trans ci)).setCell (p:=⟨g,1,none⟩) hlg _
      have J7:Hd (∀ b,(Value.slice (p_ g6) (Gj ts x r).length p6).ownBlock=some b→(Value.slice ta ts.length p1).ownBlock=some b∨w.heap.size ≤ b):=fun b e=>by
        obtain rfl:g6=b:=qby
        rcases hl6 with h|h
        · exact Or.inl h
        · right;omega
      have HHT6:Hd (Dk (w6.setCell ⟨g,1,none⟩ (.slice (p_ g6) (ts.length+1) p6)) w.heap.size 142):=Dk.set ⟨_,kr6⟩ _
      have xj:Hd (Lm (w6.setCell ⟨g,1,none⟩ (.slice (p_ g6) (ts.length+1) p6)) g lo (w6.setCell ⟨g,1,none⟩ (.slice (p_ g6) (ts.length+1) p6)).heap.size n (.slice (p_ g3) (ts.length+1) p3) (.slice (p_ g6) (Gj ts x r).length p6) (.slice qa ql qc) ((Gj ts x r).map (Ap n)) (Gj ts x r)):=by
        show Lm _ _ _ _ _ _ _ _ _ _;rw[map_insX,ESM.o,Ib _ _ _ hrl];exact Lm.wide HSJ.o (Nat.le_refl _) qg
      have hne:w.heap.size≠g:=qb;clear c0 c1 c2 c3 cf x0 x1 x2 x3 xf hg5 Y9 ci ir hl6 HINS HV5 HSJ;obtain⟨c0,c1,c2,c3,cf⟩:=Lk kg6;obtain⟨r0,r1,r2,r3,r4,r5⟩:=Gw kr6;have rf:=(fun j=>fH kr6 j);go_wp2;refine bR (v:=.agg #[I 0,I 0,nS,nS,ze,ze]) qdv rfl (Ro.mk uf HBL6.o HHT6.o yo.o HP.o hgl xj.o HKP6.o HL3.o J7.o _ _ _ _ _ _)
  · obtain⟨h3,h4⟩:=To.o.1 rfl
    have D7:Hd (Iv n ts x r):=⟨h3,h4⟩;have hrI:(r:Int)<(ts.length:Int):=qb
    obtain⟨tb,toff,rfl,k1⟩:∃ tb toff,ta=some ⟨tb,toff,none⟩∧w1.cell? ⟨tb,toff+r,none⟩=some (.string (nx ts r)):=by
      obtain⟨a',c',ea,cz⟩:=Dq.sl ie.o.tx;cases ea;obtain⟨b',bq,ea,c⟩:=cz r h3;exact⟨b',bq,ea,c⟩
    by_cases hne:nx ts r=x
    · have HP:Hd (Im n ts x r 0 ts ⟨#[]⟩ ⟨#[]⟩):=Or.inr (Or.inl ⟨D7.o,hne,rfl,rfl,rfl,rfl⟩)
      have oy:=Cw hne;clear To D7 h4 hne;generalize nx ts r=z at k1 oy;go_wp2;refine bR (v:=.agg #[I 0,I 0,nS,nS,ze,ze]) qdv rfl (Ro.mk uf (bg.mono uf) O5.o yo.o HP.o hgl xj.o HKS.o HOWN.o (fun b h=>Or.inl h) _ _ _ _ _ _)
    · have HP:Hd (Im n ts x r 2 ts (nx ts r) x):=Or.inl ⟨D7.o,hne,rfl,rfl,rfl,rfl⟩
      have oy:=Gl hne;clear To D7 h4 hne;generalize nx ts r=z at k1 oy HP;go_wp2;refine bR (v:=.agg #[I 2,I 0,nS,nS,.string z,.string x]) qdv rfl (Ro.mk uf (bg.mono uf) O5.o yo.o HP.o hgl xj.o HKS.o HOWN.o (fun b h=>Or.inl h) _ _ _ _ _ _)
structure Jt (B h mb:Nat) (C:Ep) (ss:List S2) (ts:List T2) (w:World) (ms:Mm) (s:Sb) (lu ld:Nat) (av kv:Value) (r:Rv):Prop where
  lb:B<=C.hb/\B<=C.hs/\B<=C.sb/\mb≠C.sb
  wd:1<=C.n/\C.n<=8
  bd:w.heap[C.hb]?=some (.cells (Rm C h r) 146 (0,0))
  sh:w.heap[C.hs]?=some (.cells #[I C.n,r.tx,r.qv,r.su] 149 (0,0))
  sn:∃ f,Jw w C.sb r.sn f/\Qt ss ts C.n ms f
  tx:w.ownsRow B 9 1 r.tx s.T.length (Ax s.T)
  su:w.ownsRow B 9 1 r.su s.T.length (Ax (s.T.map (Ap C.n)))
  qs:Es w B r.qv s.R
  ran:w.ownsRow B 9 1 r.nv s.ran.length (Ax s.ran)
  held:w.ownsRow B 9 1 r.ev s.held.length (Ax s.held)
  us:∃ xs:List Bool,w.ownsRow B 4 1 r.uv lu (xs.map .bool)
  df:∃ xs:List Bool,w.ownsRow B 4 1 r.dv ld (xs.map .bool)/\∀ i:Nat,xs[i]?=some true->NoH ss ts C.n ms (qx s.R i).looks
  ud:∀ b,r.uv.ownBlock=some b->r.dv.ownBlock≠some b
  ap:It [av,kv,r.tx,r.su,r.nv,r.ev]
section
variable {B h mb:Nat} {C:Ep} {ss:List S2} {ts:List T2} {w w':World} {ms:Mm} {s:Sb} {lu ld:Nat} {av kv:Value} {r:Rv}
theorem Jt.of (k:Nl B h mb C ss ts w ms s av kv r):Jt B h mb C ss ts w ms s s.R.length s.R.length av kv r:=⟨k.lb,k.wd,k.bd,k.sh,k.sn,k.tx,k.su,k.qs,k.ran,k.held,k.us,k.df,k.ud,k.ap⟩
theorem Jt.to (k:Jt B h mb C ss ts w ms s s.R.length s.R.length av kv r):Nl B h mb C ss ts w ms s av kv r:=⟨k.lb,k.wd,k.bd,k.sh,k.sn,k.tx,k.su,k.qs,k.ran,k.held,k.us,k.df,k.ud,k.ap⟩
structure FrR (B:Nat) (C:Ep) (r r':Rv) (w w':World):Prop where
  bel:Below B w w'
  keep:∀ b,b<w.heap.size->¬ Kf C r b->w'.heap[b]?=w.heap[b]?
  new:∀ b,Kf C r' b->Kf C r b\/w.heap.size<=b
theorem FrR.trans {r' r'':Rv} {w1 w2:World} (h:FrR B C r r' w w1) (k:FrR B C r' r'' w1 w2):FrR B C r r'' w w2:=by
  have hs:=h.bel.size
  exact⟨h.bel.trans k.bel,fun b hb ho=>(k.keep b qb (fun e=>by rcases h.new b e with q|q;exact ho q;omega)).trans (h.keep b hb ho),fun b e=>by
    rcases k.new b e with q|q
    · exact h.new b q
    · exact Or.inr qb⟩
theorem FrR.of_below (hb:Bw w w') (hB:B<=w.heap.size):FrR B C r r w w':=⟨hb.mono hB,fun b hl _=>hb.block b hl,fun _ h=>Or.inl h⟩
end
theorem It.set2 {l:List Value} (h:It l) (i j:Nat) (u v:Value) {H:Nat} (td:i<j) (hj:j<l.length) (hu:∀ b,u.ownBlock=some b->(l[i]'(by omega)).ownBlock=some b\/H<=b) (hv:∀ b,v.ownBlock=some b->l[j].ownBlock=some b\/H<=b) (huv:∀ b,u.ownBlock=some b->v.ownBlock≠some b) (aj:∀ v∈l,∀ b,v.ownBlock=some b->b<H):It ((l.set i u).set j v):=by
  have h1:=h.set i u (by omega) hu aj;unfold It at *;rw[List.pairwise_iff_getElem] at *;intro a c ha hc hac b e1 e2;rw[List.length_set] at ha hc
  have key:∀(d:Nat) (hd:d<(l.set i u).length),d≠j->∀ b,(l.set i u)[d].ownBlock=some b->v.ownBlock=some b->False:=fun d hd hne b q1 q2=>by
    rw[List.getElem_set] at q1
    split at q1
    · exact huv b q1 q2
    · rw[List.length_set] at hd
      rcases hv b q2 with k|k
      · rcases Nat.lt_or_ge d j with o|o
        · exact h d j hd hj o b q1 k
        · exact h j d hj hd (by omega) b k q1
      · have:=aj _ (List.getElem_mem hd) b q1;omega
  rw[List.getElem_set] at e1 e2
  split at e1
  · rename_i q
    rw[if_neg (by omega)] at e2;exact key c hc (by omega) b e2 e1
  · split at e2
    · exact key a ha (by omega) b e1 e2
    · exact h1 a c ha hc hac b e1 e2
section
variable {B h mb k:Nat} {C:Ep} {sv tv:Value} {ss:List S2} {ts:List T2} {w w':World} {ms:Mm} {mk st:List By} {al:Nat} {av kv:Value} {vs:By->Value} {s:Sb} {r:Rv}
theorem BS.shP (q:BS B h mb k C sv tv ss ts w ms mk st al av kv vs s r):∃ ta p1,r.tx=.slice ta s.T.length p1/\Lm w C.hs B w.heap.size C.n r.su (.slice ta s.T.length p1) r.qv (s.T.map (Ap C.n)) s.T:=by
  obtain⟨ta,tc,e1⟩:=Aw q.rs.tx;obtain⟨zs,cv,lv,qr⟩:=q.rs.qs;obtain⟨ra,rc,e3⟩:=Aw qr.row;have dj:=q.rs.sh;have htx:=q.rs.tx;rw[e1] at dj htx;refine⟨ta,tc,e1,dj,?_,⟨htx,fun b e=>(htx.lt b e).2⟩,⟨_,_,_,e3⟩,fun b e1' e2'=>?_⟩
  · have hsu:=q.rs.su
    refine⟨?_,fun b e=>(hsu.lt b e).2⟩;rw[List.length_map];exact hsu
  · rw[← e1] at e2'
    exact q.rs.ap.ne (i:=3) (j:=2) qd qg qg b e1' e2'
theorem BS.put (q:BS B h mb k C sv tv ss ts w ms mk st al av kv vs s r) {M0 L9:Value} {ts':List By} (hb:Below B w w') (hp:Lm w' C.hs B w'.heap.size C.n M0 L9 r.qv (ts'.map (Ap C.n)) ts') (hk:Ut w w' C.hs r.tx r.su) (h1:∀ b,M0.ownBlock=some b→r.su.ownBlock=some b∨w.heap.size ≤ b) (h2:∀ b,L9.ownBlock=some b→r.tx.ownBlock=some b∨w.heap.size ≤ b) :
    BS B h mb k C sv tv ss ts w' ms mk st al av kv vs ⟨ts',s.R,s.ran,s.held⟩ ⟨L9,M0,r.qv,r.nv,r.ev,r.uv,r.dv,r.sn⟩/\KQ B h mb C av kv r ⟨L9,M0,r.qv,r.nv,r.ev,r.uv,r.dv,r.sn⟩ w w':=by
  obtain⟨f,f1,f2⟩:=q.rs.sn;obtain⟨xs,u1⟩:=q.rs.us;obtain⟨ys,d1,d2⟩:=q.rs.df;obtain⟨zs,cv,lv,qr⟩:=q.rs.qs
  have kT:∀(b:Nat) (cs:Array Value) (T:TypeId),T≠149->T≠9->w.heap[b]?=some (.cells cs T (0,0))->w'.heap[b]?=some (.cells cs T (0,0)):=fun b cs T n1 n2 hh=>by
    rw[hk b (Af hh) (fun e=>by have o:=q.rs.sh;rw[← e,hh] at o;injection o with o;injection o with _ o;exact n1 o) (Ad q.rs.su n2 hh) (Ad q.rs.tx n2 hh)];exact hh
  have kR:∀ {e sz n:Nat} {u:Value} {ys:List Value},w.ownsRow B e sz u n ys->e≠149->e≠9->w'.ownsRow B e sz u n ys:=fun ho n1 n2=>Aj ho fun b o=>by
    obtain⟨cs,c1⟩:=Ba ho b o;rw[c1];exact kT b cs _ n1 n2 c1
  have k9:∀ {n:Nat} {u:Value} {ys:List Value},w.ownsRow B 9 1 u n ys->(∀ b,u.ownBlock=some b->r.su.ownBlock≠some b/\r.tx.ownBlock≠some b)->w'.ownsRow B 9 1 u n ys:=fun ho hx=>Aj ho fun b o=>by
    obtain⟨cs,c1⟩:=Ba ho b o;exact hk b (ho.lt b o).2 (fun e=>by have o:=q.rs.sh;rw[← e,c1] at o;injection o with o;injection o with _ o;exact absurd o qd) (hx b o).1 (hx b o).2
  have jp:=q.rs.ap;have hsb:w'.heap[C.sb]?=w.heap[C.sb]?:=hk _ f1.lt (fun e=>f1.notCells (e▸q.rs.sh)) (fun e=>by obtain⟨cs,c1⟩:=Ba q.rs.su _ e;exact f1.notCells c1) (fun e=>by obtain⟨cs,c1⟩:=Ba q.rs.tx _ e;exact f1.notCells c1);refine q.upd hb (fun b hl ho=>hk b hl (fun e=>ho (Or.inr (Or.inl e))) (fun e=>ho (An C (u:=r.su) qq e)) (fun e=>ho (An C (u:=r.tx) qq e))) ⟨q.rs.lb,q.rs.wd,kT _ _ _ qd qd q.rs.bd,hp.blk,⟨f,f1.same hsb,f2⟩,Bg.own hp.tx,?_,q.rs.qs.kept (fun b o=>?_) (fun b cs T hT hh=>kT b cs T (by rcases hT with e|e<;>rw[e]<;>decide) (by rcases hT with e|e<;>rw[e]<;>decide) hh),k9 q.rs.ran (fun b o=>⟨jp.ne (i:=4) (j:=3) qd qg qg b o,jp.ne (i:=4) (j:=2) qd qg qg b o⟩),k9 q.rs.held (fun b o=>⟨jp.ne (i:=5) (j:=3) qd qg qg b o,jp.ne (i:=5) (j:=2) qd qg qg b o⟩),⟨xs,kR u1 qd qd⟩,⟨ys,kR d1 qd qd,d2⟩,q.rs.ud,It.set2 jp 2 3 L9 M0 qd qg h2 h1 (fun b e1 e2=>hp.ne b e2 e1) (q.rs.l6 q.ownA.1 q.ownA.2)⟩ (fun b o=>?_) (Ky.same fun b o=>?_) (Nat.le_refl _)
  · have:=Bg.own hp.sx
    rw[List.length_map] at this;exact this
  · exact qmt
  · rcases o with o|o|o|⟨u,hu,o⟩
    · exact Or.inl (Or.inl o)
    · exact Or.inl (Or.inr (Or.inl o))
    · exact Or.inl (Or.inr (Or.inr (Or.inl o)))
    · simp only[Np,List.mem_cons,List.not_mem_nil,or_false] at hu
      rcases hu with rfl|rfl|rfl|rfl|rfl|rfl|rfl
      · rcases h2 b o with q1|q1;exact Or.inl (An C (u:=r.tx) qq q1);exact Or.inr q1
      · rcases h1 b o with q1|q1;exact Or.inl (An C (u:=r.su) qq q1);exact Or.inr q1
      · exact Or.inl (An C (u:=r.qv) qq o)
      · exact Or.inl (An C (u:=r.nv) qq o)
      · exact Or.inl (An C (u:=r.ev) qq o)
      · exact Or.inl (An C (u:=r.uv) qq o)
      · exact Or.inl (An C (u:=r.dv) qq o)
  · exact qmt
end
def PutTB (B h mb k:Nat) (C:Ep) (sv tv:Value) (ss:List S2) (ts:List T2) (ms:Mm) (mk st:List By) (al:Nat) (av kv:Value) (vs:By->Value) (s:Sb) (r:Rv) (x:By) (w:World) (e:Ending) (w':World):Prop:=
  (∃ v,e=.returned v/\∃ T' r',v=.tuple #[]/\Di C.n s.T [x] T' none/\BS B h mb k C sv tv ss ts w' ms mk st al av kv vs ⟨T',s.R,s.ran,s.held⟩ r'/\KQ B h mb C av kv r r' w w'/\r'.sn=r.sn)\/
  (∃ v,e=Kq v/\∃ b r',Di C.n s.T [x] s.T (some b)/\Db B C w' b v/\KQ B h mb C av kv r r' w w')
theorem Qy (B h mb k:Nat) (C:Ep) (sv tv:Value) (ss:List S2) (ts:List T2) (ms:Mm) (mk st:List By) (al:Nat) (av kv:Value) (vs:By->Value) (s:Sb) (r:Rv) (x:By) (w:World) (q:BS B h mb k C sv tv ss ts w ms mk st al av kv vs s r) (hB:B<=w.heap.size) (ft:Uo C.n s.T) (hx:x.size<=2002) :
    Calls prog 150 #[.pointer (p_ C.hb),.string x] w fun e w'=>PutTB B h mb k C sv tv ss ts ms mk st al av kv vs s r x w e w':=by
  obtain⟨ta,p1,etx,zc⟩:=q.shP
  have T8:Hd (Calls prog 165 #[.pointer (p_ C.hs),.string x] w fun e w'=>Ro w C.hs B C.n r.su r.tx r.qv s.T x e w'):=by
    show Calls _ _ _ _ _;rw[etx];exact put_b C.hs B w.heap.size C.n ta p1 r.su r.qv s.T x w q.rs.wd.1 q.rs.wd.2 qb ft.1 ft.2.2 q.rs.lb.2.1 (Nat.le_refl _) zc
  obtain⟨y0,-⟩:=q.rs.cellsB;have HQ:=hid q;clear q etx zc;go_enter func150,ntmps150;go_wp2_with fail;refine T8.o.mono ?_;rintro e w1 ⟨rr,cd,ts',A,B',M0,L9,rfl,dy,hpr,af,dj,hks,eg,gp⟩;obtain⟨b1,k1⟩:=HQ.o.put af dj hks eg gp;have fw:=hid b1;have d6:=hid k1;have yo:=hid dy;have uu:=hid hpr;clear T8 dy hpr af dj hks eg gp b1 k1 y0;have de:=d6.o.bel.size
  rcases uu.o with ⟨c1,c2,rfl,rfl,rfl,rfl⟩|⟨c1,c2,rfl,rfl,rfl,rfl⟩|⟨c1,c2,rfl,rfl,rfl,rfl⟩|⟨c1,c2,rfl,rfl,rfl,rfl⟩
  · have xk:Hd (Di C.n s.T [B'] s.T (some (.clash (nx s.T rr) B'))):=.clash yo.o uu.o
    clear uu c1 c2;generalize nx s.T rr=A at xk ⊢;obtain⟨V,eV⟩:=Ai (w1.alloc (.cells #[I 2,I 0,nS,nS,.string A,.string B'] 142));have o6:=aB eV;(have mn:Hd (V.heap[w1.heap.size]?=some (.cells #[I 2,I 0,nS,nS,.string A,.string B'] 142 (0,0))):=by show _=_;rw[← eV];exact Gq _ _);have zw:=hid (fw.o.bl o6);have my:=hid (d6.o.after (Ak.refl _ _) (Ak.refl _ _) fw.o o6 qb);obtain⟨⟨z0,z1,z2,z3,z4,z5⟩,zf⟩:=Rl mn.o;have HBD:=hid zw.o.rs.bd
    obtain⟨b4,b5,b6,b7,b8,b9⟩:V.cell? ⟨C.hb,4,none⟩=some (I 0)/\V.cell? ⟨C.hb,5,none⟩=some (I 0)/\V.cell? ⟨C.hb,6,none⟩=some nS/\V.cell? ⟨C.hb,7,none⟩=some nS/\V.cell? ⟨C.hb,8,none⟩=some ze/\V.cell? ⟨C.hb,9,none⟩=some ze:=by
      refine⟨?_,?_,?_,?_,?_,?_⟩<;>rw[cH HBD.o]<;>rfl
    have bf:=fZ HBD.o;clear o6
    go_upto_region 3 with fail
    try rw[eV]
    clear eV;go_wp2_with fail;(have hne:w1.heap.size≠C.hb:=fun e=>by have o:=HBD.o;rw[← e,mn.o] at o;injection o with o;injection o with _ o;exact absurd o qd);have si:=Ds (b:=C.hb) [(C.hb,4,I 2),(C.hb,5,I 0),(C.hb,6,nS),(C.hb,7,nS),(C.hb,8,.string A),(C.hb,9,.string B')] V _ qg HBD.o;have hnl:∀ b,b≠C.hb->(Cf V [(C.hb,4,I 2),(C.hb,5,I 0),(C.hb,6,nS),(C.hb,7,nS),(C.hb,8,.string A),(C.hb,9,.string B')]).heap[b]?=V.heap[b]?:=fun b e=>Gm _ V (by simp[e]);have bi:=Br (w:=w) [(C.hb,4,I 2),(C.hb,5,I 0),(C.hb,6,nS),(C.hb,7,nS),(C.hb,8,.string A),(C.hb,9,.string B')] V my.o.bel (by simp[zw.o.rs.lb.1]);refine⟨rfl,Or.inr ⟨_,rfl,_,⟨L9,M0,r.qv,r.nv,r.ev,r.uv,r.dv,r.sn⟩,xk.o,⟨?_,?_,rfl⟩,⟨bi,fun b hb n1 n2 n3 n4 n5=>(hnl b (fun e=>n5 (Or.inl e))).trans (my.o.keep b hb n1 n2 n3 n4 n5),my.o.new,fun g l cp cs e hg=>?_,my.o.len⟩⟩⟩
    · exact(cH si 8).trans rfl
    · exact(cH si 9).trans rfl
    · obtain⟨I8,g1,g2⟩:=my.o.old g l cp cs e hg
      exact⟨I8,(hnl g (fun e=>by subst e;rw[HBD.o] at g1;injection g1 with g1;injection g1 with _ g1;exact absurd g1 qd)).trans g1,g2⟩
  · have xk:Hd (Di C.n s.T [x] s.T none):=.go yo.o uu.o .nil
    clear uu c1 c2;go_wp2_with fail;refine bodyPost_end (v:=.tuple #[]) (by simp[results,results150,go_sem]) rfl ?_;exact Or.inl ⟨_,rfl,s.T,_,rfl,xk.o,fw.o.bl (Ag _ _),d6.o.after (Ak.refl _ _) (Ak.refl _ _) fw.o (Ag _ _) qb,rfl⟩
  · have xk:Hd (Di C.n s.T [x] s.T (some .full)):=.full yo.o uu.o
    clear uu c1 c2;go_wp2_with fail;have ii:=Ae fw.o.rs.bd (Ag w1 (.cells #[I 3,I 0,nS,nS,ze,ze] 142));exact⟨rfl,Or.inr ⟨_,rfl,_,_,xk.o,⟨qee,qee,rfl⟩,d6.o.after (Ak.refl _ _) (Ak.refl _ _) fw.o (Ag _ _) qb⟩⟩
  · have xk:Hd (Di C.n s.T [x] (Gj s.T x rr) none):=.go yo.o uu.o .nil
    clear uu c1 c2;go_wp2_with fail;refine bodyPost_end (v:=.tuple #[]) (by simp[results,results150,go_sem]) rfl ?_;exact Or.inl ⟨_,rfl,_,_,rfl,xk.o,fw.o.bl (Ag _ _),d6.o.after (Ak.refl _ _) (Ak.refl _ _) fw.o (Ag _ _) qb,rfl⟩
theorem Gy.addI {nw c d:Value} {rec:T3} {cv lv:Nat->Value} {cs:Array Value} (r:Gy w B v R xs cv lv) (hg:w.grownBy w' v.ownBlock) (ho:w'.ownsRow B 97 3 nw (R.length+1) (xs++[c,d,.string rec.out]))
    {us:List Value} (h1:w.ownsRow B 128 3 c rec.code.length zs) (h2:Cl rec.code rec.code.length zs) (h3:w.ownsRow B 125 3 d rec.looks.length us) (h4:Bo rec.looks rec.looks.length us) (hc:∀ i,i<R.length->∀ b,(cv i).ownBlock=some b->c.ownBlock≠some b) (hd:∀ i,i<R.length->∀ b,(lv i).ownBlock=some b->d.ownBlock≠some b) (hb:w'.heap[h]?=some (.cells cs 149 (0,0))) (x:Value) :
    Es (w'.setCell ⟨h,2,none⟩ x) B nw (R++[rec]):=by
  have ht:Dk w' h 149:=⟨_,hb⟩;exact qgy
theorem append_old {ty:TypeId} {v':Value} (ah:W.ownsRow B 97 3 v n xs) (a:Addr) (c:Nat) (u0 u1 u2:Value) (lm:∀ j u,[u0,u1,u2][j]?=some u→W.cell? (a.add j)=some u) (h1:∀ u∈[u0,u1,u2],u.oneCell'=true) (hn:n<=10000) (hr:(Builtin.append_ #[32,32] ty #[v,.slice (some a) 1 c]).run prog W=.ok v' w'):Ky v W w':=by
  intro g l cp cs e hb;subst e;obtain⟨i0,hi,bp,bh,bv⟩:=info_parts Tryz.info97x
  rcases ah.2 with ⟨e,_⟩|⟨g',cap,cur,e,hB,hh,hnc,B9,iu,htake⟩
  · simp at e
  simp only[Value.slice.injEq,Option.some.injEq,Addr.mk.injEq,and_true,true_and] at e;obtain⟨rfl,rfl,rfl⟩:=e;rw[hb] at hh;injection hh with hh;injection hh with hh;subst hh
  by_cases M4:l+1<=cp
  · have hfit:l*i0.size+[u0,u1,u2].length<=cs.size:=by rw[bh,iu];simp;omega
    have h2:=run_append_room (P:=prog) W 32 ty 97 i0 underlying32 hi g l cp cs hb a 1 c [u0,u1,u2] (by rw[bh];rfl) lm h1 M4 hfit;rw[h2] at hr;injection hr with hv hw;subst hw;refine⟨_,setRow_heap W g cs _ 97 _ hb,fun j hj=>?_⟩;rw[bh,List.getElem?_toArray,List.append_assoc,List.getElem?_append_left (by rw[List.length_take];simp only[Array.length_toList];rw[iu];omega),List.getElem?_take,if_pos hj,Array.getElem?_toList]
  · have holds:∀ j u,xs[j]?=some u→W.cell? ((⟨g,0,none⟩:Addr).add j)=some u:=ah.cells (g:=g) rfl
    have h2:=run_append_grow (P:=prog) W 32 ty 97 i0 _ underlying32 hi bp ⟨g,0,none⟩ l cp xs (by rw[bh];exact ah.1) holds a 1 c [u0,u1,u2] (by rw[bh];rfl) lm qb qb (growslice_fits qb qam);rw[h2] at hr;injection hr with hv hw;subst hw;exact⟨cs,(Lib.alloc_old W.drew _ _ (Af hb)).trans hb,fun _ _=>rfl⟩
theorem step_appQ2 {s x:Operand} {o:Oper} {a:Act} {K:Act->World->Prop} {E:Prop} (se:o.guard=none)
    (ho:o.op=.call { callee:=.builtin .append,args:=#[s,x],argTypes:=#[32,32] }) (B:Nat) (v:Value) (nn:Nat) (xs:List Value)
    (hs:a.eval s=v) (ah:W.ownsRow B 97 3 v nn xs) (d:Nat) (u0 u1 u2:Value) (hx:a.eval x=.slice (p_ d) 1 1) (hc:W.heap[d]?=some (.cells #[u0,u1,u2] 97 (0,0))) (h1:∀ u∈[u0,u1,u2],u.oneCell'=true) (hB:B<=W.heap.size) (hn:nn<=10000)
    (h:∀ g' ai w',w'.ownsRow B 97 3 (.slice (p_ g') (nn+1) ai) (nn+1) (xs++[u0,u1,u2])->W.grownBy w' v.ownBlock->(v.ownBlock=some g'\/g'=W.heap.size)->Ky v W w'->K (a.put o.dst (.slice (p_ g') (nn+1) ai)) w') :
    if Region.wanted o (yielded ops a.tmps)=true then Oper.wp prog o a W K Q else E:=by
  have hw:Region.wanted o (yielded ops a.tmps)=true:=qbz;obtain⟨i0,hi,bp,bh,bv⟩:=info_parts Tryz.info97x;have lm:=World.news_of_block (cs:=#[u0,u1,u2]) (t:=97) (fr:=(0,0)) hc;obtain⟨g,cap,w',hr,h2,h3,h4,h5⟩:=run_append_lies (P:=prog) W 32 o.type B 97 i0 (.agg #[nS,nS,ze]) 3 64 underlying32 hi bp bh bv rfl qd v nn xs ah ⟨d,0,none⟩ 1 1 [u0,u1,u2] rfl lm h1 qb qm qb hB W.heap.size rfl;rw[if_pos hw];unfold Oper.wp execOp;simp only[ho,resolve,invoke,builtin,Sem.run_bind,Sem.run_pure,Result.andThen_ok,List.map_toArray,List.map_cons,List.map_nil,hs,hx,hr];exact h g cap w' h2 h3 h4 (append_old ah _ _ _ _ _ lm h1 hn hr)
theorem Di.more {T U:List By} {b:Gd} (h:Di n T [x] U (some b)) (ys:List By):Di n T ([x]++ys) T (some b)/\U=T:=by
  cases h with
  | go _ _ h3=>cases h3
  | clash h1 h2=>exact⟨.clash h1 h2,rfl⟩
  | full h1 h2=>exact⟨.full h1 h2,rfl⟩
theorem Ky.next (h:Ky v w w1) (k:∀(g:Nat) (cs:Array Value),w1.heap[g]?=some (.cells cs 97 (0,0))->w2.heap[g]?=some (.cells cs 97 (0,0))):Ky v w w2:=fun g l cp cs e hb=>by
  obtain⟨I8,h1,h2⟩:=h g l cp cs e hb;exact⟨I8,k g I8 h1,h2⟩
theorem k2_of {o:Obj} {row:Option Nat} (hg:(w.alloc o).grownBy w2 row):∀ b,b<w.heap.size->row≠some b->w2.heap[b]?=w.heap[b]?:=fun b h1 h2=>by rw[hg.block b qh (fun e=>h2 e.symm),Lib.alloc_old _ _ _ h1]
theorem bel_of {o:Obj} {row:Option Nat} (hg:(w.alloc o).grownBy w2 row) (hB:B<=w.heap.size) (hr:∀ b,row=some b->B<=b):Below B w w2:=((Below.refl B w).alloc hB o).grown hg qh hr
section
variable {B h mb:Nat} {C:Ep} {ss:List S2} {ts:List T2} {w w':World} {ms:Mm} {s:Sb} {lu ld:Nat} {av kv:Value} {r:Rv}
theorem Jt.gN (k:Jt B h mb C ss ts w ms s lu ld av kv r) (hB:B<=w.heap.size) (hav:∀ b,av.ownBlock=some b->b<w.heap.size) (Z9:∀ b,kv.ownBlock=some b->b<w.heap.size) {w2:World} {nw:Value} {x:By} (am:Below B w w2) (k2:∀ b,b<w.heap.size->r.nv.ownBlock≠some b->w2.heap[b]?=w.heap[b]?) (ge:w2.ownsRow B 9 1 nw (s.ran++[x]).length (Ax (s.ran++[x]))) (hl:∀ b,nw.ownBlock=some b->r.nv.ownBlock=some b\/w.heap.size<=b) :
    Jt B h mb C ss ts (w2.setCell ⟨C.hb,1,none⟩ nw) ms ⟨s.T,s.R,s.ran++[x],s.held⟩ lu ld av kv ⟨r.tx,r.su,r.qv,nw,r.ev,r.uv,r.dv,r.sn⟩/\FrR B C r ⟨r.tx,r.su,r.qv,nw,r.ev,r.uv,r.dv,r.sn⟩ w (w2.setCell ⟨C.hb,1,none⟩ nw):=by
  obtain⟨f,f1,f2⟩:=k.sn;obtain⟨xs,u1⟩:=k.us;obtain⟨ys,d1,d2⟩:=k.df;obtain⟨zs,cv,lv,qr⟩:=k.qs;have ii:w2.heap[C.hb]?=some (.cells (Rm C h r) 146 (0,0)):=by rw[k2 _ (Af k.bd) (Ad k.ran qd k.bd)];exact k.bd
  have dj:w2.heap[C.hs]?=some (.cells #[I C.n,r.tx,r.qv,r.su] 149 (0,0)):=by rw[k2 _ (Af k.sh) (Ad k.ran qd k.sh)];exact k.sh
  have hne:∀ b,b≠C.hb->(w2.setCell ⟨C.hb,1,none⟩ nw).heap[b]?=w2.heap[b]?:=fun b e=>hC w2 ⟨C.hb,1,none⟩ _ b e
  have G8:∀(b:Nat) (cs:Array Value) (T:TypeId),T≠146->w.heap[b]?=some (.cells cs T (0,0))->b≠C.hb:=fun b cs T hT hb e=>by
    exact qbd
  have kk:∀ {e sz n:Nat} {u:Value} {ys:List Value},w.ownsRow B e sz u n ys->(∀ b,u.ownBlock=some b->r.nv.ownBlock≠some b)->e≠146->(w2.setCell ⟨C.hb,1,none⟩ nw).ownsRow B e sz u n ys:=fun ho hx he=>Aj ho fun b q=>by
    exact qau
  have hHb:C.hb≠C.hs:=fun e=>by have q:=k.sh;rw[← e,k.bd] at q;injection q with q;injection q with _ q;exact absurd q qd
  refine⟨⟨k.lb,k.wd,qbx,qbu,⟨f,f1.same (by rw[hne _ (fun e=>f1.notCells (e▸k.bd)),k2 _ f1.lt (fun e=>by obtain⟨cs,c1⟩:=Ba k.ran _ e;exact f1.notCells c1)]),f2⟩,kk k.tx (fun b q1 q2=>k.ap.ne (i:=4) (j:=2) qd qg qg b q2 q1) qd,kk k.su (fun b q1 q2=>k.ap.ne (i:=4) (j:=3) qd qg qg b q2 q1) qd,k.qs.kept (fun b q=>by rw[hne b (by obtain⟨cs,c1⟩:=Ba qr.row b q;exact G8 b cs _ qd c1),k2 b (qr.row.lt b q).2 (fun e=>apart qr.row k.ran qd b q e)]) (fun b cs T hT q=>by rw[hne b (G8 b cs T (by rcases hT with e|e<;>rw[e]<;>decide) q),k2 b (Af q) (Ad k.ran (by rcases hT with e|e<;>rw[e]<;>decide) q)];exact q),Al ge ⟨_,ii⟩ qd _,kk k.held (fun b q1 q2=>k.ap.ne (i:=4) (j:=5) qd qg qg b q2 q1) qd,⟨xs,kk u1 (apart u1 k.ran qd) qd⟩,⟨ys,kk d1 (apart d1 k.ran qd) qd,d2⟩,k.ud,It.set k.ap 4 nw qg hl (fun v hv b q=>by
    simp only[List.mem_cons,List.not_mem_nil,or_false] at hv
    rcases hv with rfl|rfl|rfl|rfl|rfl|rfl
    · exact hav b q
    · exact Z9 b q
    · exact(k.tx.lt b q).2
    · exact(k.su.lt b q).2
    · exact(k.ran.lt b q).2
    · exact(k.held.lt b q).2)⟩,⟨?_,fun b hb ho=>?_,fun b e=>?_⟩⟩
  · exact am.setCell (p:=⟨C.hb,1,none⟩) (k.lb.1) _
  · exact qma
  · exact qhj
theorem Jt.gE (k:Jt B h mb C ss ts w ms s lu ld av kv r) (hB:B<=w.heap.size) (hav:∀ b,av.ownBlock=some b->b<w.heap.size) (Z9:∀ b,kv.ownBlock=some b->b<w.heap.size) {w2:World} {nw:Value} {x:By} (am:Below B w w2) (k2:∀ b,b<w.heap.size->r.ev.ownBlock≠some b->w2.heap[b]?=w.heap[b]?) (ge:w2.ownsRow B 9 1 nw (s.held++[x]).length (Ax (s.held++[x]))) (hl:∀ b,nw.ownBlock=some b->r.ev.ownBlock=some b\/w.heap.size<=b) :
    Jt B h mb C ss ts (w2.setCell ⟨C.hb,2,none⟩ nw) ms ⟨s.T,s.R,s.ran,s.held++[x]⟩ lu ld av kv ⟨r.tx,r.su,r.qv,r.nv,nw,r.uv,r.dv,r.sn⟩/\FrR B C r ⟨r.tx,r.su,r.qv,r.nv,nw,r.uv,r.dv,r.sn⟩ w (w2.setCell ⟨C.hb,2,none⟩ nw):=by
  obtain⟨f,f1,f2⟩:=k.sn;obtain⟨xs,u1⟩:=k.us;obtain⟨ys,d1,d2⟩:=k.df;obtain⟨zs,cv,lv,qr⟩:=k.qs;have ii:w2.heap[C.hb]?=some (.cells (Rm C h r) 146 (0,0)):=by rw[k2 _ (Af k.bd) (Ad k.held qd k.bd)];exact k.bd
  have dj:w2.heap[C.hs]?=some (.cells #[I C.n,r.tx,r.qv,r.su] 149 (0,0)):=by rw[k2 _ (Af k.sh) (Ad k.held qd k.sh)];exact k.sh
  have hne:∀ b,b≠C.hb->(w2.setCell ⟨C.hb,2,none⟩ nw).heap[b]?=w2.heap[b]?:=fun b e=>hC w2 ⟨C.hb,2,none⟩ _ b e
  have G8:∀(b:Nat) (cs:Array Value) (T:TypeId),T≠146->w.heap[b]?=some (.cells cs T (0,0))->b≠C.hb:=fun b cs T hT hb e=>by
    exact qbd
  have kk:∀ {e sz n:Nat} {u:Value} {ys:List Value},w.ownsRow B e sz u n ys->(∀ b,u.ownBlock=some b->r.ev.ownBlock≠some b)->e≠146->(w2.setCell ⟨C.hb,2,none⟩ nw).ownsRow B e sz u n ys:=fun ho hx he=>Aj ho fun b q=>by
    exact qau
  have hHb:C.hb≠C.hs:=fun e=>by have q:=k.sh;rw[← e,k.bd] at q;injection q with q;injection q with _ q;exact absurd q qd
  refine⟨⟨k.lb,k.wd,qbx,qbu,⟨f,f1.same (by rw[hne _ (fun e=>f1.notCells (e▸k.bd)),k2 _ f1.lt (fun e=>by obtain⟨cs,c1⟩:=Ba k.held _ e;exact f1.notCells c1)]),f2⟩,kk k.tx (fun b q1 q2=>k.ap.ne (i:=5) (j:=2) qd qg qg b q2 q1) qd,kk k.su (fun b q1 q2=>k.ap.ne (i:=5) (j:=3) qd qg qg b q2 q1) qd,k.qs.kept (fun b q=>by rw[hne b (by obtain⟨cs,c1⟩:=Ba qr.row b q;exact G8 b cs _ qd c1),k2 b (qr.row.lt b q).2 (fun e=>apart qr.row k.held qd b q e)]) (fun b cs T hT q=>by rw[hne b (G8 b cs T (by rcases hT with e|e<;>rw[e]<;>decide) q),k2 b (Af q) (Ad k.held (by rcases hT with e|e<;>rw[e]<;>decide) q)];exact q),kk k.ran (fun b q1 q2=>k.ap.ne (i:=5) (j:=4) qd qg qg b q2 q1) qd,Al ge ⟨_,ii⟩ qd _,⟨xs,kk u1 (apart u1 k.held qd) qd⟩,⟨ys,kk d1 (apart d1 k.held qd) qd,d2⟩,k.ud,It.set k.ap 5 nw qg hl (fun v hv b q=>by
    simp only[List.mem_cons,List.not_mem_nil,or_false] at hv
    rcases hv with rfl|rfl|rfl|rfl|rfl|rfl
    · exact hav b q
    · exact Z9 b q
    · exact(k.tx.lt b q).2
    · exact(k.su.lt b q).2
    · exact(k.ran.lt b q).2
    · exact(k.held.lt b q).2)⟩,⟨?_,fun b hb ho=>?_,fun b e=>?_⟩⟩
  · exact am.setCell (p:=⟨C.hb,2,none⟩) (k.lb.1) _
  · exact qmb
  · exact qhk
theorem Jt.gU (k:Jt B h mb C ss ts w ms s lu ld av kv r) (hB:B<=w.heap.size) (hav:∀ b,av.ownBlock=some b->b<w.heap.size) (Z9:∀ b,kv.ownBlock=some b->b<w.heap.size) {w2:World} {nw:Value} {nxs:List Bool} {lu2:Nat} (am:Below B w w2) (k2:∀ b,b<w.heap.size->r.uv.ownBlock≠some b->w2.heap[b]?=w.heap[b]?) (ge:w2.ownsRow B 4 1 nw lu2 (nxs.map .bool)) (hl:∀ b,nw.ownBlock=some b->r.uv.ownBlock=some b\/w.heap.size<=b) :
    Jt B h mb C ss ts (w2.setCell ⟨C.hb,3,none⟩ nw) ms s lu2 ld av kv ⟨r.tx,r.su,r.qv,r.nv,r.ev,nw,r.dv,r.sn⟩/\FrR B C r ⟨r.tx,r.su,r.qv,r.nv,r.ev,nw,r.dv,r.sn⟩ w (w2.setCell ⟨C.hb,3,none⟩ nw):=by
  obtain⟨f,f1,f2⟩:=k.sn;obtain⟨xs,u1⟩:=k.us;obtain⟨ys,d1,d2⟩:=k.df;obtain⟨zs,cv,lv,qr⟩:=k.qs;have ii:w2.heap[C.hb]?=some (.cells (Rm C h r) 146 (0,0)):=by rw[k2 _ (Af k.bd) (Ad u1 qd k.bd)];exact k.bd
  have dj:w2.heap[C.hs]?=some (.cells #[I C.n,r.tx,r.qv,r.su] 149 (0,0)):=by rw[k2 _ (Af k.sh) (Ad u1 qd k.sh)];exact k.sh
  have hne:∀ b,b≠C.hb->(w2.setCell ⟨C.hb,3,none⟩ nw).heap[b]?=w2.heap[b]?:=fun b e=>hC w2 ⟨C.hb,3,none⟩ _ b e
  have G8:∀(b:Nat) (cs:Array Value) (T:TypeId),T≠146->w.heap[b]?=some (.cells cs T (0,0))->b≠C.hb:=fun b cs T hT hb e=>by
    exact qbd
  have kk:∀ {e sz n:Nat} {u:Value} {ys:List Value},w.ownsRow B e sz u n ys->(∀ b,u.ownBlock=some b->r.uv.ownBlock≠some b)->e≠146->(w2.setCell ⟨C.hb,3,none⟩ nw).ownsRow B e sz u n ys:=fun ho hx he=>Aj ho fun b q=>by
    exact qau
  have hHb:C.hb≠C.hs:=fun e=>by have q:=k.sh;rw[← e,k.bd] at q;injection q with q;injection q with _ q;exact absurd q qd
  refine⟨⟨k.lb,k.wd,qbx,qbu,⟨f,f1.same (by rw[hne _ (fun e=>f1.notCells (e▸k.bd)),k2 _ f1.lt (fun e=>by obtain⟨cs,c1⟩:=Ba u1 _ e;exact f1.notCells c1)]),f2⟩,kk k.tx (apart k.tx u1 qd) qd,kk k.su (apart k.su u1 qd) qd,k.qs.kept (fun b q=>by rw[hne b (by obtain⟨cs,c1⟩:=Ba qr.row b q;exact G8 b cs _ qd c1),k2 b (qr.row.lt b q).2 (fun e=>apart qr.row u1 qd b q e)]) (fun b cs T hT q=>by rw[hne b (G8 b cs T (by rcases hT with e|e<;>rw[e]<;>decide) q),k2 b (Af q) (Ad u1 (by rcases hT with e|e<;>rw[e]<;>decide) q)];exact q),kk k.ran (apart k.ran u1 qd) qd,kk k.held (apart k.held u1 qd) qd,⟨nxs,Al ge ⟨_,ii⟩ qd _⟩,⟨ys,kk d1 (fun b q1 q2=>k.ud b q2 q1) qd,d2⟩,fun b q1 q2=>by rcases hl b q1 with q|q;exact k.ud b q q2;have:=(d1.lt b q2).2;omega,k.ap⟩,⟨?_,fun b hb ho=>?_,fun b e=>?_⟩⟩
  · exact am.setCell (p:=⟨C.hb,3,none⟩) (k.lb.1) _
  · rw[hne b (fun e=>ho (Or.inl e)),k2 b hb (fun e=>ho (An C (u:=r.uv) qq e))]
  · rcases e with e|e|e|⟨u,hu,e⟩
    · exact Or.inl (Or.inl e)
    · exact Or.inl (Or.inr (Or.inl e))
    · exact Or.inl (Or.inr (Or.inr (Or.inl e)))
    · simp only[Np,List.mem_cons,List.not_mem_nil,or_false] at hu
      rcases hu with rfl|rfl|rfl|rfl|rfl|rfl|rfl
      · exact Or.inl (An C (u:=r.tx) qq e)
      · exact Or.inl (An C (u:=r.su) qq e)
      · exact Or.inl (An C (u:=r.qv) qq e)
      · exact Or.inl (An C (u:=r.nv) qq e)
      · exact Or.inl (An C (u:=r.ev) qq e)
      · rcases hl b e with q|q;exact Or.inl (An C (u:=r.uv) qq q);exact Or.inr q
      · exact Or.inl (An C (u:=r.dv) qq e)
theorem Jt.gD (k:Jt B h mb C ss ts w ms s lu ld av kv r) (hB:B<=w.heap.size) (hav:∀ b,av.ownBlock=some b->b<w.heap.size) (Z9:∀ b,kv.ownBlock=some b->b<w.heap.size) {w2:World} {nw:Value} {nxs:List Bool} {ld2:Nat} (am:Below B w w2) (k2:∀ b,b<w.heap.size->r.dv.ownBlock≠some b->w2.heap[b]?=w.heap[b]?) (ge:w2.ownsRow B 4 1 nw ld2 (nxs.map .bool)) (hdf:∀ i:Nat,nxs[i]?=some true->NoH ss ts C.n ms (qx s.R i).looks) (hl:∀ b,nw.ownBlock=some b->r.dv.ownBlock=some b\/w.heap.size<=b) :
    Jt B h mb C ss ts (w2.setCell ⟨C.hb,12,none⟩ nw) ms s lu ld2 av kv ⟨r.tx,r.su,r.qv,r.nv,r.ev,r.uv,nw,r.sn⟩/\FrR B C r ⟨r.tx,r.su,r.qv,r.nv,r.ev,r.uv,nw,r.sn⟩ w (w2.setCell ⟨C.hb,12,none⟩ nw):=by
  obtain⟨f,f1,f2⟩:=k.sn;obtain⟨xs,u1⟩:=k.us;obtain⟨ys,d1,d2⟩:=k.df;obtain⟨zs,cv,lv,qr⟩:=k.qs;have ii:w2.heap[C.hb]?=some (.cells (Rm C h r) 146 (0,0)):=by rw[k2 _ (Af k.bd) (Ad d1 qd k.bd)];exact k.bd
  have dj:w2.heap[C.hs]?=some (.cells #[I C.n,r.tx,r.qv,r.su] 149 (0,0)):=by rw[k2 _ (Af k.sh) (Ad d1 qd k.sh)];exact k.sh
  have hne:∀ b,b≠C.hb->(w2.setCell ⟨C.hb,12,none⟩ nw).heap[b]?=w2.heap[b]?:=fun b e=>hC w2 ⟨C.hb,12,none⟩ _ b e
  have G8:∀(b:Nat) (cs:Array Value) (T:TypeId),T≠146->w.heap[b]?=some (.cells cs T (0,0))->b≠C.hb:=fun b cs T hT hb e=>by
    exact qbd
  have kk:∀ {e sz n:Nat} {u:Value} {ys:List Value},w.ownsRow B e sz u n ys->(∀ b,u.ownBlock=some b->r.dv.ownBlock≠some b)->e≠146->(w2.setCell ⟨C.hb,12,none⟩ nw).ownsRow B e sz u n ys:=fun ho hx he=>Aj ho fun b q=>by
    exact qau
  have hHb:C.hb≠C.hs:=fun e=>by have q:=k.sh;rw[← e,k.bd] at q;injection q with q;injection q with _ q;exact absurd q qd
  refine⟨⟨k.lb,k.wd,qbx,qbu,⟨f,f1.same (by rw[hne _ (fun e=>f1.notCells (e▸k.bd)),k2 _ f1.lt (fun e=>by obtain⟨cs,c1⟩:=Ba d1 _ e;exact f1.notCells c1)]),f2⟩,kk k.tx (apart k.tx d1 qd) qd,kk k.su (apart k.su d1 qd) qd,k.qs.kept (fun b q=>by rw[hne b (by obtain⟨cs,c1⟩:=Ba qr.row b q;exact G8 b cs _ qd c1),k2 b (qr.row.lt b q).2 (fun e=>apart qr.row d1 qd b q e)]) (fun b cs T hT q=>by rw[hne b (G8 b cs T (by rcases hT with e|e<;>rw[e]<;>decide) q),k2 b (Af q) (Ad d1 (by rcases hT with e|e<;>rw[e]<;>decide) q)];exact q),kk k.ran (apart k.ran d1 qd) qd,kk k.held (apart k.held d1 qd) qd,⟨xs,kk u1 (fun b q1 q2=>k.ud b q1 q2) qd⟩,⟨nxs,Al ge ⟨_,ii⟩ qd _,hdf⟩,fun b q1 q2=>by rcases hl b q2 with q|q;exact k.ud b q1 q;have:=(u1.lt b q1).2;omega,k.ap⟩,⟨?_,fun b hb ho=>?_,fun b e=>?_⟩⟩
  · exact am.setCell (p:=⟨C.hb,12,none⟩) (k.lb.1) _
  · rw[hne b (fun e=>ho (Or.inl e)),k2 b hb (fun e=>ho (An C (u:=r.dv) qq e))]
  · rcases e with e|e|e|⟨u,hu,e⟩
    · exact Or.inl (Or.inl e)
    · exact Or.inl (Or.inr (Or.inl e))
    · exact Or.inl (Or.inr (Or.inr (Or.inl e)))
    · simp only[Np,List.mem_cons,List.not_mem_nil,or_false] at hu
      rcases hu with rfl|rfl|rfl|rfl|rfl|rfl|rfl
      · exact Or.inl (An C (u:=r.tx) qq e)
      · exact Or.inl (An C (u:=r.su) qq e)
      · exact Or.inl (An C (u:=r.qv) qq e)
      · exact Or.inl (An C (u:=r.nv) qq e)
      · exact Or.inl (An C (u:=r.ev) qq e)
      · exact Or.inl (An C (u:=r.uv) qq e)
      · rcases hl b e with q|q;exact Or.inl (An C (u:=r.dv) qq q);exact Or.inr q
theorem Jt.gQ (k:Jt B h mb C ss ts w ms s lu ld av kv r) (hB:B<=w.heap.size) (hav:∀ b,av.ownBlock=some b->b<w.heap.size) (Z9:∀ b,kv.ownBlock=some b->b<w.heap.size) {w2:World} {nw:Value} {R2:List T3} (am:Below B w w2) (k2:∀ b,b<w.heap.size->r.qv.ownBlock≠some b->w2.heap[b]?=w.heap[b]?) (hq:Es (w2.setCell ⟨C.hs,2,none⟩ nw) B nw R2) (hdf:∀ ys:List Bool,(∀ i:Nat,ys[i]?=some true->NoH ss ts C.n ms (qx s.R i).looks)->∀ i:Nat,ys[i]?=some true->NoH ss ts C.n ms (qx R2 i).looks) (hl:∀ b,nw.ownBlock=some b->r.qv.ownBlock=some b\/w.heap.size<=b) :
    Jt B h mb C ss ts (w2.setCell ⟨C.hs,2,none⟩ nw) ms ⟨s.T,R2,s.ran,s.held⟩ lu ld av kv ⟨r.tx,r.su,nw,r.nv,r.ev,r.uv,r.dv,r.sn⟩/\FrR B C r ⟨r.tx,r.su,nw,r.nv,r.ev,r.uv,r.dv,r.sn⟩ w (w2.setCell ⟨C.hs,2,none⟩ nw):=by
  obtain⟨f,f1,f2⟩:=k.sn;obtain⟨xs,u1⟩:=k.us;obtain⟨ys,d1,d2⟩:=k.df;obtain⟨zs,cv,lv,qr⟩:=k.qs;have ii:w2.heap[C.hb]?=some (.cells (Rm C h r) 146 (0,0)):=by rw[k2 _ (Af k.bd) (Ad qr.row qd k.bd)];exact k.bd
  have dj:w2.heap[C.hs]?=some (.cells #[I C.n,r.tx,r.qv,r.su] 149 (0,0)):=by rw[k2 _ (Af k.sh) (Ad qr.row qd k.sh)];exact k.sh
  have hne:∀ b,b≠C.hs->(w2.setCell ⟨C.hs,2,none⟩ nw).heap[b]?=w2.heap[b]?:=fun b e=>hC w2 ⟨C.hs,2,none⟩ _ b e
  have G8:∀(b:Nat) (cs:Array Value) (T:TypeId),T≠149->w.heap[b]?=some (.cells cs T (0,0))->b≠C.hs:=fun b cs T hT hb e=>by
    exact qmm
  have kk:∀ {e sz n:Nat} {u:Value} {ys:List Value},w.ownsRow B e sz u n ys->(∀ b,u.ownBlock=some b->r.qv.ownBlock≠some b)->e≠149->(w2.setCell ⟨C.hs,2,none⟩ nw).ownsRow B e sz u n ys:=fun ho hx he=>Aj ho fun b q=>by
    exact qau
  have hHb:C.hb≠C.hs:=fun e=>by have q:=k.sh;rw[← e,k.bd] at q;injection q with q;injection q with _ q;exact absurd q qd
  refine⟨⟨k.lb,k.wd,by rw[hne _ hHb];exact ii,by rw[jB dj];rfl,⟨f,f1.same (by rw[hne _ (fun e=>f1.notCells (e▸k.sh)),k2 _ f1.lt (fun e=>by obtain⟨cs,c1⟩:=Ba qr.row _ e;exact f1.notCells c1)]),f2⟩,kk k.tx (apart k.tx qr.row qd) qd,kk k.su (apart k.su qr.row qd) qd,hq,kk k.ran (apart k.ran qr.row qd) qd,kk k.held (apart k.held qr.row qd) qd,⟨xs,kk u1 (apart u1 qr.row qd) qd⟩,⟨ys,kk d1 (apart d1 qr.row qd) qd,hdf ys d2⟩,k.ud,k.ap⟩,⟨?_,fun b hb ho=>?_,fun b e=>?_⟩⟩
  · exact am.setCell (p:=⟨C.hs,2,none⟩) (k.lb.2.1) _
  · exact qlc
  · exact qhi
end
def KeepB (B h mb k:Nat) (C:Ep) (sv tv:Value) (ss:List S2) (ts:List T2) (ms:Mm) (mk st:List By) (al:Nat) (av kv:Value) (vs:By->Value) (s:Sb) (r:Rv) (is:List I3) (ls:List G3) (c:Int) (t:By) (w:World) (e:Ending) (w':World):Prop:=
  (∃ s' r',e=.returned (.tuple #[])/\Fl C.n s is ls c t s' none/\BS B h mb k C sv tv ss ts w' ms mk st al av kv vs s' r'/\KQ B h mb C av kv r r' w w'/\r'.sn=r.sn)\/
  (∃ v b s' r',e=Kq v/\Fl C.n s is ls c t s' (some b)/\Db B C w' b v/\KQ B h mb C av kv r r' w w')
theorem Tryz.info4b:(prog.info? 4).map (fun i=>(i.zero,i.size,i.bytes))=some (some (.bool false),1,1):=qi
theorem keepB_any (W0:World) (h mb k:Nat) (C:Ep) (sv tv:Value) (ss:List S2) (ts:List T2) (ms:Mm) (mk st:List By) (al:Nat) (av kv:Value) (vs:By->Value) (s:Sb) (r:Rv) (a la:Option Addr) (ac lc:Nat) (is:List I3) (ls:List G3) (xs:List Value) (c:Int) (t:By) (w:World) (q:BS W0.heap.size h mb k C sv tv ss ts w ms mk st al av kv vs s r) (hW:Bw W0 w) (ft:Kl C.n s) (hT:Lr W0) (hr:Cj W0 a is) (hp:Au is=true) (hx:∀ i,(ix is i).text.size<=9223372036854775807)
    (hl:w.ownsRow W0.heap.size 172 3 (.slice la ls.length lc) ls.length xs) (hf:Bo ls ls.length xs) (hle:ls.length<=200) (hls:Lz ls) (c0:0<=c) (c5:c<=5) (ht:t.size<=2000) :
    Calls prog 129 #[.pointer (p_ C.hb),.agg #[.slice a is.length ac],.slice la ls.length lc,.agg #[I c,.string t,nS]] w fun e w'=>KeepB W0.heap.size h mb k C sv tv ss ts ms mk st al av kv vs s r is ls c t w e w':=by
  have fy:=hW.size;obtain⟨W,eW⟩:=Ai ((w.alloc (.cells #[.slice a is.length ac] 94)).alloc (.cells #[I c,.string t,nS] 105));have bn:Bw w W:=qbq
  have HAB:Hd (W.heap[w.heap.size]?=some (.cells #[.slice a is.length ac] 94 (0,0))):=by
    exact qdo
  have kh:Hd (W.heap[w.heap.size+1]?=some (.cells #[I c,.string t,nS] 105 (0,0))):=by
    show _=_;rw[<- eW];have:=Gq (w.alloc (.cells #[.slice a is.length ac] 94)) (.cells #[I c,.string t,nS] 105)
    rwa [show (w.alloc (.cells #[.slice a is.length ac] 94)).heap.size=w.heap.size+1 from qg] at this
  have HQ:=hid q;have J0:=hid (q.bl bn);have ri:=hid (KQ.of_below q bn fy);have HL0:=hid (Ac hl bn);have HFL:=hid hf;have U3:=hid hls;have yp:=hid ft;have HW:=hid hW;have jt:=hid (show Lr W0/\Cj W0 a is/\Au is=true from ⟨hT,hr,hp⟩);have HX:=hid hx;have we:=hid (show 0<=c/\c<=5/\t.size<=2000 from ⟨c0,c5,ht⟩);obtain⟨m,em⟩:=Ai ls.length;have EM:=hid em;have sw:m<=200:=by rw[← em];exact hle
  rw[em] at HL0 ⊢;clear q hW ft hT hr hp hx hl hf hls bn em c0 c5 ht hle;go_enter func129,ntmps129;go_wp2_with fail;clear eW
  go_loopw [12] (fun i wr=>∃(j:Nat) (U:List By) (r1:Rv),j<=m/\i=I j/\Hd (Di C.n s.T (Ih (ls.take j)) U none)/\Hd (Uo C.n U)/\Hd (KQ W0.heap.size h mb C av kv r r1 w wr/\r1.sn=r.sn)/\Hd (BS W0.heap.size h mb k C sv tv ss ts wr ms mk st al av kv vs ⟨U,s.R,s.ran,s.held⟩ r1)/\Hd (wr.ownsRow W0.heap.size 172 3 (.slice la m lc) m xs/\wr.heap[w.heap.size]?=some (.cells #[.slice a is.length ac] 94 (0,0))/\wr.heap[w.heap.size+1]?=some (.cells #[I c,.string t,nS] 105 (0,0)))) (fun i _=>m-(intOf i).toNat)
  case atStart=>exact⟨0,s.T,r,Nat.zero_le _,rfl,.nil,yp.o.1,⟨ri.o,rfl⟩,J0,⟨HL0.o,HAB.o,kh.o⟩⟩
  case round=>
    clear J0 ri HL0 HAB kh;obtain⟨j,U,r1,hj,rfl,xk,tj,HK,HS,HL⟩:=hrel;have hwr:=HK.o.1.bel.size
    by_cases aj:j<m
    · have je:(j:Int)<(m:Int):=qb
      have jm:(0:Int)<=(j:Int):=qb;have sy:j<ls.length:=qca;obtain⟨a2,c2,e2,H8⟩:=Fp (by rw[EM.o];exact HL.o.1) HFL.o;rw[EM.o] at e2;cases e2;obtain⟨b,off,rfl,g1,g2,g3⟩:=H8 j sy;have hz:(gx ls j).sum.size<=2002:=(U3.o _ (Lf sy)).2;(have HSKIP:Hd ((gx ls j).ask=false->Di C.n s.T (Ih (ls.take (j+1))) U none):=fun q=>by rw[Oy sy,Nk,q];simpa using xk.o);have HNEXT:Hd ((gx ls j).ask=true->∀ U',Di C.n U [(gx ls j).sum] U' none->Di C.n s.T (Ih (ls.take (j+1))) U' none):=fun q U' k=>by rw[Oy sy,Nk,q];exact xk.o.app rfl k
      have HFALL:Hd ((gx ls j).ask=true->∀ b,Di C.n U [(gx ls j).sum] U (some b)->Di C.n s.T (Ih ls++[Bk c t]) U (some b)):=fun q b k=>by
        obtain⟨ys,ey⟩:=Xi sy;rw[ey,q,List.append_assoc];exact xk.o.app rfl (by simpa using (k.more (ys++[Bk c t])).1)
      clear H8;generalize (gx ls j).name=x at *;generalize (gx ls j).sum=z at *;generalize (gx ls j).ask=y at *;obtain⟨wG,eWG⟩:=Ai (wr.alloc (.cells #[.string x,.bool y,.string z] 172));have yj:=aB eWG;(have U6:Hd (wG.heap[wr.heap.size]?=some (.cells #[.string x,.bool y,.string z] 172 (0,0))):=by show _=_;rw[← eWG];exact Gq _ _);have wa:=hid (HS.o.bl yj);have HKG:Hd (KQ W0.heap.size h mb C av kv r r1 w wG):=HK.o.1.after (Ak.refl _ _) (Ak.refl _ _) HS.o yj qb;have HLG:=hid (show wG.ownsRow W0.heap.size 172 3 (.slice (some ⟨b,off,none⟩) m lc) m xs/\wG.heap[w.heap.size]?=some (.cells #[.slice a is.length ac] 94 (0,0))/\wG.heap[w.heap.size+1]?=some (.cells #[I c,.string t,nS] 105 (0,0)) from ⟨Ac HL.o.1 yj,Ab yj HL.o.2.1,Ab yj HL.o.2.2⟩);obtain⟨-,d1,d2⟩:=Bb U6.o;have hbG':=yj.size;clear yj;cases y
      · go_wp2_with fail
        clear eWG g1 g2 g3;exact⟨⟨j+1,U,r1,qb,qj,HSKIP.o qae,tj,⟨HKG.o,HK.o.2⟩,wa,HLG⟩,qar⟩
      · go_wp2_with fail
        clear eWG g1 g2 g3 d1 d2;refine(Qy W0.heap.size h mb k C sv tv ss ts ms mk st al av kv vs _ r1 z wG wa.o qb tj.o hz).mono ?_;rintro e w1 (⟨v,rfl,U',r2,rfl,sr,md,yb,l8⟩|⟨v,rfl,bb,r2,sr,I2,yb⟩)
        · have re:=hid (HNEXT.o qae U' sr)
          have HT2:Hd (Uo C.n U'):=sr.ok tj.o (fun x hx=>by rw[List.mem_singleton] at hx;rw[hx];exact hz);have fs:=hid (show KQ W0.heap.size h mb C av kv r r2 w w1/\r2.sn=r.sn from ⟨HKG.o.trans (Ak.refl _ _) (Ak.refl _ _) wa.o yb,l8.trans HK.o.2⟩);have O0:=hid (show w1.ownsRow W0.heap.size 172 3 (.slice (some ⟨b,off,none⟩) m lc) m xs/\w1.heap[w.heap.size]?=some (.cells #[.slice a is.length ac] 94 (0,0))/\w1.heap[w.heap.size+1]?=some (.cells #[I c,.string t,nS] 105 (0,0)) from ⟨yb.ownK wa.o HLG.o.1 qd,yb.blk wa.o HLG.o.2.1 qd,yb.blk wa.o HLG.o.2.2 qd⟩);have cw:=hid md;clear sr md yb l8;go_wp2_with fail;exact⟨⟨j+1,U',r2,qb,qj,re,HT2,fs,cw,O0⟩,qar⟩
        · have Ge:=hid (HFALL.o qae bb sr)
          have vi:=hid (show KQ W0.heap.size h mb C av kv r r2 w w1/\Db W0.heap.size C w1 bb v from ⟨HKG.o.trans (Ak.refl _ _) (Ak.refl _ _) wa.o yb,I2⟩);exact qkv
    · have je:¬ (j:Int)<(m:Int):=qb
      (have J3:Hd (Di C.n s.T (Ih ls) U none):=by have:=xk.o;rwa [List.take_of_length_le qcb] at this);obtain⟨z0,z1,z2,zf⟩:=Ea HL.o.2.2;obtain⟨fo,efo⟩:=Ai (Bk c t);have EF:=hid efo;(have HFO:Hd (∀ V:World,Calls prog 151 #[.agg #[I c,.string t,nS]] V fun e w'=>e=.returned (.string fo)/\Bw V w'):=fun V=>by rw[<- efo];exact Rg c t V we.o.1 we.o.2.1 we.o.2.2);(have hfos:fo.size<=2002:=by rw[← efo];exact Dn we.o.2.2);clear efo;go_wp2_with fail;refine(HFO.o _).mono ?_;rintro e w1 ⟨rfl,af⟩;have ie:=hid (HS.o.bl af);have d6:Hd (KQ W0.heap.size h mb C av kv r r1 w w1):=HK.o.1.after (Ak.refl _ _) (Ak.refl _ _) HS.o af qb;have X2:=hid (show w1.ownsRow W0.heap.size 172 3 (.slice la m lc) m xs/\w1.heap[w.heap.size]?=some (.cells #[.slice a is.length ac] 94 (0,0))/\w1.heap[w.heap.size+1]?=some (.cells #[I c,.string t,nS] 105 (0,0)) from ⟨Ac HL.o.1 af,Ab af HL.o.2.1,Ab af HL.o.2.2⟩);have hb1':=af.size;clear af z0 z1 z2 zf;go_wp2_with fail;refine(Qy W0.heap.size h mb k C sv tv ss ts ms mk st al av kv vs _ r1 fo w1 ie.o qb tj.o hfos).mono ?_;rintro e w2 (⟨v,rfl,U',r2,rfl,sr,md,yb,l8⟩|⟨v,rfl,bb,r2,sr,I2,yb⟩);rotate_left 1
      · have Ge:Hd (Di C.n s.T (Ih ls++[Bk c t]) U (some bb)):=by show Di _ _ _ _ _;rw[EF.o];exact J3.o.app rfl sr
        have vi:=hid (show KQ W0.heap.size h mb C av kv r r2 w w2/\Db W0.heap.size C w2 bb v from ⟨d6.o.trans (Ak.refl _ _) (Ak.refl _ _) ie.o yb,I2⟩);exact qkv
      (have HPC:Hd (Di C.n s.T (Ih ls++[Bk c t]) U' none):=by show Di _ _ _ _ _;rw[EF.o];exact J3.o.app rfl sr);have fs:=hid (show KQ W0.heap.size h mb C av kv r r2 w w2/\r2.sn=r.sn from ⟨d6.o.trans (Ak.refl _ _) (Ak.refl _ _) ie.o yb,l8.trans HK.o.2⟩);have O0:=hid (show w2.ownsRow W0.heap.size 172 3 (.slice la m lc) m xs/\w2.heap[w.heap.size]?=some (.cells #[.slice a is.length ac] 94 (0,0))/\w2.heap[w.heap.size+1]?=some (.cells #[I c,.string t,nS] 105 (0,0)) from ⟨yb.ownK ie.o X2.o.1 qd,yb.blk ie.o X2.o.2.1 qd,yb.blk ie.o X2.o.2.2 qd⟩);have cw:=hid md;have G6:=fs.o.1.bel.size;clear sr md yb l8 ie d6 X2 HS HK HL xk J3 tj;obtain⟨zs,cv,lv,qr⟩:=cw.o.rs.qs;obtain⟨qa,qc,eqv⟩:=Aw qr.row;have EQV:=hid eqv;have HQR:=hid qr;obtain⟨y0,-,-,-,-,-,-,-,y8,-,X7,-⟩:=cw.o.rs.cellsB;rw[eqv] at X7;obtain⟨mR,emR⟩:=Ai s.R.length;have EMR:=hid emR;have hmR:mR<=2000:=by rw[← emR];exact yp.o.2.1
      try dsimp only at X7
      rw[emR] at X7;clear eqv qr emR
      by_cases hfull:mR=2000
      · have hfI:((mR:Int) == 2000)=true:=qh
        have HNA:Hd (Fl C.n s is ls c t ⟨U',s.R,s.ran,s.held⟩ (some .full)):=.recs HPC.o (by rw[EMR.o];omega);have X3:Hd (Db W0.heap.size C w2 .full (.agg #[I 11,ze,nS])):=⟨by rw[cH cw.o.rs.bd];rfl,by rw[cH cw.o.rs.bd];rfl,rfl⟩;clear hfull;go_wp2_with fail;exact⟨rfl,Or.inr ⟨_,_,_,r2,rfl,HNA.o,X3.o,fs.o.1⟩⟩
      have hfI:((mR:Int) == 2000)=false:=qh
      go_upto_region 10 with fail
      clear y0 y8 X7;obtain⟨U,eU⟩:=Ai w2.drew;have bm:Bw w2 U:=qbt;have dw:=hid (cw.o.bl bm);have Y2:=dw.o.rs.sh;rw[EQV.o] at Y2
      try dsimp only at Y2
      rw[EMR.o] at Y2;have gv:Hd (U.heap[C.hb]?=some (.cells (Rm C h r2) 146 (0,0))/\U.heap[C.hs]?=some (.cells #[I C.n,r2.tx,.slice qa mR qc,r2.su] 149 (0,0))/\U.heap[w.heap.size]?=some (.cells #[.slice a is.length ac] 94 (0,0))/\U.heap[w.heap.size+1]?=some (.cells #[I c,.string t,nS] 105 (0,0))):=⟨dw.o.rs.bd,Y2,Ab bm O0.o.2.1,Ab bm O0.o.2.2⟩;have jw:Hd (KQ W0.heap.size h mb C av kv r r2 w U):=fs.o.1.after (Ak.refl _ _) (Ak.refl _ _) cw.o bm qb;have HLU:=hid (Ac O0.o.1 bm);have hbU2:=bm.size;have hbWU:=HW.o.trans jw.o.bel
      have T9:Hd (Calls prog 152 #[.agg #[.slice a is.length ac],.slice la m lc,.agg #[I c,.string t,nS],I C.n] U fun e w'=>Bw U w'∧(((∀ i,i<m→Am (gx ls i).name)∧∃ v1 v2,e=.returned (.agg #[v1,v2,.string (Ap C.n (Bk c t))])∧RecOwn U.heap.size w' v1 v2 is (ls.map (Kw C.n)))∨((∃ i,i<m∧¬ Am (gx ls i).name)∧e=.returned (.agg #[nS,nS,ze])))):=by
        have H8:Hr U la ls:=by
          obtain⟨a2,c2,e2,H8⟩:=Fp (by rw[EM.o];exact HLU.o) HFL.o;rw[EM.o] at e2;cases e2;exact H8
        have:=Vv a la none ac lc 0 is ls c t 0 C.n (Bk c t) U (jt.o.1.bl hbWU) (jt.o.2.1.bl hbWU) H8 (zo ((Ko jt.o.2.2).2)) HX.o (by rw[EM.o];exact sw) (fun a2 nr V=>by
          obtain⟨d,rfl⟩:=Int.eq_ofNat_of_zero_le we.o.1;have:=Ps d t a2 nr V (zo we.o.2.1) we.o.2.2
          exact this) jt.o.2.2 dw.o.rs.wd.1 dw.o.rs.wd.2 (Qbt c t) (Dn we.o.2.2) (fun i hi=>by have:=(U3.o _ (Lf hi)).2;omega) (fun i=>by
          rcases Nat.lt_or_ge i ls.length with q|q
          · have:=(U3.o _ (Lf q)).1.2.1;omega
          · unfold gx;rw[gG,List.getElem?_eq_none q];exact Nat.zero_le _)
        rw[EM.o] at this;exact this
      have tr:=hid bm;refine Lt.begin 29 (fun w'=>w'.heap[C.hb]?=some (.cells (Rm C h r2) 146 (0,0))/\w'.heap[C.hs]?=some (.cells #[I C.n,r2.tx,.slice qa mR qc,r2.su] 149 (0,0))/\w'.heap[w.heap.size]?=some (.cells #[.slice a is.length ac] 94 (0,0))/\w'.heap[w.heap.size+1]?=some (.cells #[I c,.string t,nS] 105 (0,0))) qi ?_;rw[eU];clear eU Y2 bm;change K 0 _
      iterate 23
       refine Lt.ti (v:=?_) gv.o ?_ ?_;rotate_left 1
       · exact qjj
       simp only[gX]
      refine Lt.sp (i:=23) (fun K hK=>?_);go_simp;refine T9.o.mono ?_;rintro e w4 ⟨cj,⟨hnames,v1,v2,rfl,rx1,rx2,ku,B6,nj,uh⟩|⟨⟨i,hi,sf⟩,_⟩⟩;rotate_left 1
      · exact absurd (U3.o _ (Lf (by rw[EM.o];exact hi))).1 sf
      obtain⟨va1,vc1,ev1⟩:=Aw ku;obtain⟨va2,vc2,ev2⟩:=Aw nj;rw[List.length_map] at ev2;rw[ev1,ev2];have ib:=hid (dw.o.bl cj);have T5:Hd (w4.heap[C.hb]?=some (.cells (Rm C h r2) 146 (0,0))/\w4.heap[C.hs]?=some (.cells #[I C.n,r2.tx,.slice qa mR qc,r2.su] 149 (0,0))/\w4.heap[w.heap.size]?=some (.cells #[.slice a is.length ac] 94 (0,0))/\w4.heap[w.heap.size+1]?=some (.cells #[I c,.string t,nS] 105 (0,0))):=⟨Ab cj gv.o.1,Ab cj gv.o.2.1,Ab cj gv.o.2.2.1,Ab cj gv.o.2.2.2⟩;refine hK.out _ _ (fun _=>T5.o) (fun _=>?_);clear hK K 
      try simp only[gX]
      refine Lt.sp (i:=24) (fun K hK=>?_);go_simp;refine Cc (Q:=fun x=>K _ x) ?_;intro w5 cu lh
      try dsimp only
      have im:Hd (w5.heap[C.hb]?=some (.cells (Rm C h r2) 146 (0,0))/\w5.heap[C.hs]?=some (.cells #[I C.n,r2.tx,.slice qa mR qc,r2.su] 149 (0,0))/\w5.heap[w.heap.size]?=some (.cells #[.slice a is.length ac] 94 (0,0))/\w5.heap[w.heap.size+1]?=some (.cells #[I c,.string t,nS] 105 (0,0))):=⟨Ab cu T5.o.1,Ab cu T5.o.2.1,Ab cu T5.o.2.2.1,Ab cu T5.o.2.2.2⟩;have io:=hid (ib.o.bl cu);refine hK.out _ _ (fun _=>im.o) (fun _=>?_);clear hK K 
      try simp only[gX]
      refine Lt.sp (i:=25) (fun K hK=>?_);have hU4:=cj.size;have h45:=cu.size;have qr5:=((HQR.o.bl tr.o).bl cj).bl cu;have M6:=qr5.row;rw[EQV.o] at M6
      try dsimp only at M6 qr5
      rw[EMR.o] at M6;have zr:=lh.o;refine step_appQ2 rfl qt W0.heap.size (.slice qa mR qc) mR zs qt M6 w4.heap.size _ _ _ qt lh.o qct qb qb ?_;intro g' ai w7 ah ae ct Y8;have hq5n:=fun (b:Nat) (cs:Array Value) (T:TypeId) (hT:T≠97) (hb:w5.heap[b]?=some (.cells cs T (0,0)))=>Ad M6 hT hb;have A1:∀(b:Nat) (cs:Array Value) (T:TypeId),T≠97->w5.heap[b]?=some (.cells cs T (0,0))->w7.heap[b]?=some (.cells cs T (0,0)):=fun b cs T hT hb=>Bq hb ae (hq5n b cs T hT hb);have ia:Hd (w7.heap[C.hb]?=some (.cells (Rm C h r2) 146 (0,0))/\w7.heap[C.hs]?=some (.cells #[I C.n,r2.tx,.slice qa mR qc,r2.su] 149 (0,0))/\w7.heap[w.heap.size]?=some (.cells #[.slice a is.length ac] 94 (0,0))/\w7.heap[w.heap.size+1]?=some (.cells #[I c,.string t,nS] 105 (0,0))):=⟨A1 _ _ _ qd im.o.1,A1 _ _ _ qd im.o.2.1,A1 _ _ _ qd im.o.2.2.1,A1 _ _ _ qd im.o.2.2.2⟩;(have gt:w5.grownBy w7 r2.qv.ownBlock:=by rw[EQV.o,EMR.o];exact ae);(have hold2:Ky r2.qv w5 w7:=by rw[EQV.o,EMR.o];exact Y8);(have aq:w7.ownsRow W0.heap.size 97 3 (.slice (p_ g') (mR+1) ai) (s.R.length+1) (zs++[.slice va1 is.length vc1,.slice va2 ls.length vc2,.string (Ap C.n (Bk c t))]):=by rw[EMR.o];exact ah);have hadd:=Gy.addI (h:=C.hs) (rec:=⟨is,ls.map (Kw C.n),Ap C.n (Bk c t)⟩) qr5 gt aq (Ah (Ac (ev1▸ku) cu) qb) B6 (Ah (Ac (ev2▸nj) cu) qb) uh (fun i hi b q1 q2=>by rw[← ev1] at q2;have h1:=(ku.lt b q2).1;obtain⟨ys,r1,_⟩:=HQR.o.code i hi;have h2:=(r1.lt b q1).2;omega) (fun i hi b q1 q2=>by rw[← ev2] at q2;have h1:=(nj.lt b q2).1;obtain⟨ys,r1,_⟩:=HQR.o.look i hi;have h2:=(r1.lt b q1).2;omega) ia.o.2.1 (.slice (p_ g') (mR+1) ai);have hq5b:∀ b,r2.qv.ownBlock=some b->W0.heap.size<=b:=fun b e=>(qr5.row.lt b e).1;have hM:=Jt.of io.o.rs
      have hG:=hM.gQ (w2:=w7) qb io.o.ownA.1 io.o.ownA.2 ((Below.refl _ _).grown gt qb hq5b) (fun b h1 h2=>gt.block b h1 (fun e=>h2 e.symm)) hadd (fun ys hy i hi=>by
        have h1:=hy i hi
        rcases Nat.lt_or_ge i s.R.length with q|q
        · rw[Ym q];exact h1
        · obtain⟨k1,h2,_⟩:=h1
          unfold qx at h2;rw[gG,List.getElem?_eq_none q] at h2
          exact absurd h2 (Nat.not_lt_zero _)) (fun b q=>by
        obtain rfl:g'=b:=qaq
        rcases ct with q|q
        · exact Or.inl (by rw[EQV.o,EMR.o];exact q)
        · right;omega)
      have HG:=hid hG
      have HOQ:Hd (Ky r2.qv w2 (w7.setCell ⟨C.hs,2,none⟩ (.slice (p_ g') (mR+1) ai))):=by
        refine Ky.next (w1:=w7) (fun g l cp cs e hb=>?_) (fun g cs hb=>?_)
        · exact hold2 g l cp cs e (Ab cu (Ab cj (Ab tr.o hb)))
        · rw[hC w7 ⟨C.hs,2,none⟩ _ g (fun e=>by have e:g=C.hs:=e;subst e;have o:=ia.o.2.1;rw[hb] at o;injection o with o;injection o with _ o;exact absurd o qd)];exact hb
      have fu:Hd (FrR W0.heap.size C r2 r2 w2 w5):=FrR.of_below (Ay tr.o (Ay cj cu)) qb;have h57:=ae.size;refine hK.out _ _ (fun _=>ia.o) (fun _=>?_);clear hK K ae ah Y8 gt hold2 aq hadd hM hG qr5 M6 hq5n A1 ct hq5b cu cj ku nj B6 uh ev1 ev2;simp only[gX];refine Lt.sp (i:=26) (fun K hK=>?_);go_simp;refine hK.out _ _ (fun _=>ia.o) (fun _=>?_);clear hK K 
      try simp only[gX]
      refine Lt.sp (i:=27) (fun K hK=>?_);go_simp;refine hK.out _ _ (fun _=>ia.o) (fun _=>?_);clear hK K 
      try simp only[gX]
      refine Lt.ti (i:=28) (v:=?_) ia.o ?_ ?_;rotate_left 1
      · exact qjj
      simp only[gX];obtain⟨-,-,n2,-,nf⟩:=Lk ia.o.2.1;refine Lt.sp (i:=29) (fun K hK=>?_);go_simp;refine hK.out _ _ (fun h=>absurd rfl h) (fun _=>?_);clear hK K n2 nf
      try simp only[gX]
      refine Lt.done qi ?_ _;obtain⟨zy,e10⟩:=Ai (w7.setCell ⟨C.hs,2,none⟩ (.slice (p_ g') (mR+1) ai));rw[e10] at HG HOQ ⊢;(have hs10:w7.heap.size<=zy.heap.size:=by rw[← e10];simp);obtain⟨nq,enq⟩:=Ai (Value.slice (p_ g') (mR+1) ai);have ENQ:=hid enq;rw[enq] at HG;clear e10 enq;obtain⟨ux,uo⟩:=HG.o.1.us;obtain⟨ua,uc,eu⟩:=Aw uo;rw[EMR.o] at eu uo;have EU:=hid eu;rw[eu] at uo;have HUA:Hd (∀ o:Obj,(zy.alloc o).ownsRow W0.heap.size 4 1 (.slice ua mR uc) mR (ux.map .bool)):=fun o=>uo.alloc o;have HUO:=hid uo;have ww:=HG.o.1.bd;(have y3:zy.cell? ⟨C.hb,3,none⟩=some (.slice ua mR uc):=by rw[cH ww,← eu];rfl);have hhb:=Af ww;obtain⟨i0,B3,bp,bh,bv⟩:=info_parts Tryz.info4b;clear eu uo
      go_upto_region 12 with (at_builtin;refine wpList_append_lies _ rfl (.tmp 72) (.tmp 73) 110 rfl W0.heap.size 4 i0 (.bool false) 1 1 underlying110 B3 bp bh bv rfl qd _ mR (ux.map .bool) rfl (HUA.o _) ⟨zy.heap.size,0,none⟩ 1 1 [.bool true] rfl rfl (cell_one_new _ _ _) qaf qb qm qb qh (zy.heap.size+1) qg ?_;intro g11 cp11 yx Y7 yd hl11 hlt11;have hh11:yx.heap[C.hb]?=some (.cells (Rm C h ⟨r2.tx,r2.su,nq,r2.nv,r2.ev,r2.uv,r2.dv,r2.sn⟩) 146 (0,0)):=(by rw[yd.block C.hb qh (fun e=>Ad HUO.o qd ww e.symm),Lib.alloc_old _ _ _ hhb];exact ww);have y3b:yx.cell? ⟨C.hb,3,none⟩=some r2.uv:=(by rw[cH hh11];rfl);have y3f:∀ j,yx.frozen? ⟨C.hb,j,none⟩=false:=(fun j=>fH hh11 j))
      (have hub:∀ b,r2.uv.ownBlock=some b->W0.heap.size<=b:=fun b e=>by have e2:=EU.o;dsimp only at e2;rw[e2] at e;exact(HUO.o.lt b e).1);have hgu:(zy.alloc (.cells #[.bool true] 4)).grownBy yx r2.uv.ownBlock:=by have e2:=EU.o;dsimp only at e2;rw[e2];exact yd
      have hG2:=HG.o.1.gU (w2:=yx) (nw:=.slice (p_ g11) (mR+1) cp11) (nxs:=ux++[true]) (lu2:=mR+1) qb (fun b e=>by have:=io.o.ownA.1 b e;omega) (fun b e=>by have:=io.o.ownA.2 b e;omega) (bel_of hgu qb hub) (k2_of hgu) (by rw[List.map_append];exact Y7) (fun b q=>by
        obtain rfl:g11=b:=qaq;have e2:=EU.o;dsimp only at e2 ⊢;rw[e2]
        rcases hl11 with q|q;exact Or.inl q;exact Or.inr qb)
      (have HK11:Hd (∀(g:Nat) (cs:Array Value),zy.heap[g]?=some (.cells cs 97 (0,0))->(yx.setCell ⟨C.hb,3,none⟩ (.slice (p_ g11) (mR+1) cp11)).heap[g]?=some (.cells cs 97 (0,0))):=fun g cs hb=>by rw[hC yx ⟨C.hb,3,none⟩ _ g (fun e=>by have e:g=C.hb:=e;subst e;have o:=ww;rw[hb] at o;injection o with o;injection o with _ o;exact absurd o qd),k2_of hgu g (Af hb) (fun e=>by have e2:=EU.o;(try dsimp only at e2);rw[e2] at e;exact Ad HUO.o qd hb e)];exact hb);have G1:=hid hG2;clear hG2 hgu yd Y7 y3 y3b y3f hh11 hl11 hlt11 ww hhb HUA HUO gv T5 im ia;obtain⟨L7,e12⟩:=Ai (yx.setCell ⟨C.hb,3,none⟩ (.slice (p_ g11) (mR+1) cp11));obtain⟨nu,enu⟩:=Ai (Value.slice (p_ g11) (mR+1) cp11);rw[e12] at G1 HK11 ⊢;rw[enu] at G1;have hs12:=G1.o.2.bel.size;clear e12 enu;obtain⟨dx,do_,dd⟩:=G1.o.1.df;obtain⟨da,dc,ed⟩:=Aw do_;rw[EMR.o] at ed do_;have ED:=hid ed;rw[ed] at do_;have HDD:=hid dd;have HDA:Hd (∀ o:Obj,(L7.alloc o).ownsRow W0.heap.size 4 1 (.slice da mR dc) mR (dx.map .bool)):=fun o=>do_.alloc o;have zv:=hid do_;have C6:=G1.o.1.bd;(have y12:L7.cell? ⟨C.hb,12,none⟩=some (.slice da mR dc):=by rw[cH C6,← ed];rfl);have hhb2:=Af C6;clear ed do_ dd
      go_wp2_with (at_builtin;refine wpList_append_lies _ rfl (.tmp 81) (.tmp 82) 110 rfl W0.heap.size 4 i0 (.bool false) 1 1 underlying110 B3 bp bh bv rfl qd _ mR (dx.map .bool) rfl (HDA.o _) ⟨L7.heap.size,0,none⟩ 1 1 [.bool false] rfl rfl (cell_one_new _ _ _) qaf qb qm qb qh (L7.heap.size+1) qg ?_;intro g13 cp13 P1 hown13 N0 hl13 hlt13;have hh13:P1.heap[C.hb]?=some (.cells (Rm C h ⟨r2.tx,r2.su,nq,r2.nv,r2.ev,nu,r2.dv,r2.sn⟩) 146 (0,0)):=(by rw[N0.block C.hb qh (fun e=>Ad zv.o qd C6 e.symm),Lib.alloc_old _ _ _ hhb2];exact C6);have y12b:P1.cell? ⟨C.hb,12,none⟩=some r2.dv:=(by rw[cH hh13];rfl);have y12f:∀ j,P1.frozen? ⟨C.hb,j,none⟩=false:=(fun j=>fH hh13 j))
      (have hdb:∀ b,r2.dv.ownBlock=some b->W0.heap.size<=b:=fun b e=>by have e2:=ED.o;(try dsimp only at e2);rw[e2] at e;exact(zv.o.lt b e).1);have se:(L7.alloc (.cells #[.bool false] 4)).grownBy P1 r2.dv.ownBlock:=by have e2:=ED.o;(try dsimp only at e2);rw[e2];exact N0
      have hG3:=G1.o.1.gD (w2:=P1) (nw:=.slice (p_ g13) (mR+1) cp13) (nxs:=dx++[false]) (ld2:=mR+1) qb (fun b e=>by have:=io.o.ownA.1 b e;omega) (fun b e=>by have:=io.o.ownA.2 b e;omega) (bel_of se qb hdb) (k2_of se) (by rw[List.map_append];exact hown13) (fun i hi=>HDD.o i (by
        rcases Nat.lt_or_ge i dx.length with q|q
        · rwa [List.getElem?_append_left q] at hi
        · rw[List.getElem?_append_right q] at hi
          rcases Nat.eq_zero_or_pos (i-dx.length) with q2|q2
          · rw[q2] at hi;simp at hi
          · rw[List.getElem?_eq_none qh] at hi;cases hi)) (fun b q=>by
        obtain rfl:g13=b:=qaq;have e2:=ED.o;(try dsimp only at e2);(try dsimp only);rw[e2]
        rcases hl13 with q|q;exact Or.inl q;exact Or.inr qb)
      have HG3:=hid hG3;clear hG3;(have HK13:Hd (∀(g:Nat) (cs:Array Value),L7.heap[g]?=some (.cells cs 97 (0,0))->(P1.setCell ⟨C.hb,12,none⟩ (.slice (p_ g13) (mR+1) cp13)).heap[g]?=some (.cells cs 97 (0,0))):=fun g cs hb=>by rw[hC P1 ⟨C.hb,12,none⟩ _ g (fun e=>by have e:g=C.hb:=e;subst e;have o:=C6;rw[hb] at o;injection o with o;injection o with _ o;exact absurd o qd),k2_of se g (Af hb) (fun e=>by have e2:=ED.o;(try dsimp only at e2);rw[e2] at e;exact Ad zv.o qd hb e)];exact hb);have hF:=fu.o.trans (HG.o.2.trans (G1.o.2.trans HG3.o.2));(have el:(s.R++[(⟨is,ls.map (Kw C.n),Ap C.n (Bk c t)⟩:T3)]).length=mR+1:=by rw[List.length_append,EMR.o];rfl);obtain⟨b1,k1⟩:=cw.o.upd hF.bel hF.keep (Jt.to (s:=⟨U',s.R++[⟨is,ls.map (Kw C.n),Ap C.n (Bk c t)⟩],s.ran,s.held⟩) (by dsimp only;rw[el];exact HG3.o.1)) hF.new ((HOQ.o.next HK11.o).next HK13.o) (by rw[EQV.o,← ENQ.o];simp only[slen];rw[EMR.o];omega);refine bodyPost_end (v:=.tuple #[]) (by simp[results,results129,go_sem]) rfl ?_;exact Or.inl ⟨_,_,rfl,Fl.ok HPC.o (by rw[EMR.o];omega),b1,fs.o.1.trans (Ak.refl _ _) (Ak.refl _ _) cw.o k1,fs.o.2⟩
theorem Lt.two {P:Program} {S:World->Prop} {z:Nat} {oi oj:Oper} {l:Array Bool} {a:Act} (hr:Region.ready .any ops l=[i,j]) (hi:ops[i]?=some oi) (hj:ops[j]?=some oj)
    (h1:∀ K:Act->World->Prop,Shut (∀ a w,(i≠z->S w)->((i≠z->S w)->Lt P ops Q S z n (l.setIfInBounds i true) a w)->K a w)->if Region.wanted oi (yielded ops a.tmps)=true then Oper.wp P oi a w K Q else K (a.put oi.dst undef) w)
    (h2:∀ K:Act->World->Prop,Shut (∀ a w,(j≠z->S w)->((j≠z->S w)->Lt P ops Q S z n (l.setIfInBounds j true) a w)->K a w)->if Region.wanted oj (yielded ops a.tmps)=true then Oper.wp P oj a w K Q else K (a.put oj.dst undef) w):Lt P ops Q S z (n+1) l a w:=by
  refine⟨fun h0=>(by rw[hr] at h0;cases h0),fun k hk=>?_⟩;rw[hr] at hk
  rcases (by simpa using hk:k=i\/k=j) with rfl|rfl
  · exact wpOp_step hi (fun K hK=>h1 K (fun a w hS hW=>hK a w ⟨hS,hW hS⟩))
  · exact wpOp_step hj (fun K hK=>h2 K (fun a w hS hW=>hK a w ⟨hS,hW hS⟩))
section
variable {B h mb k:Nat} {C:Ep} {sv tv:Value} {ss:List S2} {ts:List T2} {w:World} {ms:Mm} {mk st:List By} {al:Nat} {av kv:Value} {vs:By->Value} {s:Sb} {r:Rv}
theorem BS.old9 (q:BS B h mb k C sv tv ss ts w ms mk st al av kv vs s r) {w2:World} {u:Value} {n j:Nat} {xs:List Value} {nw:Value} (ho:w.ownsRow B 9 1 u n xs) (k2:∀ b,b<w.heap.size->u.ownBlock≠some b->w2.heap[b]?=w.heap[b]?):Ky r.qv w (w2.setCell ⟨C.hb,j,none⟩ nw):=Ky.same fun b e=>by
  obtain⟨zs,cv,lv,qr⟩:=q.rs.qs;obtain⟨cs,c1⟩:=Ba qr.row b e;rw[hC w2 ⟨C.hb,j,none⟩ _ b (fun e=>by have e:b=C.hb:=e;have o:=q.rs.bd;rw[← e,c1] at o;injection o with o;injection o with _ o;exact absurd o qd),k2 b (Af c1) (Ad ho qd c1)]
theorem BS.grE (q:BS B h mb k C sv tv ss ts w ms mk st al av kv vs s r) (hB:B<=w.heap.size) {w2:World} {nw:Value} {x:By} (am:Below B w w2) (k2:∀ b,b<w.heap.size->r.ev.ownBlock≠some b->w2.heap[b]?=w.heap[b]?) (ge:w2.ownsRow B 9 1 nw (s.held++[x]).length (Ax (s.held++[x]))) (hl:∀ b,nw.ownBlock=some b->r.ev.ownBlock=some b\/w.heap.size<=b) :
    BS B h mb k C sv tv ss ts (w2.setCell ⟨C.hb,2,none⟩ nw) ms mk st al av kv vs ⟨s.T,s.R,s.ran,s.held++[x]⟩ ⟨r.tx,r.su,r.qv,r.nv,nw,r.uv,r.dv,r.sn⟩/\KQ B h mb C av kv r ⟨r.tx,r.su,r.qv,r.nv,nw,r.uv,r.dv,r.sn⟩ w (w2.setCell ⟨C.hb,2,none⟩ nw):=by
  obtain⟨M,F⟩:=(Jt.of q.rs).gE hB q.ownA.1 q.ownA.2 am k2 ge hl;exact q.upd F.bel F.keep M.to F.new (q.old9 q.rs.held k2) (Nat.le_refl _)
theorem BS.grN (q:BS B h mb k C sv tv ss ts w ms mk st al av kv vs s r) (hB:B<=w.heap.size) {w2:World} {nw:Value} {x:By} (am:Below B w w2) (k2:∀ b,b<w.heap.size->r.nv.ownBlock≠some b->w2.heap[b]?=w.heap[b]?) (ge:w2.ownsRow B 9 1 nw (s.ran++[x]).length (Ax (s.ran++[x]))) (hl:∀ b,nw.ownBlock=some b->r.nv.ownBlock=some b\/w.heap.size<=b) :
    BS B h mb k C sv tv ss ts (w2.setCell ⟨C.hb,1,none⟩ nw) ms mk st al av kv vs ⟨s.T,s.R,s.ran++[x],s.held⟩ ⟨r.tx,r.su,r.qv,nw,r.ev,r.uv,r.dv,r.sn⟩/\KQ B h mb C av kv r ⟨r.tx,r.su,r.qv,nw,r.ev,r.uv,r.dv,r.sn⟩ w (w2.setCell ⟨C.hb,1,none⟩ nw):=by
  obtain⟨M,F⟩:=(Jt.of q.rs).gN hB q.ownA.1 q.ownA.2 am k2 ge hl;exact q.upd F.bel F.keep M.to F.new (q.old9 q.rs.ran k2) (Nat.le_refl _)
end
theorem k2_via {row:Option Nat} (hb:Bw w w1) (hg:w1.grownBy w2 row):∀ b,b<w.heap.size->row≠some b->w2.heap[b]?=w.heap[b]?:=fun b h1 h2=>by rw[hg.block b (zo hb.size) (fun e=>h2 e.symm),hb.block b h1]
theorem bel_via {row:Option Nat} (hb:Bw w w1) (hg:w1.grownBy w2 row) (hB:B<=w.heap.size) (hr:∀ b,row=some b->B<=b):Below B w w2:=(hb.mono hB).grown hg (zo hb.size) hr
end Go.Proofs.YtfgoholldpeabaaGreatDoor
