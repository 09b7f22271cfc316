import Derived.Test.YtoakjccojifagaaGreatDoorBaD
import Derived.Test.YtoakjccojifagaaGreatDoorBaE
import Derived.Test.YtoakjccojifagaaGreatDoorBvJ
namespace Go.Proofs.YtoakjccojifagaaGreatDoor
open _root_.Go.Proofs.Tryz Go.RowKit Go.Deep
open Value renaming slice->J,string->S,agg->G
open Option renaming some->M,none->N
open Obj renaming cells->O
open Go renaming Value->Z,World->E
open Ending renaming returned->H
open _root_ renaming List->L,Nat->X
set_option linter.unusedVariables false
set_option linter.unusedSimpArgs false
set_option maxHeartbeats 8000000
set_option maxRecDepth 100000
variable {w w':E} {lo:X} {v cv qv nv ev:Z} {R:L T3} {zs:L Z} {kv lv:X→Z} {d:BD}
theorem szSpace_l2(sa ta:Option Addr)(c1 c2:X)(ss:L S2)(ts:L T2)(AL:Int)(hL0:0≤AL)(hL1:AL≤1048576)(w:E)(h:Lm w sa ss ta ts):Calls prog 5 #[G #[J sa ss.length c1,J ta ts.length c2],I AL] w λe w'=>Bw w w'/\∃r:Int,e=H (I r)/\(r<0\/(Ew ss ts/\0<=r/\r<=1048576)):=by
 have ak:Bw w (w.alloc (O #[J sa ss.length c1,J ta ts.length c2] 29)):=aN _ _;have k0:(w.alloc (O #[J sa ss.length c1,J ta ts.length c2] 29)).cell? ⟨w.heap.size,1,N⟩=M (J ta ts.length c2):=qk;obtain⟨rs,rt,ls,lt,ns,xs,nt,lc,xt⟩:=h;go_enter func5,ntmps5;go_wp2_with fail;refine(szSS_any sa c1 ss AL _ hL0 hL1 (rs.bl ak) ls ns xs).mono ?_;rintro e w1 ⟨af,r,rfl,hr⟩;have bj:=bt ak af;have k1:=Aa af k0
 rcases hr with hr|⟨h1,B3,my⟩
 ·clear ak af k0
  go_wp2;go_ret;exact⟨bj,-1,rfl,Or.inl qb⟩
 ·clear ak af k0
  go_wp2_with fail;refine(szTS_any ta c2 ts r _ qb qb (rt.bl bj) lt nt lc xt).mono ?_;rintro e w2 ⟨ag,r2,rfl,nr⟩;have bg:=bt bj ag;clear ag bj k1
  rcases nr with nr|⟨h2,nr,wv,h3⟩
  ·exact qdq
  ·go_wp2
   go_ret;exact⟨bg,r2,rfl,Or.inr ⟨⟨qb,qb,h3⟩,qb,qb⟩⟩
theorem Wv.xn{ta ra:Option Addr}{ts:L By}{rs:L T3}(h:Wv w ta ts ra rs)(i:X):(nx ts i).size≤maxLen:=by
 unfold nx;rw[gG]
 rcases Nat.lt_or_ge i ts.length with q|q
 ·rw[Jr q];exact h.xt _ (List.getElem_mem q)
 ·rw[List.getElem?_eq_none q];exact Nat.zero_le _
structure Qad (w0:E) (ta ra sa ua na:Option Addr) (T:L By) (R:L T3) (ss:L S2) (tp:L T2) (xs:L By):Prop where
 so:Wv w0 ta T ra R
 lt:T.length≤1048576
 qs:En R
 sp:Lm w0 sa ss ua tp
 sm:Ew ss tp
 nl:xs.length≤1048576
 ns:Ca w0 na xs
 nn:∀i,(nx xs i).size≤9223372036854775807
theorem Qaq(a:Option Addr)(cap:X)(xs:L By)(w:E)(hc:Ca w a xs)(hl:xs.length≤1048576):Calls prog 10 #[J a xs.length cap] w λe w'=>Bw w w'∧∃g:X,e=H (J (p_ g) xs.length xs.length)∧De w' w.heap.size w'.heap.size (J (p_ g) xs.length xs.length) xs:=by
 refine(Oi a cap xs w hc hl).mono ?_;rintro e w' ⟨hb,g,rfl,ho⟩;rw[Pc]at ho;exact⟨hb,g,rfl,Bh.new ho⟩
section
variable {w0:E} {ta ra sa ua na:Option Addr} {T:L By} {R:L T3} {ss:L S2} {tp:L T2} {xs:L By} {n:Int} {V:E} {lo hi lo' hi' lo2 hi2 g1 tc:X} {v2 u1 u2 v3:Z}
theorem Qad.stIn(h:Qad w0 ta ra sa ua na T R ss tp xs){a:Option Addr}(o1:De V lo hi (J (p_ g1) T.length tc) T)(r:Lc V a R):Mc V (p_ g1) T a R:=by
 obtain⟨a',c',e,hs⟩:=o1.sl;cases e;exact⟨hs,h.lt,h.so.xn,r,h.so.ok,h.qs⟩
theorem Pt(h:Qad w0 ta ra sa ua na T R ss tp xs)(o1:De V lo hi (J (p_ g1) T.length tc) T)(o2:Hs V lo hi v2 R)(s1:Hc V lo' hi' u1 ss)(s2:Gw V lo' hi' u2 tp)(o3:De V lo2 hi2 v3 xs):Calls prog 7 #[G #[I n,J (p_ g1) T.length tc,v2],G #[u1,u2],v3] V λe w'=>Bw V w'∧∃d cv tx qv nv ev zs kv lv,e=H (G (bV d cv tx qv nv ev))∧Jn n ss tp T R xs d∧BW w' V.heap.size d cv tx qv nv ev zs kv lv:=by
 obtain⟨a2,p2,rfl,rz,rw_⟩:=o2.sl;obtain⟨a3,p3,rfl,r3⟩:=s1.sl;obtain⟨a4,p4,rfl,r4⟩:=s2.sl;obtain⟨a5,p5,rfl,r5⟩:=o3.sl;exact Qbb n g1 tc p5 a5 xs a2 a3 a4 p2 p3 p4 T R ss tp V (h.stIn o1 rz.row) rw_ h.qs.1 h.qs.2 (h.sp.move r3 r4) h.sm h.nl r5 h.nn
theorem Nw(h:Qad w0 ta ra sa ua na T R ss tp xs)(hT:Kk V)(hP:Lq V)(o1:De V lo hi (J (p_ g1) T.length tc) T)(o2:Hs V lo hi v2 R)(s1:Hc V lo' hi' u1 ss)(s2:Gw V lo' hi' u2 tp)(o3:De V lo2 hi2 v3 xs):Calls prog 11 #[G #[I n,J (p_ g1) T.length tc,v2],G #[u1,u2],v3] V λe w'=>Bw V w'∧∃d cv tx qv nv ev zs kv lv,e=H (G (bV d cv tx qv nv ev))∧Jn n ss tp T R xs d∧BW w' V.heap.size d cv tx qv nv ev zs kv lv∧Jf [cv,tx,nv,ev]:=by
 obtain⟨a2,p2,rfl,rz,rw_⟩:=o2.sl;obtain⟨a3,p3,rfl,r3⟩:=s1.sl;obtain⟨a4,p4,rfl,r4⟩:=s2.sl;obtain⟨a5,p5,rfl,r5⟩:=o3.sl;refine(implAll_any n g1 0 tc p5 a5 a2 a3 a4 p2 p3 p4 T R ss tp xs V ⟨hT,hP,h.stIn o1 rz.row,rz,h.qs.1,h.qs.2,h.sp.move r3 r4,h.sm,h.nl,r5,h.nn⟩).mono ?_;rintro e w' ⟨hb,v,rfl,d,cv,tx,qv,nv,ev,zs,kv,lv,jx,hbo⟩;have he:=hbo.eq;subst he;exact⟨hb,d,cv,tx,qv,nv,ev,zs,kv,lv,rfl,jx,hbo.bw,hbo.ap⟩
theorem Qad.spv(h:Qad w0 ta ra sa ua na T R ss tp xs):Gu ss tp=0→SpV ss tp:=λe=>(Rf h.sp e).v
theorem Qad.tl(h:Qad w0 ta ra sa ua na T R ss tp xs):Gu ss tp=0→tp.length≤200:=λe=>(Rf h.sp e).l2
end
theorem Mj.rows{hi:X}{ts:L T2}{xs:L Z}{cv:X->Z}(h:Mj w lo hi v ts xs cv):Eh w lo hi v ts.length (λi=>(tx ts i).code.length) xs cv:=
 ⟨h.row,λi hi=>(h.fil i hi).2,λi hi=>by obtain⟨ys,h1,_⟩:=h.code i hi;exact⟨ys,h1⟩,λi j hi hj hne b e1 e2=>by
  rcases Nat.lt_or_gt_of_ne hne with h1|h1
  ·exact h.apart i j h1 hj b e1 e2
  ·exact h.apart j i h1 hi b e2 e1⟩
theorem Hp.keptB(h:Hp w lo v R zs kv lv)(h1:∀b,v.ownBlock=M b→w'.heap[b]?=w.heap[b]?)(h2:∀i,i<R.length→∀b,(kv i).ownBlock=M b→w'.heap[b]?=w.heap[b]?)(h3:∀i,i<R.length→∀b,(lv i).ownBlock=M b→w'.heap[b]?=w.heap[b]?):Hp w' lo v R zs kv lv:=
 ⟨Al h.row h1,h.fil,λi hi=>by obtain⟨ys,a,b⟩:=h.code i hi;exact⟨ys,Al a (h2 i hi),b⟩,λi hi=>by obtain⟨ys,a,b⟩:=h.look i hi;exact⟨ys,Al a (h3 i hi),b⟩,h.apc,h.apl⟩
theorem BW.keepGe{tx:Z}(h:BW w lo d cv tx qv nv ev zs kv lv)(hk:∀b,lo≤b→b<w.heap.size→w'.heap[b]?=w.heap[b]?):BW w' lo d cv tx qv nv ev zs kv lv:=
 ⟨Al h.ch λb q=>hk b (h.ch.lt b q).1 (h.ch.lt b q).2,Al h.txs λb q=>hk b (h.txs.lt b q).1 (h.txs.lt b q).2,h.rq.keptB (λb q=>hk b (h.rq.row.lt b q).1 (h.rq.row.lt b q).2) (λi hi b q=>by obtain⟨ys,a,_⟩:=h.rq.code i hi;exact hk b (a.lt b q).1 (a.lt b q).2) (λi hi b q=>by obtain⟨ys,a,_⟩:=h.rq.look i hi;exact hk b (a.lt b q).1 (a.lt b q).2),Al h.ran λb q=>hk b (h.ran.lt b q).1 (h.ran.lt b q).2,Al h.held λb q=>hk b (h.held.lt b q).1 (h.held.lt b q).2⟩
theorem BW.keepLt{w3:E}{tx:Z}(h:BW w lo d cv tx qv nv ev zs kv lv)(k:BW w3 lo d cv tx qv nv ev zs kv lv)(hk:∀b,b<w3.heap.size→w'.heap[b]?=w.heap[b]?):BW w' lo d cv tx qv nv ev zs kv lv:=
 ⟨Al h.ch λb q=>hk b (k.ch.lt b q).2,Al h.txs λb q=>hk b (k.txs.lt b q).2,h.rq.keptB (λb q=>hk b (k.rq.row.lt b q).2) (λi hi b q=>by obtain⟨ys,a,_⟩:=k.rq.code i hi;exact hk b (a.lt b q).2) (λi hi b q=>by obtain⟨ys,a,_⟩:=k.rq.look i hi;exact hk b (a.lt b q).2),Al h.ran λb q=>hk b (k.ran.lt b q).2,Al h.held λb q=>hk b (k.held.lt b q).2⟩
theorem Hp.rowsT{w8:E}(h:Hp w lo v R zs kv lv)(k:Hp w8 lo v R zs kv lv):Cr w lo w8.heap.size v R.length (λi=>(qx R i).code.length) (λi=>(qx R i).looks.length) zs kv lv:=
 ⟨⟨h.row,λb e=>(k.row.lt b e).2⟩,λi hi=>(h.fil i hi).1,λi hi=>(h.fil i hi).2.1,λi hi=>by obtain⟨ys,h1,_⟩:=h.code i hi;obtain⟨_,k1,_⟩:=k.code i hi;exact⟨ys,h1,λb e=>(k1.lt b e).2⟩,λi hi=>by obtain⟨ys,h1,_⟩:=h.look i hi;obtain⟨_,k1,_⟩:=k.look i hi;exact⟨ys,h1,λb e=>(k1.lt b e).2⟩,λi j hi hj hne b e1 e2=>by
  rcases Nat.lt_or_gt_of_ne hne with h1|h1
  ·exact h.apc i j h1 hj b e1 e2
  ·exact h.apc j i h1 hi b e2 e1,λi j hi hj hne b e1 e2=>by
  rcases Nat.lt_or_gt_of_ne hne with h1|h1
  ·exact h.apl i j h1 hj b e1 e2
  ·exact h.apl j i h1 hi b e2 e1⟩
theorem kR1_le{T:L By}(hT:T.length≤1048576)(hR:En R):kR (λi=>(qx R i).code.length) (λi=>(qx R i).looks.length) (1+T.length) R.length≤100000000000000:=by
 have h1:=kR_bound (λi=>(qx R i).code.length) (λi=>(qx R i).looks.length) (1+T.length) R.length hR.2;have h2:=hR.1;omega
theorem kT1_le{ss:L S2}{tp:L T2}{K:X}(hs:Ew ss tp)(hK:K≤100000000000000):kT (λi=>(tx tp i).code.length) (K+2*ss.length) tp.length≤800000000000000:=by
 have h1:=kT_bound (λi=>(tx tp i).code.length) (K+2*ss.length) tp.length hs.lc;have h2:=hs.ls;have h3:=hs.lt;omega
theorem buildAllLaw(n:Int)(ta ra sa ua na:Option Addr)(tc rc c1 c2 xc:X)(T:L By)(R:L T3)(ss:L S2)(tp:L T2)(xs:L By)(w:E)(hT:Kk w)(hP:Lq w)(h:Wv w ta T ra R)(hs:Lm w sa ss ua tp)(D6:Ca w na xs)(oq:xs.length≤maxLen)(hxn:∀s∈xs,s.size≤maxLen):Calls prog 3 #[G #[I n,J ta T.length tc,J ra R.length rc],G #[J sa ss.length c1,J ua tp.length c2],J na xs.length xc] w λe w'=>e=H (.bool true)∧Bw w w':=by
 obtain⟨W,eW⟩:=Aj ((w.alloc (O #[I n,J ta T.length tc,J ra R.length rc] 25)).alloc (O #[J sa ss.length c1,J ua tp.length c2] 29));have bq:Bw w W:=by rw[←eW];exact Ay (Ai _ _) (Ai _ _)
 have HA:Hd (W.heap[w.heap.size]?=M (O #[I n,J ta T.length tc,J ra R.length rc] 25 (0,0))):=qel
 have HS:Hd (W.heap[w.heap.size+1]?=M (O #[J sa ss.length c1,J ua tp.length c2] 29 (0,0))):=by
  show _=_;rw[←eW];have:=Hj (w.alloc (O #[I n,J ta T.length tc,J ra R.length rc] 25)) (O #[J sa ss.length c1,J ua tp.length c2] 29)
  rwa [show(w.alloc (O #[I n,J ta T.length tc,J ra R.length rc] 25)).heap.size=w.heap.size+1 from qg]at this
 have HT:=Ad hT;have HP:=Ad hP;have yu:=Ad h;have HSP:=Ad hs;have HB:=Ad bq;have HXS:=Ad D6
 have T4:∀i,(nx xs i).size≤9223372036854775807:=λi=>by
  have h1:(nx xs i).size≤maxLen:=by
   unfold nx;rw[gG]
   rcases Nat.lt_or_ge i xs.length with q|q
   ·rw[Jr q];exact hxn _ (List.getElem_mem q)
   ·rw[List.getElem?_eq_none q];exact Nat.zero_le _
  unfold maxLen at h1;omega
 obtain⟨xm,exm⟩:=Aj xs.length;have EXM:=Ad exm;have HSZ:=Ad (λ(V:E) (hV:Bw w V) (AL:Int) (h0:0≤AL) (h1:AL≤1048576)=>Ol na xc xs V (D6.bl hV) oq hxn AL h0 h1);rw[exm]at HSZ ⊢;clear hT hP h hs bq D6 oq hxn exm;obtain⟨p0,p1,p2,pf⟩:=Dx HA.o;obtain⟨s0,s1⟩:=Ft HS.o;go_enter func3,ntmps3;go_wp2_with fail;clear eW p0 p1 p2 pf s0 s1;refine(Ym n ta ra tc rc T R 1048576 qb qb W (yu.o.bl HB.o)).mono ?_;rintro e w1 ⟨af,r,rfl,hr⟩;replace HA:=Ad (Ab af HA.o);replace HS:=Ad (Ab af HS.o);replace HB:=Ad (bt HB.o af);clear af
 rcases hr with hr|⟨B3,my,aj,hqs⟩
 ·exact qdz
 have nr:¬ r<0:=qb;obtain⟨s0,s1⟩:=Ft HS.o;go_wp2_with fail;clear s0 s1;refine(szSpace_l2 sa ua c1 c2 ss tp r B3 my w1 (HSP.o.bl HB.o)).mono ?_;rintro e w2 ⟨ag,r2,rfl,wv⟩;replace HA:=Ad (Ab ag HA.o);replace HS:=Ad (Ab ag HS.o);replace HB:=Ad (bt HB.o ag);clear ag B3 my nr
 rcases wv with wv|⟨ly,B3,my⟩
 ·exact qdz
 have hr4:¬ r2<0:=qb;go_wp2_with fail;refine(HSZ.o w2 HB.o r2 B3 my).mono ?_;rintro e w2b ⟨rfl,r3,rfl,hr5⟩
 rcases hr5 with hr5|⟨hxm,hr6,-⟩
 ·exact qdz
 have hr7:¬ r3<0:=qb;have hxl2:xs.length≤1048576:=by rw[EXM.o];omega
 have HL:=Ad (show Qad w ta ra sa ua na T R ss tp xs from ⟨yu.o,aj,hqs,HSP.o,ly,hxl2,HXS.o,T4⟩);have HTC:=Ad (λ(V:E) (hV:Bw w V)=>Qaq na xc xs V (HXS.o.bl hV) HL.o.nl);rw[EXM.o]at HTC;clear aj hqs ly hxm HSZ
 go_upto_region 11 with fail
 have V6:=Ad (λ(V:E) (hV:Bw w V)=>Mt n ta ra tc rc T R V (HL.o.so.st.bl hV) (HL.o.so.rq.bl hV) HL.o.lt HL.o.qs);have yr:=Ad (λ(V:E) (hV:Bw w V)=>Mu sa ua c1 c2 ss tp V (HL.o.sp.rs.bl hV) (HL.o.sp.rt.bl hV) HL.o.sm);obtain⟨wD,eD⟩:=Aj w2.drew;have bD:Bw w2 wD:=qab;have bh:Hd (∀V:E,Bw w2 V→V.heap[w.heap.size]?=M (O #[I n,J ta T.length tc,J ra R.length rc] 25 (0,0))∧V.heap[w.heap.size+1]?=M (O #[J sa ss.length c1,J ua tp.length c2] 29 (0,0))):=λV h=>⟨Ab h HA.o,Ab h HS.o⟩
 go_cut [8] (λp wx=>∃(P:X)(d:BD)(cv tx qv nv ev:Z)(zs:L Z)(kv lv:X→Z),p=.pointer (p_ P)∧Hd (wx.heap[P]?=M (O (bV d cv tx qv nv ev) 37 (0,0))∧Jn n ss tp T R xs d∧BW wx w2.heap.size d cv tx qv nv ev zs kv lv∧Bw w2 wx))
 case first=>
  refine Lt.begin 8 (λw'=>w'.heap[w.heap.size]?=M (O #[I n,J ta T.length tc,J ra R.length rc] 25 (0,0))∧w'.heap[w.heap.size+1]?=M (O #[J sa ss.length c1,J ua tp.length c2] 29 (0,0))) qi ?_;rw[eD];clear eD;refine Lt.ti (i:=0) (v:=?_) (bh.o _ bD) ?_ ?_;rotate_left 1
  ·exact qbl
  simp only[gX];refine Lt.ti (i:=2) (v:=?_) (bh.o _ bD) ?_ ?_;rotate_left 1
  ·exact qbl
  simp only[gX];refine Lt.ti (i:=4) (v:=?_) (bh.o _ bD) ?_ ?_;rotate_left 1
  ·exact qbl
  simp only[gX];refine Lt.two (i:=1) (j:=7) (oi:={ dst:=M 33,op:=Op.call { callee:=Callee.value (Operand.func 8),args:=#[Operand.tmp 32],argTypes:=#[25] },type:=35,pos := "exact.go:1961",after:=#[{ on:=0,ground:=Ground.data }],guard:=N }) (oj:={ dst:=M 8,op:=Op.alloc 37,type:=0,pos := "exact.go:1961",after:=#[],guard:=N }) qi rfl rfl (λK hK=>?_) (λK hK=>?_)
  ·skip
   go_simp;refine(V6.o _ (bt HB.o bD)).mono ?_;rintro e wA ⟨co,g1,v2,rfl,fq,fe⟩;obtain⟨a2,p2,rfl,-⟩:=fe.sl;have bA:=bt bD co;refine hK.out _ _ (λ_=>bh.o _ bA) (λ_=>?_);clear hK K
   try simp only[gX]
   refine Lt.two (i:=3) (j:=7) (oi:={ dst:=M 35,op:=Op.call { callee:=Callee.value (Operand.func 9),args:=#[Operand.tmp 34],argTypes:=#[29] },type:=43,pos := "exact.go:1961",after:=#[{ on:=2,ground:=Ground.data },{ on:=1,ground:=Ground.chain }],guard:=N }) (oj:={ dst:=M 8,op:=Op.alloc 37,type:=0,pos := "exact.go:1961",after:=#[],guard:=N }) qi rfl rfl (λK hK=>?_) (λK hK=>?_)
   ·skip
    go_simp;refine(yr.o _ (bt HB.o bA)).mono ?_;rintro e wB ⟨fs,u1,u2,rfl,gq,gp⟩;obtain⟨a3,p3,rfl,-⟩:=gq.sl;obtain⟨a4,p4,rfl,-⟩:=gp.sl;have bB:=bt bA fs;replace fq:=fq.bl fs;replace fe:=fe.bl fs;refine hK.out _ _ (λ_=>bh.o _ bB) (λ_=>?_);clear hK K
    try simp only[gX]
    refine Lt.two (i:=5) (j:=7) (oi:={ dst:=M 37,op:=Op.call { callee:=Callee.value (Operand.func 10),args:=#[Operand.tmp 36],argTypes:=#[22] },type:=22,pos := "exact.go:1961",after:=#[{ on:=4,ground:=Ground.data },{ on:=3,ground:=Ground.chain }],guard:=N }) (oj:={ dst:=M 8,op:=Op.alloc 37,type:=0,pos := "exact.go:1961",after:=#[],guard:=N }) qi rfl rfl (λK hK=>?_) (λK hK=>?_)
    ·skip
     go_simp;refine(HTC.o _ (bt HB.o bB)).mono ?_;rintro e wZ ⟨gz,g3,rfl,oz⟩;have bZ:=bt bB gz;replace fq:=fq.bl gz;replace fe:=fe.bl gz;replace gq:=gq.bl gz;replace gp:=gp.bl gz;refine hK.out _ _ (λ_=>bh.o _ bZ) (λ_=>?_);clear hK K
     try simp only[gX]
     refine Lt.two (i:=6) (j:=7) (oi:={ dst:=M 38,op:=Op.call { callee:=Callee.value (Operand.func 7),args:=#[Operand.tmp 33,Operand.tmp 35,Operand.tmp 37],argTypes:=#[35,43,22] },type:=37,pos := "exact.go:1961",after:=#[{ on:=1,ground:=Ground.data },{ on:=3,ground:=Ground.data },{ on:=5,ground:=Ground.data },{ on:=5,ground:=Ground.chain }],guard:=N }) (oj:={ dst:=M 8,op:=Op.alloc 37,type:=0,pos := "exact.go:1961",after:=#[],guard:=N }) qi rfl rfl (λK hK=>?_) (λK hK=>?_)
     ·skip
      go_simp;refine(Pt (n:=n) HL.o fq fe gq gp oz).mono ?_;rintro e wC ⟨gu,d,cv,tx,qv,nv,ev,zs,kv,lv,rfl,jx,ow⟩;have uj:=Ad jx;clear jx;obtain⟨⟨b1,b2,rfl⟩,⟨b3,b4,rfl⟩,⟨b5,b6,rfl⟩,⟨b7,b8,rfl⟩,⟨b9,Ld,rfl⟩⟩:=ow.slices;replace ow:=BW.base ow (show w2.heap.size≤_ from bZ.size);have bC:=bt bZ gu;refine hK.out _ _ (λ_=>bh.o _ bC) (λ_=>?_);clear hK K
      try simp only[gX]
      clear fq fe gq gp oz;refine Lt.sp (i:=7) (λK hK=>?_);go_simp;refine Bq (Q:=λx=>K _ x) ?_;intro wP gk l5
      try dsimp only
      have zP:wP.heap[wC.heap.size]?=M (O Qo 37 (0,0)):=l5.out;clear l5;have bP:=bt bC gk;have po:w2.heap.size≤wC.heap.size:=bC.size;replace ow:=ow.bl gk;refine hK.out _ _ (λ_=>bh.o _ bP) (λ_=>?_);clear hK K
      try simp only[gX]
      obtain⟨P,eP⟩:=Aj wC.heap.size;rw[eP]at zP po ⊢;obtain⟨ye,yd,yb,xz,xy,xx,xw,xv,xu,xr⟩:=Dz zP;have zcf:=fZ zP;obtain⟨l,el⟩:∃l:L (X×X×Z),l=[(P,0,I d.c),(P,1,S d.t),(P,2,J b1 d.ch.length b2),(P,3,I d.n),(P,4,J b3 d.T.length b4),(P,5,J b5 d.R.length b6),(P,6,J b7 d.ran.length b8),(P,7,J b9 d.held.length Ld),(P,8,S d.A),(P,9,S d.B)]:=⟨_,rfl⟩;have bi:∀x∈l,x.1=P:=qy;have be:=Cl l wP _ bi zP;have hS:=ow.setU bi zP;have cr:Bw w2 (Be wP l):=Az l wP bP (λx hx=>qz);obtain⟨V,eV⟩:=Aj (Be wP l);rw[eV]at be cr hS;rw[el]at be eV;simp only[Be,List.foldl]at eV;simp only[List.foldl,List.setIfInBounds_toArray,List.set_cons_zero,List.set_cons_succ]at be;have HV:=Ad be;have jz:=Ad cr;have ew:=Ad hS;clear be cr el bi hS;refine Lt.sp (i:=8) (λK hK=>?_);go_simp
      try rw[eV]
      refine hK.out _ _ (λh=>absurd rfl h) (λ_=>?_);clear hK K;refine Lt.done qi ?_ _;go_wp2_with fail;go_meet;exact⟨P,d,_,_,_,_,_,zs,kv,lv,rfl,HV.o,uj.o,ew.o,jz.o⟩
     ·skip
      go_simp;refine Bq (Q:=λx=>K _ x) ?_;intro wP gk l5
      try dsimp only
      have zP:wP.heap[wZ.heap.size]?=M (O Qo 37 (0,0)):=l5.out;clear l5;have bP:=bt bZ gk;have po:w2.heap.size≤wZ.heap.size:=bZ.size;replace fq:=fq.bl gk;replace fe:=fe.bl gk;replace gq:=gq.bl gk;replace gp:=gp.bl gk;replace oz:=oz.bl gk;refine hK.out _ _ (λ_=>bh.o _ bP) (λ_=>?_);clear hK K
      try simp only[gX]
      refine Lt.sp (i:=6) (λK hK=>?_);go_simp;refine(Pt (n:=n) HL.o fq fe gq gp oz).mono ?_;rintro e wC ⟨gu,d,cv,tx,qv,nv,ev,zs,kv,lv,rfl,jx,ow⟩;have uj:=Ad jx;clear jx;obtain⟨⟨b1,b2,rfl⟩,⟨b3,b4,rfl⟩,⟨b5,b6,rfl⟩,⟨b7,b8,rfl⟩,⟨b9,Ld,rfl⟩⟩:=ow.slices;replace ow:=BW.base ow (show w2.heap.size≤_ from bP.size);have bC:=bt bP gu;replace zP:=Ab gu zP;refine hK.out _ _ (λ_=>bh.o _ bC) (λ_=>?_);clear hK K
      try simp only[gX]
      clear fq fe gq gp oz;obtain⟨P,eP⟩:=Aj wZ.heap.size;exact qdf
    ·skip
     go_simp;refine Bq (Q:=λx=>K _ x) ?_;intro wP gk l5
     try dsimp only
     have zP:wP.heap[wB.heap.size]?=M (O Qo 37 (0,0)):=l5.out;clear l5;have bP:=bt bB gk;have po:w2.heap.size≤wB.heap.size:=bB.size;replace fq:=fq.bl gk;replace fe:=fe.bl gk;replace gq:=gq.bl gk;replace gp:=gp.bl gk;refine hK.out _ _ (λ_=>bh.o _ bP) (λ_=>?_);clear hK K
     try simp only[gX]
     refine Lt.sp (i:=5) (λK hK=>?_);go_simp;refine(HTC.o _ (bt HB.o bP)).mono ?_;rintro e wZ ⟨gz,g3,rfl,oz⟩;have bZ:=bt bP gz;replace fq:=fq.bl gz;replace fe:=fe.bl gz;replace gq:=gq.bl gz;replace gp:=gp.bl gz;replace zP:=Ab gz zP;refine hK.out _ _ (λ_=>bh.o _ bZ) (λ_=>?_);clear hK K
     try simp only[gX]
     refine Lt.sp (i:=6) (λK hK=>?_);go_simp;refine(Pt (n:=n) HL.o fq fe gq gp oz).mono ?_;rintro e wC ⟨gu,d,cv,tx,qv,nv,ev,zs,kv,lv,rfl,jx,ow⟩;have uj:=Ad jx;clear jx;obtain⟨⟨b1,b2,rfl⟩,⟨b3,b4,rfl⟩,⟨b5,b6,rfl⟩,⟨b7,b8,rfl⟩,⟨b9,Ld,rfl⟩⟩:=ow.slices;replace ow:=BW.base ow (show w2.heap.size≤_ from bZ.size);have bC:=bt bZ gu;replace zP:=Ab gu zP;refine hK.out _ _ (λ_=>bh.o _ bC) (λ_=>?_);clear hK K
     try simp only[gX]
     clear fq fe gq gp oz;obtain⟨P,eP⟩:=Aj wB.heap.size;exact qdf
   ·skip
    go_simp;refine Bq (Q:=λx=>K _ x) ?_;intro wP gk l5
    try dsimp only
    have zP:wP.heap[wA.heap.size]?=M (O Qo 37 (0,0)):=l5.out;clear l5;have bP:=bt bA gk;have po:w2.heap.size≤wA.heap.size:=bA.size;replace fq:=fq.bl gk;replace fe:=fe.bl gk;refine hK.out _ _ (λ_=>bh.o _ bP) (λ_=>?_);clear hK K
    try simp only[gX]
    refine Lt.sp (i:=3) (λK hK=>?_);go_simp;refine(yr.o _ (bt HB.o bP)).mono ?_;rintro e wB ⟨fs,u1,u2,rfl,gq,gp⟩;obtain⟨a3,p3,rfl,-⟩:=gq.sl;obtain⟨a4,p4,rfl,-⟩:=gp.sl;have bB:=bt bP fs;replace fq:=fq.bl fs;replace fe:=fe.bl fs;replace zP:=Ab fs zP;refine hK.out _ _ (λ_=>bh.o _ bB) (λ_=>?_);clear hK K
    try simp only[gX]
    refine Lt.sp (i:=5) (λK hK=>?_);go_simp;refine(HTC.o _ (bt HB.o bB)).mono ?_;rintro e wZ ⟨gz,g3,rfl,oz⟩;have bZ:=bt bB gz;replace fq:=fq.bl gz;replace fe:=fe.bl gz;replace gq:=gq.bl gz;replace gp:=gp.bl gz;replace zP:=Ab gz zP;refine hK.out _ _ (λ_=>bh.o _ bZ) (λ_=>?_);clear hK K
    try simp only[gX]
    refine Lt.sp (i:=6) (λK hK=>?_);go_simp;refine(Pt (n:=n) HL.o fq fe gq gp oz).mono ?_;rintro e wC ⟨gu,d,cv,tx,qv,nv,ev,zs,kv,lv,rfl,jx,ow⟩;have uj:=Ad jx;clear jx;obtain⟨⟨b1,b2,rfl⟩,⟨b3,b4,rfl⟩,⟨b5,b6,rfl⟩,⟨b7,b8,rfl⟩,⟨b9,Ld,rfl⟩⟩:=ow.slices;replace ow:=BW.base ow (show w2.heap.size≤_ from bZ.size);have bC:=bt bZ gu;replace zP:=Ab gu zP;refine hK.out _ _ (λ_=>bh.o _ bC) (λ_=>?_);clear hK K
    try simp only[gX]
    clear fq fe gq gp oz;obtain⟨P,eP⟩:=Aj wA.heap.size;exact qdf
  ·skip
   go_simp;refine Bq (Q:=λx=>K _ x) ?_;intro wP gk l5
   try dsimp only
   have zP:wP.heap[wD.heap.size]?=M (O Qo 37 (0,0)):=l5.out;clear l5;have bP:=bt bD gk;have po:w2.heap.size≤wD.heap.size:=bD.size;refine hK.out _ _ (λ_=>bh.o _ bP) (λ_=>?_);clear hK K
   try simp only[gX]
   refine Lt.sp (i:=1) (λK hK=>?_);go_simp;refine(V6.o _ (bt HB.o bP)).mono ?_;rintro e wA ⟨co,g1,v2,rfl,fq,fe⟩;obtain⟨a2,p2,rfl,-⟩:=fe.sl;have bA:=bt bP co;replace zP:=Ab co zP;refine hK.out _ _ (λ_=>bh.o _ bA) (λ_=>?_);clear hK K
   try simp only[gX]
   refine Lt.sp (i:=3) (λK hK=>?_);go_simp;refine(yr.o _ (bt HB.o bA)).mono ?_;rintro e wB ⟨fs,u1,u2,rfl,gq,gp⟩;obtain⟨a3,p3,rfl,-⟩:=gq.sl;obtain⟨a4,p4,rfl,-⟩:=gp.sl;have bB:=bt bA fs;replace fq:=fq.bl fs;replace fe:=fe.bl fs;replace zP:=Ab fs zP;refine hK.out _ _ (λ_=>bh.o _ bB) (λ_=>?_);clear hK K
   try simp only[gX]
   refine Lt.sp (i:=5) (λK hK=>?_);go_simp;refine(HTC.o _ (bt HB.o bB)).mono ?_;rintro e wZ ⟨gz,g3,rfl,oz⟩;have bZ:=bt bB gz;replace fq:=fq.bl gz;replace fe:=fe.bl gz;replace gq:=gq.bl gz;replace gp:=gp.bl gz;replace zP:=Ab gz zP;refine hK.out _ _ (λ_=>bh.o _ bZ) (λ_=>?_);clear hK K
   try simp only[gX]
   refine Lt.sp (i:=6) (λK hK=>?_);go_simp;refine(Pt (n:=n) HL.o fq fe gq gp oz).mono ?_;rintro e wC ⟨gu,d,cv,tx,qv,nv,ev,zs,kv,lv,rfl,jx,ow⟩;have uj:=Ad jx;clear jx;obtain⟨⟨b1,b2,rfl⟩,⟨b3,b4,rfl⟩,⟨b5,b6,rfl⟩,⟨b7,b8,rfl⟩,⟨b9,Ld,rfl⟩⟩:=ow.slices;replace ow:=BW.base ow (show w2.heap.size≤_ from bZ.size);have bC:=bt bZ gu;replace zP:=Ab gu zP;refine hK.out _ _ (λ_=>bh.o _ bC) (λ_=>?_);clear hK K
   try simp only[gX]
   clear fq fe gq gp oz;obtain⟨P,eP⟩:=Aj wD.heap.size;exact qdf
 case rest=>
  obtain⟨P8,d8,cv8,tx8,qv8,nv8,ev8,G1,py,G4,rfl,yq⟩:=hcut;obtain⟨w3,rfl⟩:∃wk,wk=wc:=⟨_,rfl⟩;have mj:=Ad (Ab yq.o.2.2.2 HA.o);have jj:=Ad (Ab yq.o.2.2.2 HS.o);have d6:=Ad (bt HB.o yq.o.2.2.2);clear V6 yr bh bD eD;have V6:=Ad (λ(V:E) (hV:Bw w V)=>Mt n ta ra tc rc T R V (HL.o.so.st.bl hV) (HL.o.so.rq.bl hV) HL.o.lt HL.o.qs);have yr:=Ad (λ(V:E) (hV:Bw w V)=>Mu sa ua c1 c2 ss tp V (HL.o.sp.rs.bl hV) (HL.o.sp.rt.bl hV) HL.o.sm);obtain⟨p0,p1,p2,pf⟩:=Dx mj.o;go_wp2_with fail;clear p0 p1 p2 pf;refine(V6.o w3 d6.o).mono ?_;rintro e w4 ⟨ce,g9,v9,rfl,o9,z9⟩;obtain⟨a9,c9,rfl,-⟩:=z9.sl
  go_upto_region 13 with fail
  obtain⟨w5,e5⟩:=Aj (w4.alloc (O #[I n,J (p_ g9) T.length T.length,J a9 R.length c9] 35));obtain⟨P9,eP9⟩:=Aj w4.heap.size;have dh:Bw w4 w5:=qhe;have tm:=Ad (nW e5 eP9);rw[e5,eP9];have O9:=Ad (show De w5 w3.heap.size P9 (J (p_ g9) T.length T.length) T∧Hs w5 w3.heap.size P9 (J a9 R.length c9) R from by rw[←eP9];exact⟨o9.bl dh,z9.bl dh⟩);have h35:=Ay ce dh;have hs34:=ce.size;have hs45:=dh.size;clear e5 o9 z9 ce dh;replace mj:=Ad (Ab h35 mj.o);replace jj:=Ad (Ab h35 jj.o);replace d6:=Ad (bt d6.o h35);have fx:=Ad (show w5.heap[P8]?=M (O (bV d8 cv8 tx8 qv8 nv8 ev8) 37 (0,0))∧BW w5 w2.heap.size d8 cv8 tx8 qv8 nv8 ev8 G1 py G4 from ⟨Ab h35 yq.o.1,yq.o.2.2.1.bl h35⟩);clear h35;obtain⟨s0,s1⟩:=Ft jj.o;go_wp2_with fail;clear s0 s1;refine(yr.o w5 d6.o).mono ?_;rintro e w6 ⟨bz,u1,u2,rfl,o10,z10'⟩;obtain⟨Z1,Mi,rfl,-⟩:=o10.sl;obtain⟨Z0,vf,rfl,-⟩:=z10'.sl
  go_upto_region 14 with fail
  obtain⟨w7a,e7⟩:=Aj (w6.alloc (O #[J Z1 ss.length Mi,J Z0 tp.length vf] 43));obtain⟨jt,eP10⟩:=Aj w6.heap.size;have cj:=aB e7;have jv:=Ad (nW e7 eP10);rw[e7,eP10];have od:=Ad (show Hc w7a w5.heap.size jt (J Z1 ss.length Mi) ss∧Gw w7a w5.heap.size jt (J Z0 tp.length vf) tp from by rw[←eP10];exact⟨o10.bl cj,z10'.bl cj⟩);have h57:=Ay bz cj;have hs56:=bz.size;have hs67:=cj.size;clear e7 o10 z10' bz cj;replace mj:=Ad (Ab h57 mj.o);replace jj:=Ad (Ab h57 jj.o);replace d6:=Ad (bt d6.o h57);replace tm:=Ad (Ab h57 tm.o);replace O9:=Ad (show De w7a w3.heap.size P9 (J (p_ g9) T.length T.length) T∧Hs w7a w3.heap.size P9 (J a9 R.length c9) R from ⟨O9.o.1.bl h57,O9.o.2.bl h57⟩);replace fx:=Ad (show w7a.heap[P8]?=M (O (bV d8 cv8 tx8 qv8 nv8 ev8) 37 (0,0))∧BW w7a w2.heap.size d8 cv8 tx8 qv8 nv8 ev8 G1 py G4 from ⟨Ab h57 fx.o.1,fx.o.2.bl h57⟩);clear h57;go_wp2_with fail;refine(HTC.o w7a d6.o).mono ?_;rintro e w7 ⟨re,g12,rfl,o12⟩;replace mj:=Ad (Ab re mj.o);replace jj:=Ad (Ab re jj.o);replace d6:=Ad (bt d6.o re);replace tm:=Ad (Ab re tm.o);replace jv:=Ad (Ab re jv.o);replace O9:=Ad (show De w7 w3.heap.size P9 (J (p_ g9) T.length T.length) T∧Hs w7 w3.heap.size P9 (J a9 R.length c9) R from ⟨O9.o.1.bl re,O9.o.2.bl re⟩);replace od:=Ad (show Hc w7 w5.heap.size jt (J Z1 ss.length Mi) ss∧Gw w7 w5.heap.size jt (J Z0 tp.length vf) tp from ⟨od.o.1.bl re,od.o.2.bl re⟩);replace fx:=Ad (show w7.heap[P8]?=M (O (bV d8 cv8 tx8 qv8 nv8 ev8) 37 (0,0))∧BW w7 w2.heap.size d8 cv8 tx8 qv8 nv8 ev8 G1 py G4 from ⟨Ab re fx.o.1,fx.o.2.bl re⟩);have wm:=Ad o12;have hs7n:=re.size;clear re o12;obtain⟨q0,q1,q2,qf⟩:=Dx tm.o;obtain⟨t0,t1⟩:=Ft jv.o;go_wp2_with fail;clear q0 q1 q2 qf t0 t1;refine(Nw (n:=n) HL.o (HT.o.bl d6.o) (HP.o.bl d6.o) O9.o.1 O9.o.2 od.o.1 od.o.2 wm.o).mono ?_;rintro e w8 ⟨n9,d,cv,tx,qv,nv,ev,zs,kv,lv,rfl,jx,ow,iw⟩;have hdd:=yq.o.2.1.uniq jx HL.o.spv;subst hdd;have tj:=Ad (jx.sm HL.o.spv HL.o.tl HL.o.lt HL.o.qs);have uj:=Ad jx;have vz:=Ad iw;obtain⟨⟨b1,b2,rfl⟩,⟨b3,b4,rfl⟩,⟨b5,b6,rfl⟩,⟨b7,b8,rfl⟩,⟨b9,Ld,rfl⟩⟩:=ow.slices;obtain⟨⟨j1,j2,rfl⟩,⟨j3,j4,rfl⟩,⟨j5,j6,rfl⟩,⟨j7,j8,rfl⟩,⟨j9,tu,rfl⟩⟩:=fx.o.2.slices;clear jx iw
  go_upto_region 16 with fail
  obtain⟨w9,e9⟩:=Aj (w8.alloc (O (bV d (J b1 d.ch.length b2) (J b3 d.T.length b4) (J b5 d.R.length b6) (J b7 d.ran.length b8) (J b9 d.held.length Ld)) 37));obtain⟨P11,eP11⟩:=Aj w8.heap.size;have zw:=aB e9;have fh:=Ad (nW e9 eP11);rw[e9,eP11];have U9:=Ay n9 zw;have OW:=Ad (ow.bl zw);have OW8:=Ad ow;have hs78:=n9.size;clear e9 ow n9 zw;replace mj:=Ad (Ab U9 mj.o);replace jj:=Ad (Ab U9 jj.o);replace d6:=Ad (bt d6.o U9);replace tm:=Ad (Ab U9 tm.o);replace jv:=Ad (Ab U9 jv.o);replace O9:=Ad (show De w9 w3.heap.size P9 (J (p_ g9) T.length T.length) T∧Hs w9 w3.heap.size P9 (J a9 R.length c9) R from ⟨O9.o.1.bl U9,O9.o.2.bl U9⟩);replace od:=Ad (show Hc w9 w5.heap.size jt (J Z1 ss.length Mi) ss∧Gw w9 w5.heap.size jt (J Z0 tp.length vf) tp from ⟨od.o.1.bl U9,od.o.2.bl U9⟩);replace wm:=Ad (wm.o.bl U9);replace fx:=Ad (show w9.heap[P8]?=M (O (bV d (J j1 d.ch.length j2) (J j3 d.T.length j4) (J j5 d.R.length j6) (J j7 d.ran.length j8) (J j9 d.held.length tu)) 37 (0,0))∧BW w9 w2.heap.size d (J j1 d.ch.length j2) (J j3 d.T.length j4) (J j5 d.R.length j6) (J j7 d.ran.length j8) (J j9 d.held.length tu) G1 py G4 from ⟨Ab U9 fx.o.1,fx.o.2.bl U9⟩);clear U9;obtain⟨x0,x1,x2,x3,x4,x5,x6,x7,x8,x9⟩:=Fe fh.o;obtain⟨y0,y1,y2,y3,y4,y5,y6,y7,y8,y9⟩:=Fe fx.o.1;go_wp2_with fail;clear x0 x1 x2 x3 x4 x5 x6 x7 x8 x9 y0 y1 y2 y3 y4 y5 y6 y7 y8 y9;obtain⟨_,_,_,_,_,_,_,_,_,_,X8⟩:=OW.o.view;obtain⟨_,_,_,_,_,_,_,_,_,_,X7⟩:=fx.o.2.view;refine(Ma X8 X7 tj.o).mono ?_;rintro e zb ⟨oa,rfl⟩;clear X8 X7;replace mj:=Ad (Ab oa mj.o);replace jj:=Ad (Ab oa jj.o);replace d6:=Ad (bt d6.o oa);replace tm:=Ad (Ab oa tm.o);replace jv:=Ad (Ab oa jv.o);replace fh:=Ad (Ab oa fh.o);replace O9:=Ad (show De zb w3.heap.size P9 (J (p_ g9) T.length T.length) T∧Hs zb w3.heap.size P9 (J a9 R.length c9) R from ⟨O9.o.1.bl oa,O9.o.2.bl oa⟩);replace od:=Ad (show Hc zb w5.heap.size jt (J Z1 ss.length Mi) ss∧Gw zb w5.heap.size jt (J Z0 tp.length vf) tp from ⟨od.o.1.bl oa,od.o.2.bl oa⟩);replace wm:=Ad (wm.o.bl oa);replace fx:=Ad (show zb.heap[P8]?=M (O (bV d (J j1 d.ch.length j2) (J j3 d.T.length j4) (J j5 d.R.length j6) (J j7 d.ran.length j8) (J j9 d.held.length tu)) 37 (0,0))∧BW zb w2.heap.size d (J j1 d.ch.length j2) (J j3 d.T.length j4) (J j5 d.R.length j6) (J j7 d.ran.length j8) (J j9 d.held.length tu) G1 py G4 from ⟨Ab oa fx.o.1,fx.o.2.bl oa⟩);replace OW:=Ad (OW.o.bl oa);clear oa
  go_upto_region 18 with fail
  obtain⟨wD,eD⟩:=Aj zb.drew;have bD:Bw zb wD:=qab;have bh:Hd (∀V:E,Bw zb V→V.heap[P9]?=M (O #[I n,J (p_ g9) T.length T.length,J a9 R.length c9] 35 (0,0))∧V.heap[w.heap.size]?=M (O #[I n,J ta T.length tc,J ra R.length rc] 25 (0,0))):=λV h=>⟨Ab h tm.o,Ab h mj.o⟩;refine Lt.begin 99 (λw'=>w'.heap[P9]?=M (O #[I n,J (p_ g9) T.length T.length,J a9 R.length c9] 35 (0,0))∧w'.heap[w.heap.size]?=M (O #[I n,J ta T.length tc,J ra R.length rc] 25 (0,0))) qi ?_;rw[eD];clear eD;change K 0 _
  iterate 2
   refine Lt.ti (v:=?_) (bh.o _ bD) ?_ ?_;rotate_left 1
   ·exact qkq
   simp only[gX]
  refine Lt.sp (i:=2) (λK hK=>?_);go_simp;refine(V6.o _ (bt d6.o bD)).mono ?_;rintro e wA ⟨co,gA,vA,rfl,oA,zA⟩;obtain⟨aA,cA,rfl,rA,-⟩:=zA.sl;have bA:=bt bD co;refine hK.out _ _ (λ_=>bh.o _ bA) (λ_=>?_);clear hK K
  try simp only[gX]
  refine Lt.sp (i:=3) (λK hK=>?_);go_simp;obtain⟨_,_,h1e,h1s⟩:=(O9.o.1.bl bA).sl;cases h1e;obtain⟨_,_,h2e,h2r,-⟩:=(O9.o.2.bl bA).sl;cases h2e;obtain⟨_,_,h3e,h3s⟩:=oA.sl;cases h3e;refine(Qk n _ _ _ _ _ _ _ _ T R wA h1s h3s h2r.row rA.row HL.o.lt HL.o.qs).mono ?_;rintro e B1 ⟨gu,rfl⟩;have bC:=bt bA gu;refine hK.out _ _ (λ_=>bh.o _ bC) (λ_=>?_);clear hK K
  try simp only[gX]
  refine Lt.ti (i:=4) (v:=?_) (bh.o _ bC) ?_ ?_;rotate_left 1
  ·exact qkq
  simp only[gX];refine Lt.done qi ?_ _;replace mj:=Ad (Ab bC mj.o);replace jj:=Ad (Ab bC jj.o);replace d6:=Ad (bt d6.o bC);replace tm:=Ad (Ab bC tm.o);replace jv:=Ad (Ab bC jv.o);replace fh:=Ad (Ab bC fh.o);replace O9:=Ad (show De B1 w3.heap.size P9 (J (p_ g9) T.length T.length) T∧Hs B1 w3.heap.size P9 (J a9 R.length c9) R from ⟨O9.o.1.bl bC,O9.o.2.bl bC⟩);replace od:=Ad (show Hc B1 w5.heap.size jt (J Z1 ss.length Mi) ss∧Gw B1 w5.heap.size jt (J Z0 tp.length vf) tp from ⟨od.o.1.bl bC,od.o.2.bl bC⟩);replace wm:=Ad (wm.o.bl bC);replace fx:=Ad (show B1.heap[P8]?=M (O (bV d (J j1 d.ch.length j2) (J j3 d.T.length j4) (J j5 d.R.length j6) (J j7 d.ran.length j8) (J j9 d.held.length tu)) 37 (0,0))∧BW B1 w2.heap.size d (J j1 d.ch.length j2) (J j3 d.T.length j4) (J j5 d.R.length j6) (J j7 d.ran.length j8) (J j9 d.held.length tu) G1 py G4 from ⟨Ab bC fx.o.1,fx.o.2.bl bC⟩);replace OW:=Ad (OW.o.bl bC);clear bh bC gu bA co bD oA zA
  go_upto_region 20 with fail
  obtain⟨wD,eD⟩:=Aj B1.drew;have bD:Bw B1 wD:=qab;have bh:Hd (∀V:E,Bw B1 V→V.heap[jt]?=M (O #[J Z1 ss.length Mi,J Z0 tp.length vf] 43 (0,0))∧V.heap[w.heap.size+1]?=M (O #[J sa ss.length c1,J ua tp.length c2] 29 (0,0))):=λV h=>⟨Ab h jv.o,Ab h jj.o⟩;refine Lt.begin 99 (λw'=>w'.heap[jt]?=M (O #[J Z1 ss.length Mi,J Z0 tp.length vf] 43 (0,0))∧w'.heap[w.heap.size+1]?=M (O #[J sa ss.length c1,J ua tp.length c2] 29 (0,0))) qi ?_;rw[eD];clear eD;change K 0 _
  iterate 2
   refine Lt.ti (v:=?_) (bh.o _ bD) ?_ ?_;rotate_left 1
   ·exact qkz
   simp only[gX]
  refine Lt.sp (i:=2) (λK hK=>?_);go_simp;refine(yr.o _ (bt d6.o bD)).mono ?_;rintro e wA ⟨co,uA,vA,rfl,oA,zA⟩;have bA:=bt bD co;refine hK.out _ _ (λ_=>bh.o _ bA) (λ_=>?_);clear hK K
  try simp only[gX]
  refine Lt.sp (i:=3) (λK hK=>?_);go_simp;refine(eqSpace_own (od.o.1.bl bA) (od.o.2.bl bA) oA zA HL.o.sm).mono ?_;rintro e I8 ⟨gu,rfl⟩;have bC:=bt bA gu;refine hK.out _ _ (λ_=>bh.o _ bC) (λ_=>?_);clear hK K
  try simp only[gX]
  refine Lt.ti (i:=4) (v:=?_) (bh.o _ bC) ?_ ?_;rotate_left 1
  ·exact qkz
  simp only[gX];refine Lt.done qi ?_ _;replace mj:=Ad (Ab bC mj.o);replace jj:=Ad (Ab bC jj.o);replace d6:=Ad (bt d6.o bC);replace tm:=Ad (Ab bC tm.o);replace jv:=Ad (Ab bC jv.o);replace fh:=Ad (Ab bC fh.o);replace O9:=Ad (show De I8 w3.heap.size P9 (J (p_ g9) T.length T.length) T∧Hs I8 w3.heap.size P9 (J a9 R.length c9) R from ⟨O9.o.1.bl bC,O9.o.2.bl bC⟩);replace od:=Ad (show Hc I8 w5.heap.size jt (J Z1 ss.length Mi) ss∧Gw I8 w5.heap.size jt (J Z0 tp.length vf) tp from ⟨od.o.1.bl bC,od.o.2.bl bC⟩);replace wm:=Ad (wm.o.bl bC);replace fx:=Ad (show I8.heap[P8]?=M (O (bV d (J j1 d.ch.length j2) (J j3 d.T.length j4) (J j5 d.R.length j6) (J j7 d.ran.length j8) (J j9 d.held.length tu)) 37 (0,0))∧BW I8 w2.heap.size d (J j1 d.ch.length j2) (J j3 d.T.length j4) (J j5 d.R.length j6) (J j7 d.ran.length j8) (J j9 d.held.length tu) G1 py G4 from ⟨Ab bC fx.o.1,fx.o.2.bl bC⟩);replace OW:=Ad (OW.o.bl bC);clear bh bC gu bA co bD oA zA;go_wp2_with fail;refine(HTC.o I8 d6.o).mono ?_;rintro e za ⟨L5,gE,rfl,oE⟩;replace mj:=Ad (Ab L5 mj.o);replace jj:=Ad (Ab L5 jj.o);replace d6:=Ad (bt d6.o L5);replace tm:=Ad (Ab L5 tm.o);replace jv:=Ad (Ab L5 jv.o);replace fh:=Ad (Ab L5 fh.o);replace O9:=Ad (show De za w3.heap.size P9 (J (p_ g9) T.length T.length) T∧Hs za w3.heap.size P9 (J a9 R.length c9) R from ⟨O9.o.1.bl L5,O9.o.2.bl L5⟩);replace od:=Ad (show Hc za w5.heap.size jt (J Z1 ss.length Mi) ss∧Gw za w5.heap.size jt (J Z0 tp.length vf) tp from ⟨od.o.1.bl L5,od.o.2.bl L5⟩);replace wm:=Ad (wm.o.bl L5);replace fx:=Ad (show za.heap[P8]?=M (O (bV d (J j1 d.ch.length j2) (J j3 d.T.length j4) (J j5 d.R.length j6) (J j7 d.ran.length j8) (J j9 d.held.length tu)) 37 (0,0))∧BW za w2.heap.size d (J j1 d.ch.length j2) (J j3 d.T.length j4) (J j5 d.R.length j6) (J j7 d.ran.length j8) (J j9 d.held.length tu) G1 py G4 from ⟨Ab L5 fx.o.1,fx.o.2.bl L5⟩);replace OW:=Ad (OW.o.bl L5);have h1s:Ca za (p_ g12) xs:=by have:=wm.o.own;rw[EXM.o]at this;exact Pp EXM.o.symm this
  have h2s:Ca za (p_ gE) xs:=by have:=oE.own;rw[EXM.o]at this;exact Pp EXM.o.symm this
  have HEQ:=Ad (Fs (p_ g12) (p_ gE) xm xm xs za h1s h2s HL.o.nl);rw[EXM.o]at HEQ;clear h1s h2s oE L5;go_wp2_with fail;refine HEQ.o.mono ?_;rintro e G2 ⟨tg,rfl⟩;replace mj:=Ad (Ab tg mj.o);replace jj:=Ad (Ab tg jj.o);replace d6:=Ad (bt d6.o tg);replace tm:=Ad (Ab tg tm.o);replace jv:=Ad (Ab tg jv.o);replace fh:=Ad (Ab tg fh.o);replace O9:=Ad (show De G2 w3.heap.size P9 (J (p_ g9) T.length T.length) T∧Hs G2 w3.heap.size P9 (J a9 R.length c9) R from ⟨O9.o.1.bl tg,O9.o.2.bl tg⟩);replace od:=Ad (show Hc G2 w5.heap.size jt (J Z1 ss.length Mi) ss∧Gw G2 w5.heap.size jt (J Z0 tp.length vf) tp from ⟨od.o.1.bl tg,od.o.2.bl tg⟩);replace wm:=Ad (wm.o.bl tg);replace fx:=Ad (show G2.heap[P8]?=M (O (bV d (J j1 d.ch.length j2) (J j3 d.T.length j4) (J j5 d.R.length j6) (J j7 d.ran.length j8) (J j9 d.held.length tu)) 37 (0,0))∧BW G2 w2.heap.size d (J j1 d.ch.length j2) (J j3 d.T.length j4) (J j5 d.R.length j6) (J j7 d.ran.length j8) (J j9 d.held.length tu) G1 py G4 from ⟨Ab tg fx.o.1,fx.o.2.bl tg⟩);replace OW:=Ad (OW.o.bl tg);clear tg HEQ
  go_upto_region 25 with fail
  have hP8:P8<w3.heap.size:=Ag yq.o.1;have l9:=Ag tm.o;have l10:=Ag jv.o;have l11:=Ag fh.o;obtain⟨q0,q1,q2,qf⟩:=Dx tm.o;go_wp2_with fail;clear q0 q1 q2 qf;obtain⟨xs9,cv9,lv9,hq9,-⟩:=O9.o.2;refine(Ot n w3.heap.size P9 T.length R.length 1 _ _ _ _ _ _ _ _ G2 O9.o.1 hq9.rows qb HL.o.lt HL.o.qs.1 HL.o.qs.2 (Nat.le_refl _) (zo (kR1_le HL.o.lt HL.o.qs))).mono ?_;rintro e S1 ⟨rfl,hb13,td,-,-⟩;have hwl:w.heap.size+1<w3.heap.size:=Nat.lt_of_lt_of_le (Ag HS.o) yq.o.2.2.2.size;have hs13:=hb13.size;replace mj:=Ad ((td _ qb (Or.inl qb)).trans mj.o);replace jj:=Ad ((td _ qb (Or.inl qb)).trans jj.o);replace tm:=Ad ((td _ qb (Or.inr qb)).trans tm.o);replace jv:=Ad ((td _ qb (Or.inr qb)).trans jv.o);replace fh:=Ad ((td _ qb (Or.inr qb)).trans fh.o);replace d6:=Ad (d6.o.trans (hb13.mono qb));replace od:=Ad (show Hc S1 w5.heap.size jt (J Z1 ss.length Mi) ss∧Gw S1 w5.heap.size jt (J Z0 tp.length vf) tp from ⟨od.o.1.keep td (Or.inr qb),od.o.2.keep td (Or.inr qb)⟩);replace fx:=Ad (show S1.heap[P8]?=M (O (bV d (J j1 d.ch.length j2) (J j3 d.T.length j4) (J j5 d.R.length j6) (J j7 d.ran.length j8) (J j9 d.held.length tu)) 37 (0,0))∧BW S1 w2.heap.size d (J j1 d.ch.length j2) (J j3 d.T.length j4) (J j5 d.R.length j6) (J j7 d.ran.length j8) (J j9 d.held.length tu) G1 py G4 from ⟨(td _ qb (Or.inl hP8)).trans fx.o.1,fx.o.2.keepLt yq.o.2.2.1 (λb q=>td b qb (Or.inl q))⟩);replace OW:=Ad (OW.o.keepGe (λb q1 q2=>td b q2 (Or.inr qb)));replace wm:=Ad (wm.o.keep td (Or.inr qb));clear td hb13 hq9 O9;obtain⟨K1,ek1⟩:=Aj (kR (λi=>(qx R i).code.length) (λi=>(qx R i).looks.length) (1+T.length) R.length)
  have hK1:1≤K1∧K1≤100000000000000:=by
   have h1:=kR1_le HL.o.lt HL.o.qs;have h2:=Qe (λi=>(qx R i).code.length) (λi=>(qx R i).looks.length) (1+T.length) 0 R.length (Nat.zero_le _);rw[ek1]at h1 h2;simp only[kR]at h2;omega
  rw[ek1];obtain⟨t0,t1⟩:=Ft jv.o;go_wp2_with fail;clear t0 t1;obtain⟨xs10,hr10,-⟩:=od.o.1;obtain⟨xs11,cv11,hr11⟩:=od.o.2;refine(Wi w5.heap.size jt ss.length tp.length K1 _ _ _ _ _ _ S1 hr10 hr11.rows qb HL.o.sm.ls HL.o.sm.lt HL.o.sm.lc hK1.1 (kT1_le HL.o.sm hK1.2)).mono ?_;rintro e w14a ⟨rfl,L6,nh,-⟩;have hs14:=L6.size;replace mj:=Ad ((nh _ qb (Or.inl qb)).trans mj.o);replace jj:=Ad ((nh _ qb (Or.inl qb)).trans jj.o);replace fh:=Ad ((nh _ qb (Or.inr qb)).trans fh.o);replace d6:=Ad (d6.o.trans (L6.mono qb));replace fx:=Ad (show w14a.heap[P8]?=M (O (bV d (J j1 d.ch.length j2) (J j3 d.T.length j4) (J j5 d.R.length j6) (J j7 d.ran.length j8) (J j9 d.held.length tu)) 37 (0,0))∧BW w14a w2.heap.size d (J j1 d.ch.length j2) (J j3 d.T.length j4) (J j5 d.R.length j6) (J j7 d.ran.length j8) (J j9 d.held.length tu) G1 py G4 from ⟨(nh _ qb (Or.inl qb)).trans fx.o.1,fx.o.2.keepLt yq.o.2.2.1 (λb q=>nh b qb (Or.inl qb))⟩);replace OW:=Ad (OW.o.keepGe (λb q1 q2=>nh b q2 (Or.inr qb)));replace wm:=Ad (wm.o.keep nh (Or.inr qb));clear nh L6 hr10 hr11 od tm jv;obtain⟨K2,ek2⟩:=Aj (kT (λi=>(tx tp i).code.length) (K1+2*ss.length) tp.length);rw[ek2]
  have hK2b:1≤K2∧K2≤800000000000000:=by
   have h1:=kT1_le HL.o.sm hK1.2;have h2:=kT_le (λi=>(tx tp i).code.length) (K1+2*ss.length) 0 tp.length (Nat.zero_le _);rw[ek2]at h1 h2;simp only[kT]at h2;omega
  go_wp2_with fail;refine(Fa w7a.heap.size w7.heap.size xs.length K2 _ _ w14a wm.o qb HL.o.nl hK2b.1 qb).mono ?_;rintro e w14 ⟨rfl,L6,hko,-⟩;have nh:Dk w7a.heap.size w7.heap.size w14a w14:=hko.keepR λb q=>⟨(wm.o.own.lt b q).1,wm.o.top b q⟩;have hs14b:=L6.size;replace mj:=Ad ((nh _ qb (Or.inl qb)).trans mj.o);replace jj:=Ad ((nh _ qb (Or.inl qb)).trans jj.o);replace fh:=Ad ((nh _ qb (Or.inr qb)).trans fh.o);replace d6:=Ad (d6.o.trans (L6.mono qb));replace fx:=Ad (show w14.heap[P8]?=M (O (bV d (J j1 d.ch.length j2) (J j3 d.T.length j4) (J j5 d.R.length j6) (J j7 d.ran.length j8) (J j9 d.held.length tu)) 37 (0,0))∧BW w14 w2.heap.size d (J j1 d.ch.length j2) (J j3 d.T.length j4) (J j5 d.R.length j6) (J j7 d.ran.length j8) (J j9 d.held.length tu) G1 py G4 from ⟨(nh _ qb (Or.inl qb)).trans fx.o.1,fx.o.2.keepLt yq.o.2.2.1 (λb q=>nh b qb (Or.inl qb))⟩);replace OW:=Ad (OW.o.keepGe (λb q1 q2=>nh b q2 (Or.inr qb)));clear nh L6 hko wm;obtain⟨K3,ek3⟩:=Aj (K2+xs.length);rw[ek3];have hK3:¬ ((K3:Int)<0):=qb;have U7:¬ ((K2:Int)<0):=qb;obtain⟨x0,x1,x2,x3,x4,x5,x6,x7,x8,x9⟩:=Fe fh.o;obtain⟨y0,y1,y2,y3,y4,y5,y6,y7,y8,y9⟩:=Fe fx.o.1;go_wp2_with fail;clear x0 x1 x2 x3 x4 x5 x6 x7 x8 x9 y0 y1 y2 y3 y4 y5 y6 y7 y8 y9;obtain⟨_,_,_,_,_,_,_,_,_,_,X8⟩:=OW.o.view;obtain⟨_,_,_,_,_,_,_,_,_,_,X7⟩:=fx.o.2.view;refine(Ma X8 X7 tj.o).mono ?_;rintro e w15 ⟨zy,rfl⟩;clear X8 X7;replace mj:=Ad (Ab zy mj.o);replace jj:=Ad (Ab zy jj.o);replace d6:=Ad (bt d6.o zy);replace fh:=Ad (Ab zy fh.o);replace fx:=Ad (show w15.heap[P8]?=M (O (bV d (J j1 d.ch.length j2) (J j3 d.T.length j4) (J j5 d.R.length j6) (J j7 d.ran.length j8) (J j9 d.held.length tu)) 37 (0,0))∧BW w15 w2.heap.size d (J j1 d.ch.length j2) (J j3 d.T.length j4) (J j5 d.R.length j6) (J j7 d.ran.length j8) (J j9 d.held.length tu) G1 py G4 from ⟨Ab zy fx.o.1,fx.o.2.bl zy⟩);replace OW:=Ad (OW.o.bl zy);have hs15:=zy.size;clear zy;have l11b:=Ag fh.o;obtain⟨x0,x1,x2,x3,x4,x5,x6,x7,x8,x9⟩:=Fe fh.o;go_wp2_with fail;clear x0 x1 x2 x3 x4 x5 x6 x7 x8 x9;refine(Wj (w:=w15) (lo:=w7.heap.size) (d:=d) ⟨rfl,OW.o.ch,OW.o.txs,OW.o.rq,OW.o.ran,OW.o.held,vz.o⟩ qb tj.o w8.heap.size qb (λb q=>by rcases q with q|q|q|q;exact(OW8.o.ch.lt b q).2;exact(OW8.o.txs.lt b q).2;exact(OW8.o.ran.lt b q).2;exact(OW8.o.held.lt b q).2) (OW.o.rq.rowsT OW8.o.rq)).mono ?_;rintro e w16 ⟨hb16,rfl,T6,hmb⟩;replace mj:=Ad ((T6 _ qb (Or.inl qb)).trans mj.o);replace jj:=Ad ((T6 _ qb (Or.inl qb)).trans jj.o);replace d6:=Ad (d6.o.trans (hb16.mono qb));replace fh:=Ad ((T6 _ qb (Or.inr qb)).trans fh.o);replace fx:=Ad (show w16.heap[P8]?=M (O (bV d (J j1 d.ch.length j2) (J j3 d.T.length j4) (J j5 d.R.length j6) (J j7 d.ran.length j8) (J j9 d.held.length tu)) 37 (0,0))∧BW w16 w2.heap.size d (J j1 d.ch.length j2) (J j3 d.T.length j4) (J j5 d.R.length j6) (J j7 d.ran.length j8) (J j9 d.held.length tu) G1 py G4 from ⟨(T6 _ qb (Or.inl qb)).trans fx.o.1,fx.o.2.keepLt yq.o.2.2.1 (λb q=>T6 b qb (Or.inl qb))⟩);have HMB:=Ad hmb;clear hb16 T6 hmb OW OW8;obtain⟨KF,ekf⟩:=Aj (kF d);rw[ekf];obtain⟨x0,x1,x2,x3,x4,x5,x6,x7,x8,x9⟩:=Fe fh.o;go_wp2_with fail;clear x0 x1 x2 x3 x4 x5 x6 x7 x8 x9;refine(Ow HMB.o tj.o).mono ?_;rintro e yz ⟨F2,rfl⟩;rw[ekf];replace mj:=Ad (Ab F2 mj.o);replace jj:=Ad (Ab F2 jj.o);replace d6:=Ad (bt d6.o F2);replace fh:=Ad (Ab F2 fh.o);replace fx:=Ad (show yz.heap[P8]?=M (O (bV d (J j1 d.ch.length j2) (J j3 d.T.length j4) (J j5 d.R.length j6) (J j7 d.ran.length j8) (J j9 d.held.length tu)) 37 (0,0))∧BW yz w2.heap.size d (J j1 d.ch.length j2) (J j3 d.T.length j4) (J j5 d.R.length j6) (J j7 d.ran.length j8) (J j9 d.held.length tu) G1 py G4 from ⟨Ab F2 fx.o.1,fx.o.2.bl F2⟩);replace HMB:=Ad (HMB.o.bl F2);clear F2;have hkf0:¬ ((KF:Int)<0):=qb
  go_upto_region 38 with fail
  clear V6 yr;replace HA:=Ad mj.o;replace HS:=Ad jj.o;replace HB:=Ad d6.o;have V6:=Ad (λ(V:E) (hV:Bw w V)=>Mt n ta ra tc rc T R V (HL.o.so.st.bl hV) (HL.o.so.rq.bl hV) HL.o.lt HL.o.qs);have yr:=Ad (λ(V:E) (hV:Bw w V)=>Mu sa ua c1 c2 ss tp V (HL.o.sp.rs.bl hV) (HL.o.sp.rt.bl hV) HL.o.sm);obtain⟨wD,eD⟩:=Aj yz.drew;have bD:Bw yz wD:=qab;have bh:Hd (∀V:E,Bw yz V→V.heap[w.heap.size]?=M (O #[I n,J ta T.length tc,J ra R.length rc] 25 (0,0))∧V.heap[w.heap.size+1]?=M (O #[J sa ss.length c1,J ua tp.length c2] 29 (0,0))):=λV h=>⟨Ab h HA.o,Ab h HS.o⟩
  go_cut [16] (λp wx=>∃(P:X)(d:BD)(cv tx qv nv ev:Z)(zs:L Z)(kv lv:X→Z),p=.pointer (p_ P)∧Hd (wx.heap[P]?=M (O (bV d cv tx qv nv ev) 37 (0,0))∧Jn n ss tp T R xs d∧BW wx yz.heap.size d cv tx qv nv ev zs kv lv∧Jf [cv,tx,nv,ev]∧Bw yz wx))
  case first=>
   refine Lt.begin 8 (λw'=>w'.heap[w.heap.size]?=M (O #[I n,J ta T.length tc,J ra R.length rc] 25 (0,0))∧w'.heap[w.heap.size+1]?=M (O #[J sa ss.length c1,J ua tp.length c2] 29 (0,0))) qi ?_;rw[eD];clear eD;refine Lt.ti (i:=0) (v:=?_) (bh.o _ bD) ?_ ?_;rotate_left 1
   ·exact qbl
   simp only[gX];refine Lt.ti (i:=2) (v:=?_) (bh.o _ bD) ?_ ?_;rotate_left 1
   ·exact qbl
   simp only[gX];refine Lt.ti (i:=4) (v:=?_) (bh.o _ bD) ?_ ?_;rotate_left 1
   ·exact qbl
   simp only[gX];refine Lt.two (i:=1) (j:=7) (oi:={ dst:=M 97,op:=Op.call { callee:=Callee.value (Operand.func 8),args:=#[Operand.tmp 96],argTypes:=#[25] },type:=35,pos := "exact.go:1995",after:=#[{ on:=0,ground:=Ground.data }],guard:=N }) (oj:={ dst:=M 16,op:=Op.alloc 37,type:=0,pos := "exact.go:1995",after:=#[],guard:=N }) qi rfl rfl (λK hK=>?_) (λK hK=>?_)
   ·skip
    go_simp;refine(V6.o _ (bt HB.o bD)).mono ?_;rintro e wA ⟨co,g1,v2,rfl,fq,fe⟩;obtain⟨a2,p2,rfl,-⟩:=fe.sl;have bA:=bt bD co;refine hK.out _ _ (λ_=>bh.o _ bA) (λ_=>?_);clear hK K
    try simp only[gX]
    refine Lt.two (i:=3) (j:=7) (oi:={ dst:=M 99,op:=Op.call { callee:=Callee.value (Operand.func 9),args:=#[Operand.tmp 98],argTypes:=#[29] },type:=43,pos := "exact.go:1995",after:=#[{ on:=2,ground:=Ground.data },{ on:=1,ground:=Ground.chain }],guard:=N }) (oj:={ dst:=M 16,op:=Op.alloc 37,type:=0,pos := "exact.go:1995",after:=#[],guard:=N }) qi rfl rfl (λK hK=>?_) (λK hK=>?_)
    ·skip
     go_simp;refine(yr.o _ (bt HB.o bA)).mono ?_;rintro e wB ⟨fs,u1,u2,rfl,gq,gp⟩;obtain⟨a3,p3,rfl,-⟩:=gq.sl;obtain⟨a4,p4,rfl,-⟩:=gp.sl;have bB:=bt bA fs;replace fq:=fq.bl fs;replace fe:=fe.bl fs;refine hK.out _ _ (λ_=>bh.o _ bB) (λ_=>?_);clear hK K
     try simp only[gX]
     refine Lt.two (i:=5) (j:=7) (oi:={ dst:=M 101,op:=Op.call { callee:=Callee.value (Operand.func 10),args:=#[Operand.tmp 100],argTypes:=#[22] },type:=22,pos := "exact.go:1995",after:=#[{ on:=4,ground:=Ground.data },{ on:=3,ground:=Ground.chain }],guard:=N }) (oj:={ dst:=M 16,op:=Op.alloc 37,type:=0,pos := "exact.go:1995",after:=#[],guard:=N }) qi rfl rfl (λK hK=>?_) (λK hK=>?_)
     ·skip
      go_simp;refine(HTC.o _ (bt HB.o bB)).mono ?_;rintro e wZ ⟨gz,g3,rfl,oz⟩;have bZ:=bt bB gz;replace fq:=fq.bl gz;replace fe:=fe.bl gz;replace gq:=gq.bl gz;replace gp:=gp.bl gz;refine hK.out _ _ (λ_=>bh.o _ bZ) (λ_=>?_);clear hK K
      try simp only[gX]
      refine Lt.two (i:=6) (j:=7) (oi:={ dst:=M 102,op:=Op.call { callee:=Callee.value (Operand.func 11),args:=#[Operand.tmp 97,Operand.tmp 99,Operand.tmp 101],argTypes:=#[35,43,22] },type:=37,pos := "exact.go:1995",after:=#[{ on:=1,ground:=Ground.data },{ on:=3,ground:=Ground.data },{ on:=5,ground:=Ground.data },{ on:=5,ground:=Ground.chain }],guard:=N }) (oj:={ dst:=M 16,op:=Op.alloc 37,type:=0,pos := "exact.go:1995",after:=#[],guard:=N }) qi rfl rfl (λK hK=>?_) (λK hK=>?_)
      ·skip
       go_simp;refine(Nw (n:=n) HL.o (HT.o.bl (bt HB.o bZ)) (HP.o.bl (bt HB.o bZ)) fq fe gq gp oz).mono ?_;rintro e wC ⟨gu,d,cv,tx,qv,nv,ev,zs,kv,lv,rfl,jx,ow,iw⟩;have jl:=Ad iw;clear iw;have uj:=Ad jx;clear jx;obtain⟨⟨b1,b2,rfl⟩,⟨b3,b4,rfl⟩,⟨b5,b6,rfl⟩,⟨b7,b8,rfl⟩,⟨b9,Ld,rfl⟩⟩:=ow.slices;replace ow:=BW.base ow (show yz.heap.size≤_ from bZ.size);have bC:=bt bZ gu;refine hK.out _ _ (λ_=>bh.o _ bC) (λ_=>?_);clear hK K
       try simp only[gX]
       clear fq fe gq gp oz;refine Lt.sp (i:=7) (λK hK=>?_);go_simp;refine Bq (Q:=λx=>K _ x) ?_;intro wP gk l5
       try dsimp only
       have zP:wP.heap[wC.heap.size]?=M (O Qo 37 (0,0)):=l5.out;clear l5;have bP:=bt bC gk;have po:yz.heap.size≤wC.heap.size:=bC.size;replace ow:=ow.bl gk;refine hK.out _ _ (λ_=>bh.o _ bP) (λ_=>?_);clear hK K
       try simp only[gX]
       obtain⟨P,eP⟩:=Aj wC.heap.size;rw[eP]at zP po ⊢;obtain⟨ye,yd,yb,xz,xy,xx,xw,xv,xu,xr⟩:=Dz zP;have zcf:=fZ zP;obtain⟨l,el⟩:∃l:L (X×X×Z),l=[(P,0,I d.c),(P,1,S d.t),(P,2,J b1 d.ch.length b2),(P,3,I d.n),(P,4,J b3 d.T.length b4),(P,5,J b5 d.R.length b6),(P,6,J b7 d.ran.length b8),(P,7,J b9 d.held.length Ld),(P,8,S d.A),(P,9,S d.B)]:=⟨_,rfl⟩;have bi:∀x∈l,x.1=P:=qy;have be:=Cl l wP _ bi zP;have hS:=ow.setU bi zP;have cr:Bw yz (Be wP l):=Az l wP bP (λx hx=>qz);obtain⟨V,eV⟩:=Aj (Be wP l);rw[eV]at be cr hS;rw[el]at be eV;simp only[Be,List.foldl]at eV;simp only[List.foldl,List.setIfInBounds_toArray,List.set_cons_zero,List.set_cons_succ]at be;have HV:=Ad be;have jz:=Ad cr;have ew:=Ad hS;clear be cr el bi hS;refine Lt.sp (i:=8) (λK hK=>?_);go_simp
       try rw[eV]
       refine hK.out _ _ (λh=>absurd rfl h) (λ_=>?_);clear hK K;refine Lt.done qi ?_ _;go_wp2_with fail;go_meet;exact⟨P,d,_,_,_,_,_,zs,kv,lv,rfl,HV.o,uj.o,ew.o,jl.o,jz.o⟩
      ·skip
       go_simp;refine Bq (Q:=λx=>K _ x) ?_;intro wP gk l5
       try dsimp only
       have zP:wP.heap[wZ.heap.size]?=M (O Qo 37 (0,0)):=l5.out;clear l5;have bP:=bt bZ gk;have po:yz.heap.size≤wZ.heap.size:=bZ.size;replace fq:=fq.bl gk;replace fe:=fe.bl gk;replace gq:=gq.bl gk;replace gp:=gp.bl gk;replace oz:=oz.bl gk;refine hK.out _ _ (λ_=>bh.o _ bP) (λ_=>?_);clear hK K
       try simp only[gX]
       refine Lt.sp (i:=6) (λK hK=>?_);go_simp;refine(Nw (n:=n) HL.o (HT.o.bl (bt HB.o bP)) (HP.o.bl (bt HB.o bP)) fq fe gq gp oz).mono ?_;rintro e wC ⟨gu,d,cv,tx,qv,nv,ev,zs,kv,lv,rfl,jx,ow,iw⟩;have jl:=Ad iw;clear iw;have uj:=Ad jx;clear jx;obtain⟨⟨b1,b2,rfl⟩,⟨b3,b4,rfl⟩,⟨b5,b6,rfl⟩,⟨b7,b8,rfl⟩,⟨b9,Ld,rfl⟩⟩:=ow.slices;replace ow:=BW.base ow (show yz.heap.size≤_ from bP.size);have bC:=bt bP gu;replace zP:=Ab gu zP;refine hK.out _ _ (λ_=>bh.o _ bC) (λ_=>?_);clear hK K
       try simp only[gX]
       clear fq fe gq gp oz;obtain⟨P,eP⟩:=Aj wZ.heap.size;exact qde
     ·skip
      go_simp;refine Bq (Q:=λx=>K _ x) ?_;intro wP gk l5
      try dsimp only
      have zP:wP.heap[wB.heap.size]?=M (O Qo 37 (0,0)):=l5.out;clear l5;have bP:=bt bB gk;have po:yz.heap.size≤wB.heap.size:=bB.size;replace fq:=fq.bl gk;replace fe:=fe.bl gk;replace gq:=gq.bl gk;replace gp:=gp.bl gk;refine hK.out _ _ (λ_=>bh.o _ bP) (λ_=>?_);clear hK K
      try simp only[gX]
      refine Lt.sp (i:=5) (λK hK=>?_);go_simp;refine(HTC.o _ (bt HB.o bP)).mono ?_;rintro e wZ ⟨gz,g3,rfl,oz⟩;have bZ:=bt bP gz;replace fq:=fq.bl gz;replace fe:=fe.bl gz;replace gq:=gq.bl gz;replace gp:=gp.bl gz;replace zP:=Ab gz zP;refine hK.out _ _ (λ_=>bh.o _ bZ) (λ_=>?_);clear hK K
      try simp only[gX]
      refine Lt.sp (i:=6) (λK hK=>?_);go_simp;refine(Nw (n:=n) HL.o (HT.o.bl (bt HB.o bZ)) (HP.o.bl (bt HB.o bZ)) fq fe gq gp oz).mono ?_;rintro e wC ⟨gu,d,cv,tx,qv,nv,ev,zs,kv,lv,rfl,jx,ow,iw⟩;have jl:=Ad iw;clear iw;have uj:=Ad jx;clear jx;obtain⟨⟨b1,b2,rfl⟩,⟨b3,b4,rfl⟩,⟨b5,b6,rfl⟩,⟨b7,b8,rfl⟩,⟨b9,Ld,rfl⟩⟩:=ow.slices;replace ow:=BW.base ow (show yz.heap.size≤_ from bZ.size);have bC:=bt bZ gu;replace zP:=Ab gu zP;refine hK.out _ _ (λ_=>bh.o _ bC) (λ_=>?_);clear hK K
      try simp only[gX]
      clear fq fe gq gp oz;obtain⟨P,eP⟩:=Aj wB.heap.size;exact qde
    ·skip
     go_simp;refine Bq (Q:=λx=>K _ x) ?_;intro wP gk l5
     try dsimp only
     have zP:wP.heap[wA.heap.size]?=M (O Qo 37 (0,0)):=l5.out;clear l5;have bP:=bt bA gk;have po:yz.heap.size≤wA.heap.size:=bA.size;replace fq:=fq.bl gk;replace fe:=fe.bl gk;refine hK.out _ _ (λ_=>bh.o _ bP) (λ_=>?_);clear hK K
     try simp only[gX]
     refine Lt.sp (i:=3) (λK hK=>?_);go_simp;refine(yr.o _ (bt HB.o bP)).mono ?_;rintro e wB ⟨fs,u1,u2,rfl,gq,gp⟩;obtain⟨a3,p3,rfl,-⟩:=gq.sl;obtain⟨a4,p4,rfl,-⟩:=gp.sl;have bB:=bt bP fs;replace fq:=fq.bl fs;replace fe:=fe.bl fs;replace zP:=Ab fs zP;refine hK.out _ _ (λ_=>bh.o _ bB) (λ_=>?_);clear hK K
     try simp only[gX]
     refine Lt.sp (i:=5) (λK hK=>?_);go_simp;refine(HTC.o _ (bt HB.o bB)).mono ?_;rintro e wZ ⟨gz,g3,rfl,oz⟩;have bZ:=bt bB gz;replace fq:=fq.bl gz;replace fe:=fe.bl gz;replace gq:=gq.bl gz;replace gp:=gp.bl gz;replace zP:=Ab gz zP;refine hK.out _ _ (λ_=>bh.o _ bZ) (λ_=>?_);clear hK K
     try simp only[gX]
     refine Lt.sp (i:=6) (λK hK=>?_);go_simp;refine(Nw (n:=n) HL.o (HT.o.bl (bt HB.o bZ)) (HP.o.bl (bt HB.o bZ)) fq fe gq gp oz).mono ?_;rintro e wC ⟨gu,d,cv,tx,qv,nv,ev,zs,kv,lv,rfl,jx,ow,iw⟩;have jl:=Ad iw;clear iw;have uj:=Ad jx;clear jx;obtain⟨⟨b1,b2,rfl⟩,⟨b3,b4,rfl⟩,⟨b5,b6,rfl⟩,⟨b7,b8,rfl⟩,⟨b9,Ld,rfl⟩⟩:=ow.slices;replace ow:=BW.base ow (show yz.heap.size≤_ from bZ.size);have bC:=bt bZ gu;replace zP:=Ab gu zP;refine hK.out _ _ (λ_=>bh.o _ bC) (λ_=>?_);clear hK K
     try simp only[gX]
     clear fq fe gq gp oz;obtain⟨P,eP⟩:=Aj wA.heap.size;exact qde
   ·skip
    go_simp;refine Bq (Q:=λx=>K _ x) ?_;intro wP gk l5
    try dsimp only
    have zP:wP.heap[wD.heap.size]?=M (O Qo 37 (0,0)):=l5.out;clear l5;have bP:=bt bD gk;have po:yz.heap.size≤wD.heap.size:=bD.size;refine hK.out _ _ (λ_=>bh.o _ bP) (λ_=>?_);clear hK K
    try simp only[gX]
    refine Lt.sp (i:=1) (λK hK=>?_);go_simp;refine(V6.o _ (bt HB.o bP)).mono ?_;rintro e wA ⟨co,g1,v2,rfl,fq,fe⟩;obtain⟨a2,p2,rfl,-⟩:=fe.sl;have bA:=bt bP co;replace zP:=Ab co zP;refine hK.out _ _ (λ_=>bh.o _ bA) (λ_=>?_);clear hK K
    try simp only[gX]
    refine Lt.sp (i:=3) (λK hK=>?_);go_simp;refine(yr.o _ (bt HB.o bA)).mono ?_;rintro e wB ⟨fs,u1,u2,rfl,gq,gp⟩;obtain⟨a3,p3,rfl,-⟩:=gq.sl;obtain⟨a4,p4,rfl,-⟩:=gp.sl;have bB:=bt bA fs;replace fq:=fq.bl fs;replace fe:=fe.bl fs;replace zP:=Ab fs zP;refine hK.out _ _ (λ_=>bh.o _ bB) (λ_=>?_);clear hK K
    try simp only[gX]
    refine Lt.sp (i:=5) (λK hK=>?_);go_simp;refine(HTC.o _ (bt HB.o bB)).mono ?_;rintro e wZ ⟨gz,g3,rfl,oz⟩;have bZ:=bt bB gz;replace fq:=fq.bl gz;replace fe:=fe.bl gz;replace gq:=gq.bl gz;replace gp:=gp.bl gz;replace zP:=Ab gz zP;refine hK.out _ _ (λ_=>bh.o _ bZ) (λ_=>?_);clear hK K
    try simp only[gX]
    refine Lt.sp (i:=6) (λK hK=>?_);go_simp;refine(Nw (n:=n) HL.o (HT.o.bl (bt HB.o bZ)) (HP.o.bl (bt HB.o bZ)) fq fe gq gp oz).mono ?_;rintro e wC ⟨gu,d,cv,tx,qv,nv,ev,zs,kv,lv,rfl,jx,ow,iw⟩;have jl:=Ad iw;clear iw;have uj:=Ad jx;clear jx;obtain⟨⟨b1,b2,rfl⟩,⟨b3,b4,rfl⟩,⟨b5,b6,rfl⟩,⟨b7,b8,rfl⟩,⟨b9,Ld,rfl⟩⟩:=ow.slices;replace ow:=BW.base ow (show yz.heap.size≤_ from bZ.size);have bC:=bt bZ gu;replace zP:=Ab gu zP;refine hK.out _ _ (λ_=>bh.o _ bC) (λ_=>?_);clear hK K
    try simp only[gX]
    clear fq fe gq gp oz;obtain⟨P,eP⟩:=Aj wD.heap.size;exact qde
  case rest=>
   obtain⟨P15,d15,cv15,tx15,qv15,nv15,ev15,zs15,kv15,lv15,rfl,HX15⟩:=hcut;obtain⟨w18,rfl⟩:∃wk,wk=wc:=⟨_,rfl⟩;have hdd:=uj.o.uniq HX15.o.2.1 HL.o.spv;subst hdd;obtain⟨⟨i1,i2,rfl⟩,⟨i3,i4,rfl⟩,⟨i5,i6,rfl⟩,⟨i7,i8,rfl⟩,⟨i9,i10,rfl⟩⟩:=HX15.o.2.2.1.slices;have U1:=HX15.o.2.2.2.2;replace fh:=Ad (Ab U1 fh.o);replace fx:=Ad (show w18.heap[P8]?=_∧BW w18 w2.heap.size _ _ _ _ _ _ G1 py G4 from ⟨Ab U1 fx.o.1,fx.o.2.bl U1⟩);replace HMB:=Ad (HMB.o.bl U1);replace HB:=Ad (bt HB.o U1);clear U1;obtain⟨x0,x1,x2,x3,x4,x5,x6,x7,x8,x9⟩:=Fe HX15.o.1;obtain⟨y0,y1,y2,y3,y4,y5,y6,y7,y8,y9⟩:=Fe fx.o.1;go_wp2_with fail;clear x0 x1 x2 x3 x4 x5 x6 x7 x8 x9 y0 y1 y2 y3 y4 y5 y6 y7 y8 y9;obtain⟨_,_,_,_,_,_,_,_,_,_,X8⟩:=HX15.o.2.2.1.view;obtain⟨_,_,_,_,_,_,_,_,_,_,X7⟩:=fx.o.2.view;refine(Ma X8 X7 tj.o).mono ?_;rintro e w19 ⟨hb19,rfl⟩;clear X8 X7;replace fh:=Ad (Ab hb19 fh.o);replace HMB:=Ad (HMB.o.bl hb19);replace HB:=Ad (bt HB.o hb19);clear hb19;obtain⟨x0,x1,x2,x3,x4,x5,x6,x7,x8,x9⟩:=Fe fh.o;go_wp2_with fail;clear x0 x1 x2 x3 x4 x5 x6 x7 x8 x9;refine(Ow HMB.o tj.o).mono ?_;rintro e w20 ⟨hb20,rfl⟩;rw[ekf];replace HB:=Ad (bt HB.o hb20);clear hb20;exact qdz
end Go.Proofs.YtoakjccojifagaaGreatDoor
