import Derived.Test.YtfgoholldpeabaaGreatDoorBvM
namespace Go.Proofs.YtfgoholldpeabaaGreatDoor
open _root_.Go.Proofs.Tryz Go.RowKit Go.Deep
set_option linter.unusedVariables false
set_option linter.unusedSimpArgs false
set_option maxHeartbeats 8000000
set_option maxRecDepth 100000
variable {w w':World} {lo:Nat} {d:BD} {cv qv nv ev v:Value} {zs:List Value} {kv lv:Nat→Value} {R:List T3}
theorem BW.base {lo':Nat} {tx:Value} (h:BW w lo d cv tx qv nv ev zs kv lv) (hl:lo' ≤ lo):BW w lo' d cv tx qv nv ev zs kv lv:=
  ⟨Ah h.ch hl,Ah h.txs hl,⟨Ah h.rq.row hl,h.rq.fil,fun i hi=>by obtain⟨ys,a,b⟩:=h.rq.code i hi;exact⟨ys,Ah a hl,b⟩,fun i hi=>by obtain⟨ys,a,b⟩:=h.rq.look i hi;exact⟨ys,Ah a hl,b⟩,h.rq.apc,h.rq.apl⟩,Ah h.ran hl,Ah h.held hl⟩
theorem Ls.rows {hi:Nat} {ts:List T2} {xs:List Value} {cv:Nat->Value} (h:Ls w lo hi v ts xs cv):Eh w lo hi v ts.length (fun i=>(tx ts i).code.length) xs cv:=
  ⟨h.row,fun i hi=>(h.fil i hi).2,fun i hi=>by obtain⟨ys,h1,_⟩:=h.code i hi;exact⟨ys,h1⟩,fun i j hi hj hne b e1 e2=>by
    rcases Nat.lt_or_gt_of_ne hne with h1|h1
    · exact h.apart i j h1 hj b e1 e2
    · exact h.apart j i h1 hi b e2 e1⟩
theorem Gy.keptB (h:Gy w lo v R zs kv lv) (h1:∀ b,v.ownBlock=some b→w'.heap[b]?=w.heap[b]?) (h2:∀ i,i<R.length→∀ b,(kv i).ownBlock=some b→w'.heap[b]?=w.heap[b]?) (h3:∀ i,i<R.length→∀ b,(lv i).ownBlock=some b→w'.heap[b]?=w.heap[b]?):Gy w' lo v R zs kv lv:=
  ⟨Aj h.row h1,h.fil,fun i hi=>by obtain⟨ys,a,b⟩:=h.code i hi;exact⟨ys,Aj a (h2 i hi),b⟩,fun i hi=>by obtain⟨ys,a,b⟩:=h.look i hi;exact⟨ys,Aj a (h3 i hi),b⟩,h.apc,h.apl⟩
theorem BW.keepGe {tx:Value} (h:BW w lo d cv tx qv nv ev zs kv lv) (hk:∀ b,lo ≤ b→b<w.heap.size→w'.heap[b]?=w.heap[b]?):BW w' lo d cv tx qv nv ev zs kv lv:=
  ⟨Aj h.ch fun b q=>hk b (h.ch.lt b q).1 (h.ch.lt b q).2,Aj h.txs fun b q=>hk b (h.txs.lt b q).1 (h.txs.lt b q).2,h.rq.keptB (fun b q=>hk b (h.rq.row.lt b q).1 (h.rq.row.lt b q).2) (fun i hi b q=>by obtain⟨ys,a,_⟩:=h.rq.code i hi;exact hk b (a.lt b q).1 (a.lt b q).2) (fun i hi b q=>by obtain⟨ys,a,_⟩:=h.rq.look i hi;exact hk b (a.lt b q).1 (a.lt b q).2),Aj h.ran fun b q=>hk b (h.ran.lt b q).1 (h.ran.lt b q).2,Aj h.held fun b q=>hk b (h.held.lt b q).1 (h.held.lt b q).2⟩
theorem BW.keepLt {w3:World} {tx:Value} (h:BW w lo d cv tx qv nv ev zs kv lv) (k:BW w3 lo d cv tx qv nv ev zs kv lv) (hk:∀ b,b<w3.heap.size→w'.heap[b]?=w.heap[b]?):BW w' lo d cv tx qv nv ev zs kv lv:=
  ⟨Aj h.ch fun b q=>hk b (k.ch.lt b q).2,Aj h.txs fun b q=>hk b (k.txs.lt b q).2,h.rq.keptB (fun b q=>hk b (k.rq.row.lt b q).2) (fun i hi b q=>by obtain⟨ys,a,_⟩:=k.rq.code i hi;exact hk b (a.lt b q).2) (fun i hi b q=>by obtain⟨ys,a,_⟩:=k.rq.look i hi;exact hk b (a.lt b q).2),Aj h.ran fun b q=>hk b (k.ran.lt b q).2,Aj h.held fun b q=>hk b (k.held.lt b q).2⟩
theorem Gy.rowsT {w8:World} (h:Gy w lo v R zs kv lv) (k:Gy w8 lo v R zs kv lv):Cy w lo w8.heap.size v R.length (fun i=>(qx R i).code.length) (fun i=>(qx R i).looks.length) zs kv lv:=
  ⟨⟨h.row,fun b e=>(k.row.lt b e).2⟩,fun i hi=>(h.fil i hi).1,fun i hi=>(h.fil i hi).2.1,fun i hi=>by obtain⟨ys,h1,_⟩:=h.code i hi;obtain⟨_,k1,_⟩:=k.code i hi;exact⟨ys,h1,fun b e=>(k1.lt b e).2⟩,fun i hi=>by obtain⟨ys,h1,_⟩:=h.look i hi;obtain⟨_,k1,_⟩:=k.look i hi;exact⟨ys,h1,fun b e=>(k1.lt b e).2⟩,fun i j hi hj hne b e1 e2=>by
    rcases Nat.lt_or_gt_of_ne hne with h1|h1
    · exact h.apc i j h1 hj b e1 e2
    · exact h.apc j i h1 hi b e2 e1,fun i j hi hj hne b e1 e2=>by
    rcases Nat.lt_or_gt_of_ne hne with h1|h1
    · exact h.apl i j h1 hj b e1 e2
    · exact h.apl j i h1 hi b e2 e1⟩
theorem kR1_le {T:List By} (hT:T.length ≤ 1048576) (hR:Ga R):kR (fun i=>(qx R i).code.length) (fun i=>(qx R i).looks.length) (1+T.length) R.length ≤ 100000000000000:=by
  have h1:=Qbk (fun i=>(qx R i).code.length) (fun i=>(qx R i).looks.length) (1+T.length) R.length hR.2;have h2:=hR.1;omega
theorem kT1_le {ss:List S2} {tp:List T2} {K:Nat} (hs:Fb ss tp) (hK:K ≤ 100000000000000):kT (fun i=>(tx tp i).code.length) (K+2*ss.length) tp.length ≤ 800000000000000:=by
  have h1:=kT_bound (fun i=>(tx tp i).code.length) (K+2*ss.length) tp.length hs.lc;have h2:=hs.ls;have h3:=hs.lt;omega
theorem buildLaw (n:Int) (ta ra sa ua:Option Addr) (tc rc c1 c2:Nat) (T:List By) (R:List T3) (ss:List S2) (tp:List T2) (nm:By) (w:World) (hT:Lr w) (hP:Mb w) (h:Zq w ta T ra R) (hs:Ll w sa ss ua tp) (hn:nm.size ≤ maxLen) :
    Calls prog 3 #[.agg #[I n,.slice ta T.length tc,.slice ra R.length rc],.agg #[.slice sa ss.length c1,.slice ua tp.length c2],.string nm] w fun e w'=>e=.returned (.bool true)∧Bw w w':=by
  obtain⟨W,eW⟩:=Ai ((w.alloc (.cells #[I n,.slice ta T.length tc,.slice ra R.length rc] 25)).alloc (.cells #[.slice sa ss.length c1,.slice ua tp.length c2] 29));have bn:Bw w W:=by rw[← eW];exact Ay (Ag _ _) (Ag _ _)
  have HA:Hd (W.heap[w.heap.size]?=some (.cells #[I n,.slice ta T.length tc,.slice ra R.length rc] 25 (0,0))):=qdz
  have HS:Hd (W.heap[w.heap.size+1]?=some (.cells #[.slice sa ss.length c1,.slice ua tp.length c2] 29 (0,0))):=by
    show _=_;rw[← eW];have:=Gq (w.alloc (.cells #[I n,.slice ta T.length tc,.slice ra R.length rc] 25)) (.cells #[.slice sa ss.length c1,.slice ua tp.length c2] 29)
    rwa [show (w.alloc (.cells #[I n,.slice ta T.length tc,.slice ra R.length rc] 25)).heap.size=w.heap.size+1 from qg] at this
  have HT:=hid hT;have HP:=hid hP;have xj:=hid h;have HSP:=hid hs;have HB:=hid bn;have hnz:nm.size ≤ 9223372036854775807:=by unfold maxLen at hn;omega
  clear hT hP h hs bn hn;obtain⟨p0,p1,p2,pf⟩:=Ea HA.o;obtain⟨s0,s1⟩:=Fr HS.o;go_enter func3,ntmps3
  by_cases wh:1048576<nm.size
  · have hbI:((nm.size:Int) > 1048576)=True:=qh
    have hbJ:decide ((1048576:Int)<(nm.size:Int))=true:=qh;exact qdn
  have hbI:((nm.size:Int) > 1048576)=False:=qh;have hbJ:decide ((1048576:Int)<(nm.size:Int))=false:=qh;go_wp2_with fail;clear eW p0 p1 p2 pf s0 s1;refine(Xw n ta ra tc rc T R 1048576 qb qb W (xj.o.bl HB.o)).mono ?_;rintro e w1 ⟨af,r,rfl,hr⟩;replace HA:=hid (Ab af HA.o);replace HS:=hid (Ab af HS.o);replace HB:=hid (bt HB.o af);clear af
  rcases hr with hr|⟨A6,lj,aj,hqs⟩
  · exact qdn
  have mu:¬ r<0:=qb;obtain⟨s0,s1⟩:=Fr HS.o;go_wp2_with fail;clear s0 s1;refine(Xx sa ua c1 c2 ss tp r A6 lj w1 (HSP.o.bl HB.o)).mono ?_;rintro e w2 ⟨ag,r2,rfl,wf⟩;replace HA:=hid (Ab ag HA.o);replace HS:=hid (Ab ag HS.o);replace HB:=hid (bt HB.o ag);clear ag A6 lj mu
  rcases wf with wf|⟨mr,A6⟩
  · exact qdn
  have hr4:¬ r2<0:=qb;have HL:=hid (show LawA w ta ra sa ua T R ss tp nm from ⟨xj.o,aj,hqs,HSP.o,mr,hnz⟩);clear aj hqs mr
  go_upto_region 10 with fail
  have T0:=hid (fun (V:World) (hV:Bw w V)=>Mc n ta ra tc rc T R V (HL.o.so.st.bl hV) (HL.o.so.rq.bl hV) HL.o.lt HL.o.qs);have xh:=hid (fun (V:World) (hV:Bw w V)=>Me sa ua c1 c2 ss tp V (HL.o.sp.rs.bl hV) (HL.o.sp.rt.bl hV) HL.o.sm);obtain⟨wD,eD⟩:=Ai w2.drew;have bD:Bw w2 wD:=qaa;have cq:Hd (∀ V:World,Bw w2 V→V.heap[w.heap.size]?=some (.cells #[I n,.slice ta T.length tc,.slice ra R.length rc] 25 (0,0))∧V.heap[w.heap.size+1]?=some (.cells #[.slice sa ss.length c1,.slice ua tp.length c2] 29 (0,0))):=fun V h=>⟨Ab h HA.o,Ab h HS.o⟩
  go_cut [8] (fun p wx=>∃(P:Nat) (d:BD) (cv tx qv nv ev:Value) (zs:List Value) (kv lv:Nat→Value),p=.pointer (p_ P)∧Hd (wx.heap[P]?=some (.cells (bV d cv tx qv nv ev) 36 (0,0))∧Mz n ss tp T R nm d∧BW wx w2.heap.size d cv tx qv nv ev zs kv lv∧Bw w2 wx))
  case first=>
   refine Lt.begin 7 (fun w'=>w'.heap[w.heap.size]?=some (.cells #[I n,.slice ta T.length tc,.slice ra R.length rc] 25 (0,0))∧w'.heap[w.heap.size+1]?=some (.cells #[.slice sa ss.length c1,.slice ua tp.length c2] 29 (0,0))) qi ?_;rw[eD];clear eD;refine Lt.ti (i:=0) (v:=?_) (cq.o _ bD) ?_ ?_;rotate_left 1
   · exact qbj
   simp only[gX];refine Lt.ti (i:=2) (v:=?_) (cq.o _ bD) ?_ ?_;rotate_left 1
   · exact qbj
   simp only[gX];refine Lt.ti (i:=4) (v:=?_) (cq.o _ bD) ?_ ?_;rotate_left 1
   · exact qbj
   simp only[gX];refine Lt.two (i:=1) (j:=6) (oi:={ dst:=some 30,op:=Op.call { callee:=Callee.value (Operand.func 7),args:=#[Operand.tmp 29],argTypes:=#[25] },type:=34,pos := "exact.go:1902",after:=#[{ on:=0,ground:=Ground.data }],guard:=none }) (oj:={ dst:=some 8,op:=Op.alloc 36,type:=0,pos := "exact.go:1902",after:=#[],guard:=none }) qi rfl rfl (fun K hK=>?_) (fun K hK=>?_)
   · skip
     go_simp;refine(T0.o _ (bt HB.o bD)).mono ?_;rintro e wA ⟨bu,g1,v2,rfl,jy,jb⟩;obtain⟨a2,p2,rfl,-⟩:=jb.sl;have bA:=bt bD bu;refine hK.out _ _ (fun _=>cq.o _ bA) (fun _=>?_);clear hK K
     try simp only[gX]
     refine Lt.two (i:=3) (j:=6) (oi:={ dst:=some 32,op:=Op.call { callee:=Callee.value (Operand.func 8),args:=#[Operand.tmp 31],argTypes:=#[29] },type:=42,pos := "exact.go:1902",after:=#[{ on:=2,ground:=Ground.data },{ on:=1,ground:=Ground.chain }],guard:=none }) (oj:={ dst:=some 8,op:=Op.alloc 36,type:=0,pos := "exact.go:1902",after:=#[],guard:=none }) qi rfl rfl (fun K hK=>?_) (fun K hK=>?_)
     · skip
       go_simp;refine(xh.o _ (bt HB.o bA)).mono ?_;rintro e wB ⟨fg,u1,u2,rfl,nh,mz⟩;obtain⟨a3,p3,rfl,-⟩:=nh.sl;obtain⟨a4,p4,rfl,-⟩:=mz.sl;have bB:=bt bA fg;replace jy:=jy.bl fg;replace jb:=jb.bl fg;refine hK.out _ _ (fun _=>cq.o _ bB) (fun _=>?_);clear hK K
       try simp only[gX]
       refine Lt.two (i:=5) (j:=6) (oi:={ dst:=some 34,op:=Op.call { callee:=Callee.value (Operand.func 6),args:=#[Operand.tmp 30,Operand.tmp 32,Operand.tmp 33],argTypes:=#[34,42,9] },type:=36,pos := "exact.go:1902",after:=#[{ on:=1,ground:=Ground.data },{ on:=3,ground:=Ground.data },{ on:=4,ground:=Ground.data },{ on:=3,ground:=Ground.chain }],guard:=none }) (oj:={ dst:=some 8,op:=Op.alloc 36,type:=0,pos := "exact.go:1902",after:=#[],guard:=none }) qi rfl rfl (fun K hK=>?_) (fun K hK=>?_)
       · skip
         go_simp;refine(Tc (n:=n) HL.o jy jb nh mz).mono ?_;rintro e wC ⟨ja,d,cv,tx,qv,nv,ev,zs,kv,lv,rfl,n9,ow⟩;have yn:=hid n9;clear n9;obtain⟨⟨b1,b2,rfl⟩,⟨b3,b4,rfl⟩,⟨b5,b6,rfl⟩,⟨b7,b8,rfl⟩,⟨b9,Pz,rfl⟩⟩:=ow.slices;replace ow:=BW.base ow (show w2.heap.size ≤ _ from bB.size);have bC:=bt bB ja;refine hK.out _ _ (fun _=>cq.o _ bC) (fun _=>?_);clear hK K
         try simp only[gX]
         clear jy jb nh mz;refine Lt.sp (i:=6) (fun K hK=>?_);go_simp;refine Cc (Q:=fun x=>K _ x) ?_;intro wP km tu
         try dsimp only
         have zP:=tu.out;clear tu;have bP:=bt bC km;have uq:=bC.size;replace ow:=ow.bl km;refine hK.out _ _ (fun _=>cq.o _ bP) (fun _=>?_);clear hK K
         try simp only[gX]
         obtain⟨P,eP⟩:=Ai wC.heap.size;rw[eP] at zP uq ⊢;obtain⟨L6,L5,L4,L2,L1,L0,Le,K9,K8,K7⟩:=Fc zP;have zcf:=fZ zP;obtain⟨l,el⟩:∃ l:List (Nat × Nat × Value),l=[(P,0,I d.c),(P,1,.string d.t),(P,2,.slice b1 d.ch.length b2),(P,3,I d.n),(P,4,.slice b3 d.T.length b4),(P,5,.slice b5 d.R.length b6),(P,6,.slice b7 d.ran.length b8),(P,7,.slice b9 d.held.length Pz),(P,8,.string d.A),(P,9,.string d.B)]:=⟨_,rfl⟩;have dr:∀ x∈l,x.1=P:=qab;have cm:=Ds l wP _ dr zP;have hS:=ow.setU dr zP;have fc:Bw w2 (Cf wP l):=Br l wP bP (fun x hx=>qag);obtain⟨V,eV⟩:=Ai (Cf wP l);rw[eV] at cm fc hS;rw[el] at cm eV;simp only[Cf,List.foldl] at eV;simp only[List.foldl,List.setIfInBounds_toArray,List.set_cons_zero,List.set_cons_succ] at cm;have HV:=hid cm;have mn:=hid fc;have ji:=hid hS;clear cm fc el dr hS;refine Lt.sp (i:=7) (fun K hK=>?_);go_simp
         try rw[eV]
         refine hK.out _ _ (fun h=>absurd rfl h) (fun _=>?_);clear hK K;refine Lt.done qi ?_ _;go_wp2_with fail;go_meet;exact⟨P,d,_,_,_,_,_,zs,kv,lv,rfl,HV.o,yn.o,ji.o,mn.o⟩
       · skip
         go_simp;refine Cc (Q:=fun x=>K _ x) ?_;intro wP km tu
         try dsimp only
         have zP:=tu.out;clear tu;have bP:=bt bB km;have uq:=bB.size;replace jy:=jy.bl km;replace jb:=jb.bl km;replace nh:=nh.bl km;replace mz:=mz.bl km;refine hK.out _ _ (fun _=>cq.o _ bP) (fun _=>?_);clear hK K
         try simp only[gX]
         refine Lt.sp (i:=5) (fun K hK=>?_);go_simp;refine(Tc (n:=n) HL.o jy jb nh mz).mono ?_;rintro e wC ⟨ja,d,cv,tx,qv,nv,ev,zs,kv,lv,rfl,n9,ow⟩;have yn:=hid n9;clear n9;obtain⟨⟨b1,b2,rfl⟩,⟨b3,b4,rfl⟩,⟨b5,b6,rfl⟩,⟨b7,b8,rfl⟩,⟨b9,Pz,rfl⟩⟩:=ow.slices;replace ow:=BW.base ow (show w2.heap.size ≤ _ from bP.size);have bC:=bt bP ja;replace zP:=Ab ja zP;refine hK.out _ _ (fun _=>cq.o _ bC) (fun _=>?_);clear hK K
         try simp only[gX]
         clear jy jb nh mz;obtain⟨P,eP⟩:=Ai wB.heap.size;exact qem
     · skip
       go_simp;refine Cc (Q:=fun x=>K _ x) ?_;intro wP km tu
       try dsimp only
       have zP:=tu.out;clear tu;have bP:=bt bA km;have uq:=bA.size;replace jy:=jy.bl km;replace jb:=jb.bl km;refine hK.out _ _ (fun _=>cq.o _ bP) (fun _=>?_);clear hK K
       try simp only[gX]
       refine Lt.sp (i:=3) (fun K hK=>?_);go_simp;refine(xh.o _ (bt HB.o bP)).mono ?_;rintro e wB ⟨fg,u1,u2,rfl,nh,mz⟩;obtain⟨a3,p3,rfl,-⟩:=nh.sl;obtain⟨a4,p4,rfl,-⟩:=mz.sl;have bB:=bt bP fg;replace jy:=jy.bl fg;replace jb:=jb.bl fg;replace zP:=Ab fg zP;refine hK.out _ _ (fun _=>cq.o _ bB) (fun _=>?_);clear hK K
       try simp only[gX]
       refine Lt.sp (i:=5) (fun K hK=>?_);go_simp;refine(Tc (n:=n) HL.o jy jb nh mz).mono ?_;rintro e wC ⟨ja,d,cv,tx,qv,nv,ev,zs,kv,lv,rfl,n9,ow⟩;have yn:=hid n9;clear n9;obtain⟨⟨b1,b2,rfl⟩,⟨b3,b4,rfl⟩,⟨b5,b6,rfl⟩,⟨b7,b8,rfl⟩,⟨b9,Pz,rfl⟩⟩:=ow.slices;replace ow:=BW.base ow (show w2.heap.size ≤ _ from bB.size);have bC:=bt bB ja;replace zP:=Ab ja zP;refine hK.out _ _ (fun _=>cq.o _ bC) (fun _=>?_);clear hK K
       try simp only[gX]
       clear jy jb nh mz;obtain⟨P,eP⟩:=Ai wA.heap.size;exact qem
   · skip
     go_simp;refine Cc (Q:=fun x=>K _ x) ?_;intro wP km tu
     try dsimp only
     have zP:=tu.out;clear tu;have bP:=bt bD km;have uq:=bD.size;refine hK.out _ _ (fun _=>cq.o _ bP) (fun _=>?_);clear hK K
     try simp only[gX]
     refine Lt.sp (i:=1) (fun K hK=>?_);go_simp;refine(T0.o _ (bt HB.o bP)).mono ?_;rintro e wA ⟨bu,g1,v2,rfl,jy,jb⟩;obtain⟨a2,p2,rfl,-⟩:=jb.sl;have bA:=bt bP bu;replace zP:=Ab bu zP;refine hK.out _ _ (fun _=>cq.o _ bA) (fun _=>?_);clear hK K
     try simp only[gX]
     refine Lt.sp (i:=3) (fun K hK=>?_);go_simp;refine(xh.o _ (bt HB.o bA)).mono ?_;rintro e wB ⟨fg,u1,u2,rfl,nh,mz⟩;obtain⟨a3,p3,rfl,-⟩:=nh.sl;obtain⟨a4,p4,rfl,-⟩:=mz.sl;have bB:=bt bA fg;replace jy:=jy.bl fg;replace jb:=jb.bl fg;replace zP:=Ab fg zP;refine hK.out _ _ (fun _=>cq.o _ bB) (fun _=>?_);clear hK K
     try simp only[gX]
     refine Lt.sp (i:=5) (fun K hK=>?_);go_simp;refine(Tc (n:=n) HL.o jy jb nh mz).mono ?_;rintro e wC ⟨ja,d,cv,tx,qv,nv,ev,zs,kv,lv,rfl,n9,ow⟩;have yn:=hid n9;clear n9;obtain⟨⟨b1,b2,rfl⟩,⟨b3,b4,rfl⟩,⟨b5,b6,rfl⟩,⟨b7,b8,rfl⟩,⟨b9,Pz,rfl⟩⟩:=ow.slices;replace ow:=BW.base ow (show w2.heap.size ≤ _ from bB.size);have bC:=bt bB ja;replace zP:=Ab ja zP;refine hK.out _ _ (fun _=>cq.o _ bC) (fun _=>?_);clear hK K
     try simp only[gX]
     clear jy jb nh mz;obtain⟨P,eP⟩:=Ai wD.heap.size;exact qem
  case rest=>
   obtain⟨P8,d8,cv8,tx8,qv8,nv8,ev8,U9,tw,V0,rfl,ym⟩:=hcut;obtain⟨w3,rfl⟩:∃ wk,wk=wc:=⟨_,rfl⟩;have pu:=hid (Ab ym.o.2.2.2 HA.o);have mh:=hid (Ab ym.o.2.2.2 HS.o);have fk:=hid (bt HB.o ym.o.2.2.2);clear T0 xh cq bD eD;have T0:=hid (fun (V:World) (hV:Bw w V)=>Mc n ta ra tc rc T R V (HL.o.so.st.bl hV) (HL.o.so.rq.bl hV) HL.o.lt HL.o.qs);have xh:=hid (fun (V:World) (hV:Bw w V)=>Me sa ua c1 c2 ss tp V (HL.o.sp.rs.bl hV) (HL.o.sp.rt.bl hV) HL.o.sm);obtain⟨p0,p1,p2,pf⟩:=Ea pu.o;go_wp2_with fail;clear p0 p1 p2 pf;refine(T0.o w3 fk.o).mono ?_;rintro e w4 ⟨cj,g9,v9,rfl,o9,z9⟩;obtain⟨a9,c9,rfl,-⟩:=z9.sl
   go_upto_region 12 with fail
   obtain⟨w5,e5⟩:=Ai (w4.alloc (.cells #[I n,.slice (p_ g9) T.length T.length,.slice a9 R.length c9] 34));obtain⟨P9,eP9⟩:=Ai w4.heap.size;have cu:Bw w4 w5:=qgr;have E0:=hid (nW e5 eP9);rw[e5,eP9];have O9:=hid (show Dq w5 w3.heap.size P9 (.slice (p_ g9) T.length T.length) T∧Ip w5 w3.heap.size P9 (.slice a9 R.length c9) R from by rw[← eP9];exact⟨o9.bl cu,z9.bl cu⟩);have h35:=Ay cj cu;have hs34:=cj.size;have hs45:=cu.size;clear e5 o9 z9 cj cu;replace pu:=hid (Ab h35 pu.o);replace mh:=hid (Ab h35 mh.o);replace fk:=hid (bt fk.o h35);have ik:=hid (show w5.heap[P8]?=some (.cells (bV d8 cv8 tx8 qv8 nv8 ev8) 36 (0,0))∧BW w5 w2.heap.size d8 cv8 tx8 qv8 nv8 ev8 U9 tw V0 from ⟨Ab h35 ym.o.1,ym.o.2.2.1.bl h35⟩);clear h35;obtain⟨s0,s1⟩:=Fr mh.o;go_wp2_with fail;clear s0 s1;refine(xh.o w5 fk.o).mono ?_;rintro e w6 ⟨ci,u1,u2,rfl,o10,z10'⟩;obtain⟨a10,Mw,rfl,-⟩:=o10.sl;obtain⟨a11,xe,rfl,-⟩:=z10'.sl
   go_upto_region 13 with fail
   obtain⟨w7,e7⟩:=Ai (w6.alloc (.cells #[.slice a10 ss.length Mw,.slice a11 tp.length xe] 42));obtain⟨nz,eP10⟩:=Ai w6.heap.size;have co:=aB e7;have n7:=hid (nW e7 eP10);rw[e7,eP10];have vx:=hid (show Hs w7 w5.heap.size nz (.slice a10 ss.length Mw) ss∧Ha w7 w5.heap.size nz (.slice a11 tp.length xe) tp from by rw[← eP10];exact⟨o10.bl co,z10'.bl co⟩);have h57:=Ay ci co;have hs56:=ci.size;have hs67:=co.size;clear e7 o10 z10' ci co;replace pu:=hid (Ab h57 pu.o);replace mh:=hid (Ab h57 mh.o);replace fk:=hid (bt fk.o h57);replace E0:=hid (Ab h57 E0.o);replace O9:=hid (show Dq w7 w3.heap.size P9 (.slice (p_ g9) T.length T.length) T∧Ip w7 w3.heap.size P9 (.slice a9 R.length c9) R from ⟨O9.o.1.bl h57,O9.o.2.bl h57⟩);replace ik:=hid (show w7.heap[P8]?=some (.cells (bV d8 cv8 tx8 qv8 nv8 ev8) 36 (0,0))∧BW w7 w2.heap.size d8 cv8 tx8 qv8 nv8 ev8 U9 tw V0 from ⟨Ab h57 ik.o.1,ik.o.2.bl h57⟩);clear h57;obtain⟨q0,q1,q2,qf⟩:=Ea E0.o;obtain⟨t0,t1⟩:=Fr n7.o;go_wp2_with fail;clear q0 q1 q2 qf t0 t1;refine(Pt (n:=n) HL.o (HT.o.bl fk.o) (HP.o.bl fk.o) O9.o.1 O9.o.2 vx.o.1 vx.o.2).mono ?_;rintro e w8 ⟨ly,d,cv,tx,qv,nv,ev,zs,kv,lv,rfl,n9,ow,jp⟩;have hdd:=ym.o.2.1.uniq n9 HL.o.spv;subst hdd;have tm:=hid (n9.sm HL.o.spv (show tp.length ≤ 1048576 from HL.o.sm.lt) HL.o.lt HL.o.qs);have yn:=hid n9;have vp:=hid jp;obtain⟨⟨b1,b2,rfl⟩,⟨b3,b4,rfl⟩,⟨b5,b6,rfl⟩,⟨b7,b8,rfl⟩,⟨b9,Pz,rfl⟩⟩:=ow.slices;obtain⟨⟨j1,j2,rfl⟩,⟨j3,j4,rfl⟩,⟨j5,j6,rfl⟩,⟨j7,j8,rfl⟩,⟨j9,zb,rfl⟩⟩:=ik.o.2.slices;clear n9 jp
   go_upto_region 14 with fail
   obtain⟨w9,e9⟩:=Ai (w8.alloc (.cells (bV d (.slice b1 d.ch.length b2) (.slice b3 d.T.length b4) (.slice b5 d.R.length b6) (.slice b7 d.ran.length b8) (.slice b9 d.held.length Pz)) 36));obtain⟨P11,eP11⟩:=Ai w8.heap.size;have N4:=aB e9;have gg:=hid (nW e9 eP11);rw[e9,eP11];have W8:=Ay ly N4;have OW:=hid (ow.bl N4);have OW8:=hid ow;have hs78:=ly.size;have hs89:=N4.size;clear e9 ow ly N4;replace pu:=hid (Ab W8 pu.o);replace mh:=hid (Ab W8 mh.o);replace fk:=hid (bt fk.o W8);replace E0:=hid (Ab W8 E0.o);replace n7:=hid (Ab W8 n7.o);replace O9:=hid (show Dq w9 w3.heap.size P9 (.slice (p_ g9) T.length T.length) T∧Ip w9 w3.heap.size P9 (.slice a9 R.length c9) R from ⟨O9.o.1.bl W8,O9.o.2.bl W8⟩);replace vx:=hid (show Hs w9 w5.heap.size nz (.slice a10 ss.length Mw) ss∧Ha w9 w5.heap.size nz (.slice a11 tp.length xe) tp from ⟨vx.o.1.bl W8,vx.o.2.bl W8⟩);replace ik:=hid (show w9.heap[P8]?=some (.cells (bV d (.slice j1 d.ch.length j2) (.slice j3 d.T.length j4) (.slice j5 d.R.length j6) (.slice j7 d.ran.length j8) (.slice j9 d.held.length zb)) 36 (0,0))∧BW w9 w2.heap.size d (.slice j1 d.ch.length j2) (.slice j3 d.T.length j4) (.slice j5 d.R.length j6) (.slice j7 d.ran.length j8) (.slice j9 d.held.length zb) U9 tw V0 from ⟨Ab W8 ik.o.1,ik.o.2.bl W8⟩);clear W8;obtain⟨x0,x1,x2,x3,x4,x5,x6,x7,x8,x9⟩:=Hp gg.o;obtain⟨y0,y1,y2,y3,y4,y5,y6,y7,y8,y9⟩:=Hp ik.o.1;go_wp2_with fail;clear x0 x1 x2 x3 x4 x5 x6 x7 x8 x9 y0 y1 y2 y3 y4 y5 y6 y7 y8 y9;obtain⟨_,_,_,_,_,_,_,_,_,_,V5⟩:=OW.o.view;obtain⟨_,_,_,_,_,_,_,_,_,_,V4⟩:=ik.o.2.view;refine(Li V5 V4 tm.o).mono ?_;rintro e zy ⟨nk,rfl⟩;clear V5 V4;replace pu:=hid (Ab nk pu.o);replace mh:=hid (Ab nk mh.o);replace fk:=hid (bt fk.o nk);replace E0:=hid (Ab nk E0.o);replace n7:=hid (Ab nk n7.o);replace gg:=hid (Ab nk gg.o);replace O9:=hid (show Dq zy w3.heap.size P9 (.slice (p_ g9) T.length T.length) T∧Ip zy w3.heap.size P9 (.slice a9 R.length c9) R from ⟨O9.o.1.bl nk,O9.o.2.bl nk⟩);replace vx:=hid (show Hs zy w5.heap.size nz (.slice a10 ss.length Mw) ss∧Ha zy w5.heap.size nz (.slice a11 tp.length xe) tp from ⟨vx.o.1.bl nk,vx.o.2.bl nk⟩);replace ik:=hid (show zy.heap[P8]?=some (.cells (bV d (.slice j1 d.ch.length j2) (.slice j3 d.T.length j4) (.slice j5 d.R.length j6) (.slice j7 d.ran.length j8) (.slice j9 d.held.length zb)) 36 (0,0))∧BW zy w2.heap.size d (.slice j1 d.ch.length j2) (.slice j3 d.T.length j4) (.slice j5 d.R.length j6) (.slice j7 d.ran.length j8) (.slice j9 d.held.length zb) U9 tw V0 from ⟨Ab nk ik.o.1,ik.o.2.bl nk⟩);replace OW:=hid (OW.o.bl nk);have hs910:=nk.size;clear nk
   go_upto_region 16 with fail
   obtain⟨wD,eD⟩:=Ai zy.drew;have bD:Bw zy wD:=qaa;have cq:Hd (∀ V:World,Bw zy V→V.heap[P9]?=some (.cells #[I n,.slice (p_ g9) T.length T.length,.slice a9 R.length c9] 34 (0,0))∧V.heap[w.heap.size]?=some (.cells #[I n,.slice ta T.length tc,.slice ra R.length rc] 25 (0,0))):=fun V h=>⟨Ab h E0.o,Ab h pu.o⟩;refine Lt.begin 99 (fun w'=>w'.heap[P9]?=some (.cells #[I n,.slice (p_ g9) T.length T.length,.slice a9 R.length c9] 34 (0,0))∧w'.heap[w.heap.size]?=some (.cells #[I n,.slice ta T.length tc,.slice ra R.length rc] 25 (0,0))) qi ?_;rw[eD];clear eD;change K 0 _
   iterate 2
    refine Lt.ti (v:=?_) (cq.o _ bD) ?_ ?_;rotate_left 1
    · exact qkn
    simp only[gX]
   refine Lt.sp (i:=2) (fun K hK=>?_);go_simp;refine(T0.o _ (bt fk.o bD)).mono ?_;rintro e wA ⟨bu,gA,vA,rfl,oA,zA⟩;obtain⟨aA,cA,rfl,rA,-⟩:=zA.sl;have bA:=bt bD bu;refine hK.out _ _ (fun _=>cq.o _ bA) (fun _=>?_);clear hK K
   try simp only[gX]
   refine Lt.sp (i:=3) (fun K hK=>?_);go_simp;obtain⟨_,_,h1e,h1s⟩:=(O9.o.1.bl bA).sl;cases h1e;obtain⟨_,_,h2e,h2r,-⟩:=(O9.o.2.bl bA).sl;cases h2e;obtain⟨_,_,h3e,h3s⟩:=oA.sl;cases h3e;refine(Pv n _ _ _ _ _ _ _ _ T R wA h1s h3s h2r.row rA.row HL.o.lt HL.o.qs).mono ?_;rintro e yx ⟨ja,rfl⟩;have bC:=bt bA ja;refine hK.out _ _ (fun _=>cq.o _ bC) (fun _=>?_);clear hK K
   try simp only[gX]
   refine Lt.ti (i:=4) (v:=?_) (cq.o _ bC) ?_ ?_;rotate_left 1
   · exact qkn
   simp only[gX];refine Lt.done qi ?_ _;replace pu:=hid (Ab bC pu.o);replace mh:=hid (Ab bC mh.o);replace fk:=hid (bt fk.o bC);replace E0:=hid (Ab bC E0.o);replace n7:=hid (Ab bC n7.o);replace gg:=hid (Ab bC gg.o);replace O9:=hid (show Dq yx w3.heap.size P9 (.slice (p_ g9) T.length T.length) T∧Ip yx w3.heap.size P9 (.slice a9 R.length c9) R from ⟨O9.o.1.bl bC,O9.o.2.bl bC⟩);replace vx:=hid (show Hs yx w5.heap.size nz (.slice a10 ss.length Mw) ss∧Ha yx w5.heap.size nz (.slice a11 tp.length xe) tp from ⟨vx.o.1.bl bC,vx.o.2.bl bC⟩);replace ik:=hid (show yx.heap[P8]?=some (.cells (bV d (.slice j1 d.ch.length j2) (.slice j3 d.T.length j4) (.slice j5 d.R.length j6) (.slice j7 d.ran.length j8) (.slice j9 d.held.length zb)) 36 (0,0))∧BW yx w2.heap.size d (.slice j1 d.ch.length j2) (.slice j3 d.T.length j4) (.slice j5 d.R.length j6) (.slice j7 d.ran.length j8) (.slice j9 d.held.length zb) U9 tw V0 from ⟨Ab bC ik.o.1,ik.o.2.bl bC⟩);replace OW:=hid (OW.o.bl bC);have hs_w11:=bC.size;clear cq bC ja bA bu bD oA zA
   go_upto_region 18 with fail
   obtain⟨wD,eD⟩:=Ai yx.drew;have bD:Bw yx wD:=qaa;have cq:Hd (∀ V:World,Bw yx V→V.heap[nz]?=some (.cells #[.slice a10 ss.length Mw,.slice a11 tp.length xe] 42 (0,0))∧V.heap[w.heap.size+1]?=some (.cells #[.slice sa ss.length c1,.slice ua tp.length c2] 29 (0,0))):=fun V h=>⟨Ab h n7.o,Ab h mh.o⟩;refine Lt.begin 99 (fun w'=>w'.heap[nz]?=some (.cells #[.slice a10 ss.length Mw,.slice a11 tp.length xe] 42 (0,0))∧w'.heap[w.heap.size+1]?=some (.cells #[.slice sa ss.length c1,.slice ua tp.length c2] 29 (0,0))) qi ?_;rw[eD];clear eD;change K 0 _
   iterate 2
    refine Lt.ti (v:=?_) (cq.o _ bD) ?_ ?_;rotate_left 1
    · exact qky
    simp only[gX]
   refine Lt.sp (i:=2) (fun K hK=>?_);go_simp;refine(xh.o _ (bt fk.o bD)).mono ?_;rintro e wA ⟨bu,uA,vA,rfl,oA,zA⟩;have bA:=bt bD bu;refine hK.out _ _ (fun _=>cq.o _ bA) (fun _=>?_);clear hK K
   try simp only[gX]
   refine Lt.sp (i:=3) (fun K hK=>?_);go_simp;refine(Qca (vx.o.1.bl bA) (vx.o.2.bl bA) oA zA HL.o.sm).mono ?_;rintro e L7 ⟨ja,rfl⟩;have bC:=bt bA ja;refine hK.out _ _ (fun _=>cq.o _ bC) (fun _=>?_);clear hK K
   try simp only[gX]
   refine Lt.ti (i:=4) (v:=?_) (cq.o _ bC) ?_ ?_;rotate_left 1
   · exact qky
   simp only[gX];refine Lt.done qi ?_ _;replace pu:=hid (Ab bC pu.o);replace mh:=hid (Ab bC mh.o);replace fk:=hid (bt fk.o bC);replace E0:=hid (Ab bC E0.o);replace n7:=hid (Ab bC n7.o);replace gg:=hid (Ab bC gg.o);replace O9:=hid (show Dq L7 w3.heap.size P9 (.slice (p_ g9) T.length T.length) T∧Ip L7 w3.heap.size P9 (.slice a9 R.length c9) R from ⟨O9.o.1.bl bC,O9.o.2.bl bC⟩);replace vx:=hid (show Hs L7 w5.heap.size nz (.slice a10 ss.length Mw) ss∧Ha L7 w5.heap.size nz (.slice a11 tp.length xe) tp from ⟨vx.o.1.bl bC,vx.o.2.bl bC⟩);replace ik:=hid (show L7.heap[P8]?=some (.cells (bV d (.slice j1 d.ch.length j2) (.slice j3 d.T.length j4) (.slice j5 d.R.length j6) (.slice j7 d.ran.length j8) (.slice j9 d.held.length zb)) 36 (0,0))∧BW L7 w2.heap.size d (.slice j1 d.ch.length j2) (.slice j3 d.T.length j4) (.slice j5 d.R.length j6) (.slice j7 d.ran.length j8) (.slice j9 d.held.length zb) U9 tw V0 from ⟨Ab bC ik.o.1,ik.o.2.bl bC⟩);replace OW:=hid (OW.o.bl bC);have hs_w12:=bC.size;clear cq bC ja bA bu bD oA zA
   go_upto_region 21 with fail
   have hP8:=Af ym.o.1;have l9:=Af E0.o;have l10:=Af n7.o;have l11:=Af gg.o;obtain⟨q0,q1,q2,qf⟩:=Ea E0.o;go_wp2_with fail;clear q0 q1 q2 qf;obtain⟨xs9,cv9,lv9,hq9,-⟩:=O9.o.2;refine(Ny n w3.heap.size P9 T.length R.length 1 _ _ _ _ _ _ _ _ L7 O9.o.1 hq9.rows qb HL.o.lt HL.o.qs.1 HL.o.qs.2 (Nat.le_refl _) (zo (kR1_le HL.o.lt HL.o.qs))).mono ?_;rintro e P1 ⟨rfl,hb13,sd,-,-⟩;have hwl:=Nat.lt_of_lt_of_le (Af HS.o) ym.o.2.2.2.size;have hs13:=hb13.size;have HK13:=hid sd;replace pu:=hid ((sd _ qb (Or.inl qb)).trans pu.o);replace mh:=hid ((sd _ qb (Or.inl qb)).trans mh.o);replace E0:=hid ((sd _ qb (Or.inr qb)).trans E0.o);replace n7:=hid ((sd _ qb (Or.inr qb)).trans n7.o);replace gg:=hid ((sd _ qb (Or.inr qb)).trans gg.o);replace fk:=hid (fk.o.trans (hb13.mono qb));replace vx:=hid (show Hs P1 w5.heap.size nz (.slice a10 ss.length Mw) ss∧Ha P1 w5.heap.size nz (.slice a11 tp.length xe) tp from ⟨vx.o.1.keep sd (Or.inr qb),vx.o.2.keep sd (Or.inr qb)⟩);replace ik:=hid (show P1.heap[P8]?=some (.cells (bV d (.slice j1 d.ch.length j2) (.slice j3 d.T.length j4) (.slice j5 d.R.length j6) (.slice j7 d.ran.length j8) (.slice j9 d.held.length zb)) 36 (0,0))∧BW P1 w2.heap.size d (.slice j1 d.ch.length j2) (.slice j3 d.T.length j4) (.slice j5 d.R.length j6) (.slice j7 d.ran.length j8) (.slice j9 d.held.length zb) U9 tw V0 from ⟨(sd _ qb (Or.inl hP8)).trans ik.o.1,ik.o.2.keepLt ym.o.2.2.1 (fun b q=>sd b qb (Or.inl q))⟩);replace OW:=hid (OW.o.keepGe (fun b q1 q2=>sd b q2 (Or.inr qb)));clear sd hb13 hq9 O9;obtain⟨K1,ek1⟩:=Ai (kR (fun i=>(qx R i).code.length) (fun i=>(qx R i).looks.length) (1+T.length) R.length)
   have hK1:1 ≤ K1∧K1 ≤ 100000000000000:=by
     have h1:=kR1_le HL.o.lt HL.o.qs;have h2:=Po (fun i=>(qx R i).code.length) (fun i=>(qx R i).looks.length) (1+T.length) 0 R.length (Nat.zero_le _);rw[ek1] at h1 h2;simp only[kR] at h2;omega
   rw[ek1];obtain⟨t0,t1⟩:=Fr n7.o;go_wp2_with fail;clear t0 t1;obtain⟨xs10,hr10,-⟩:=vx.o.1;obtain⟨xs11,cv11,hr11⟩:=vx.o.2;refine(Vr w5.heap.size nz ss.length tp.length K1 _ _ _ _ _ _ P1 hr10 hr11.rows qb HL.o.sm.ls HL.o.sm.lt HL.o.sm.lc hK1.1 (kT1_le HL.o.sm hK1.2)).mono ?_;rintro e w14 ⟨rfl,hb14,I0,-⟩;have hs14:=hb14.size;replace pu:=hid ((I0 _ qb (Or.inl qb)).trans pu.o);replace mh:=hid ((I0 _ qb (Or.inl qb)).trans mh.o);replace gg:=hid ((I0 _ qb (Or.inr qb)).trans gg.o);replace fk:=hid (fk.o.trans (hb14.mono qb));replace ik:=hid (show w14.heap[P8]?=some (.cells (bV d (.slice j1 d.ch.length j2) (.slice j3 d.T.length j4) (.slice j5 d.R.length j6) (.slice j7 d.ran.length j8) (.slice j9 d.held.length zb)) 36 (0,0))∧BW w14 w2.heap.size d (.slice j1 d.ch.length j2) (.slice j3 d.T.length j4) (.slice j5 d.R.length j6) (.slice j7 d.ran.length j8) (.slice j9 d.held.length zb) U9 tw V0 from ⟨(I0 _ qb (Or.inl qb)).trans ik.o.1,ik.o.2.keepLt ym.o.2.2.1 (fun b q=>I0 b qb (Or.inl qb))⟩);replace OW:=hid (OW.o.keepGe (fun b q1 q2=>I0 b q2 (Or.inr qb)));clear I0 hb14 hr10 hr11 vx E0 n7;obtain⟨K2,ek2⟩:=Ai (kT (fun i=>(tx tp i).code.length) (K1+2*ss.length) tp.length);rw[ek2];have S6:¬ ((K2:Int)<0):=qb;obtain⟨x0,x1,x2,x3,x4,x5,x6,x7,x8,x9⟩:=Hp gg.o;obtain⟨y0,y1,y2,y3,y4,y5,y6,y7,y8,y9⟩:=Hp ik.o.1;go_wp2_with fail;clear x0 x1 x2 x3 x4 x5 x6 x7 x8 x9 y0 y1 y2 y3 y4 y5 y6 y7 y8 y9;obtain⟨_,_,_,_,_,_,_,_,_,_,V5⟩:=OW.o.view;obtain⟨_,_,_,_,_,_,_,_,_,_,V4⟩:=ik.o.2.view;refine(Li V5 V4 tm.o).mono ?_;rintro e w15 ⟨yk,rfl⟩;clear V5 V4;replace pu:=hid (Ab yk pu.o);replace mh:=hid (Ab yk mh.o);replace fk:=hid (bt fk.o yk);replace gg:=hid (Ab yk gg.o);replace ik:=hid (show w15.heap[P8]?=some (.cells (bV d (.slice j1 d.ch.length j2) (.slice j3 d.T.length j4) (.slice j5 d.R.length j6) (.slice j7 d.ran.length j8) (.slice j9 d.held.length zb)) 36 (0,0))∧BW w15 w2.heap.size d (.slice j1 d.ch.length j2) (.slice j3 d.T.length j4) (.slice j5 d.R.length j6) (.slice j7 d.ran.length j8) (.slice j9 d.held.length zb) U9 tw V0 from ⟨Ab yk ik.o.1,ik.o.2.bl yk⟩);replace OW:=hid (OW.o.bl yk);have hs15:=yk.size;clear yk;have l11b:=Af gg.o;obtain⟨x0,x1,x2,x3,x4,x5,x6,x7,x8,x9⟩:=Hp gg.o;go_wp2_with fail;clear x0 x1 x2 x3 x4 x5 x6 x7 x8 x9;refine(Vs (w:=w15) (lo:=w7.heap.size) (d:=d) ⟨rfl,OW.o.ch,OW.o.txs,OW.o.rq,OW.o.ran,OW.o.held,vp.o⟩ qb tm.o w8.heap.size qb (fun b q=>by rcases q with q|q|q|q;exact(OW8.o.ch.lt b q).2;exact(OW8.o.txs.lt b q).2;exact(OW8.o.ran.lt b q).2;exact(OW8.o.held.lt b q).2) (OW.o.rq.rowsT OW8.o.rq)).mono ?_;rintro e w16 ⟨hb16,rfl,R6,hmb⟩;have hs16:=hb16.size;replace pu:=hid ((R6 _ qb (Or.inl qb)).trans pu.o);replace mh:=hid ((R6 _ qb (Or.inl qb)).trans mh.o);replace fk:=hid (fk.o.trans (hb16.mono qb));replace gg:=hid ((R6 _ qb (Or.inr qb)).trans gg.o);replace ik:=hid (show w16.heap[P8]?=some (.cells (bV d (.slice j1 d.ch.length j2) (.slice j3 d.T.length j4) (.slice j5 d.R.length j6) (.slice j7 d.ran.length j8) (.slice j9 d.held.length zb)) 36 (0,0))∧BW w16 w2.heap.size d (.slice j1 d.ch.length j2) (.slice j3 d.T.length j4) (.slice j5 d.R.length j6) (.slice j7 d.ran.length j8) (.slice j9 d.held.length zb) U9 tw V0 from ⟨(R6 _ qb (Or.inl qb)).trans ik.o.1,ik.o.2.keepLt ym.o.2.2.1 (fun b q=>R6 b qb (Or.inl qb))⟩);have HMB:=hid hmb;clear hb16 R6 hmb OW OW8;obtain⟨KF,ekf⟩:=Ai (kF d);rw[ekf];obtain⟨x0,x1,x2,x3,x4,x5,x6,x7,x8,x9⟩:=Hp gg.o;go_wp2_with fail;clear x0 x1 x2 x3 x4 x5 x6 x7 x8 x9;refine(Ob HMB.o tm.o).mono ?_;rintro e P0 ⟨C7,rfl⟩;rw[ekf];replace pu:=hid (Ab C7 pu.o);replace mh:=hid (Ab C7 mh.o);replace fk:=hid (bt fk.o C7);replace gg:=hid (Ab C7 gg.o);replace ik:=hid (show P0.heap[P8]?=some (.cells (bV d (.slice j1 d.ch.length j2) (.slice j3 d.T.length j4) (.slice j5 d.R.length j6) (.slice j7 d.ran.length j8) (.slice j9 d.held.length zb)) 36 (0,0))∧BW P0 w2.heap.size d (.slice j1 d.ch.length j2) (.slice j3 d.T.length j4) (.slice j5 d.R.length j6) (.slice j7 d.ran.length j8) (.slice j9 d.held.length zb) U9 tw V0 from ⟨Ab C7 ik.o.1,ik.o.2.bl C7⟩);replace HMB:=hid (HMB.o.bl C7);clear C7;have hkf0:¬ ((KF:Int)<0):=qb
   go_upto_region 33 with fail
   clear T0 xh;replace HA:=hid pu.o;replace HS:=hid mh.o;replace HB:=hid fk.o;have T0:=hid (fun (V:World) (hV:Bw w V)=>Mc n ta ra tc rc T R V (HL.o.so.st.bl hV) (HL.o.so.rq.bl hV) HL.o.lt HL.o.qs);have xh:=hid (fun (V:World) (hV:Bw w V)=>Me sa ua c1 c2 ss tp V (HL.o.sp.rs.bl hV) (HL.o.sp.rt.bl hV) HL.o.sm);obtain⟨wD,eD⟩:=Ai P0.drew;have bD:Bw P0 wD:=qaa;have cq:Hd (∀ V:World,Bw P0 V→V.heap[w.heap.size]?=some (.cells #[I n,.slice ta T.length tc,.slice ra R.length rc] 25 (0,0))∧V.heap[w.heap.size+1]?=some (.cells #[.slice sa ss.length c1,.slice ua tp.length c2] 29 (0,0))):=fun V h=>⟨Ab h HA.o,Ab h HS.o⟩
   go_cut [15] (fun p wx=>∃(P:Nat) (d:BD) (cv tx qv nv ev:Value) (zs:List Value) (kv lv:Nat→Value),p=.pointer (p_ P)∧Hd (wx.heap[P]?=some (.cells (bV d cv tx qv nv ev) 36 (0,0))∧Mz n ss tp T R nm d∧BW wx P0.heap.size d cv tx qv nv ev zs kv lv∧It [cv,tx,nv,ev]∧Bw P0 wx))
   case first=>
    refine Lt.begin 7 (fun w'=>w'.heap[w.heap.size]?=some (.cells #[I n,.slice ta T.length tc,.slice ra R.length rc] 25 (0,0))∧w'.heap[w.heap.size+1]?=some (.cells #[.slice sa ss.length c1,.slice ua tp.length c2] 29 (0,0))) qi ?_;rw[eD];clear eD;refine Lt.ti (i:=0) (v:=?_) (cq.o _ bD) ?_ ?_;rotate_left 1
    · exact qbj
    simp only[gX];refine Lt.ti (i:=2) (v:=?_) (cq.o _ bD) ?_ ?_;rotate_left 1
    · exact qbj
    simp only[gX];refine Lt.ti (i:=4) (v:=?_) (cq.o _ bD) ?_ ?_;rotate_left 1
    · exact qbj
    simp only[gX];refine Lt.two (i:=1) (j:=6) (oi:={ dst:=some 83,op:=Op.call { callee:=Callee.value (Operand.func 7),args:=#[Operand.tmp 82],argTypes:=#[25] },type:=34,pos := "exact.go:1931",after:=#[{ on:=0,ground:=Ground.data }],guard:=none }) (oj:={ dst:=some 15,op:=Op.alloc 36,type:=0,pos := "exact.go:1931",after:=#[],guard:=none }) qi rfl rfl (fun K hK=>?_) (fun K hK=>?_)
    · skip
      go_simp;refine(T0.o _ (bt HB.o bD)).mono ?_;rintro e wA ⟨bu,g1,v2,rfl,jy,jb⟩;obtain⟨a2,p2,rfl,-⟩:=jb.sl;have bA:=bt bD bu;refine hK.out _ _ (fun _=>cq.o _ bA) (fun _=>?_);clear hK K
      try simp only[gX]
      refine Lt.two (i:=3) (j:=6) (oi:={ dst:=some 85,op:=Op.call { callee:=Callee.value (Operand.func 8),args:=#[Operand.tmp 84],argTypes:=#[29] },type:=42,pos := "exact.go:1931",after:=#[{ on:=2,ground:=Ground.data },{ on:=1,ground:=Ground.chain }],guard:=none }) (oj:={ dst:=some 15,op:=Op.alloc 36,type:=0,pos := "exact.go:1931",after:=#[],guard:=none }) qi rfl rfl (fun K hK=>?_) (fun K hK=>?_)
      · skip
        go_simp;refine(xh.o _ (bt HB.o bA)).mono ?_;rintro e wB ⟨fg,u1,u2,rfl,nh,mz⟩;obtain⟨a3,p3,rfl,-⟩:=nh.sl;obtain⟨a4,p4,rfl,-⟩:=mz.sl;have bB:=bt bA fg;replace jy:=jy.bl fg;replace jb:=jb.bl fg;refine hK.out _ _ (fun _=>cq.o _ bB) (fun _=>?_);clear hK K
        try simp only[gX]
        refine Lt.two (i:=5) (j:=6) (oi:={ dst:=some 87,op:=Op.call { callee:=Callee.value (Operand.func 9),args:=#[Operand.tmp 83,Operand.tmp 85,Operand.tmp 86],argTypes:=#[34,42,9] },type:=36,pos := "exact.go:1931",after:=#[{ on:=1,ground:=Ground.data },{ on:=3,ground:=Ground.data },{ on:=4,ground:=Ground.data },{ on:=3,ground:=Ground.chain }],guard:=none }) (oj:={ dst:=some 15,op:=Op.alloc 36,type:=0,pos := "exact.go:1931",after:=#[],guard:=none }) qi rfl rfl (fun K hK=>?_) (fun K hK=>?_)
        · skip
          go_simp;refine(Pt (n:=n) HL.o (HT.o.bl (bt HB.o bB)) (HP.o.bl (bt HB.o bB)) jy jb nh mz).mono ?_;rintro e wC ⟨ja,d,cv,tx,qv,nv,ev,zs,kv,lv,rfl,n9,ow,jp⟩;have jl:=hid jp;clear jp;have yn:=hid n9;clear n9;obtain⟨⟨b1,b2,rfl⟩,⟨b3,b4,rfl⟩,⟨b5,b6,rfl⟩,⟨b7,b8,rfl⟩,⟨b9,Pz,rfl⟩⟩:=ow.slices;replace ow:=BW.base ow (show P0.heap.size ≤ _ from bB.size);have bC:=bt bB ja;refine hK.out _ _ (fun _=>cq.o _ bC) (fun _=>?_);clear hK K
          try simp only[gX]
          clear jy jb nh mz;refine Lt.sp (i:=6) (fun K hK=>?_);go_simp;refine Cc (Q:=fun x=>K _ x) ?_;intro wP km tu
          try dsimp only
          have zP:=tu.out;clear tu;have bP:=bt bC km;have uq:=bC.size;replace ow:=ow.bl km;refine hK.out _ _ (fun _=>cq.o _ bP) (fun _=>?_);clear hK K
          try simp only[gX]
          obtain⟨P,eP⟩:=Ai wC.heap.size;rw[eP] at zP uq ⊢;obtain⟨L6,L5,L4,L2,L1,L0,Le,K9,K8,K7⟩:=Fc zP;have zcf:=fZ zP;obtain⟨l,el⟩:∃ l:List (Nat × Nat × Value),l=[(P,0,I d.c),(P,1,.string d.t),(P,2,.slice b1 d.ch.length b2),(P,3,I d.n),(P,4,.slice b3 d.T.length b4),(P,5,.slice b5 d.R.length b6),(P,6,.slice b7 d.ran.length b8),(P,7,.slice b9 d.held.length Pz),(P,8,.string d.A),(P,9,.string d.B)]:=⟨_,rfl⟩;have dr:∀ x∈l,x.1=P:=qab;have cm:=Ds l wP _ dr zP;have hS:=ow.setU dr zP;have fc:Bw P0 (Cf wP l):=Br l wP bP (fun x hx=>qag);obtain⟨V,eV⟩:=Ai (Cf wP l);rw[eV] at cm fc hS;rw[el] at cm eV;simp only[Cf,List.foldl] at eV;simp only[List.foldl,List.setIfInBounds_toArray,List.set_cons_zero,List.set_cons_succ] at cm;have HV:=hid cm;have mn:=hid fc;have ji:=hid hS;clear cm fc el dr hS;refine Lt.sp (i:=7) (fun K hK=>?_);go_simp
          try rw[eV]
          refine hK.out _ _ (fun h=>absurd rfl h) (fun _=>?_);clear hK K;refine Lt.done qi ?_ _;go_wp2_with fail;go_meet;exact⟨P,d,_,_,_,_,_,zs,kv,lv,rfl,HV.o,yn.o,ji.o,jl.o,mn.o⟩
        · skip
          go_simp;refine Cc (Q:=fun x=>K _ x) ?_;intro wP km tu
          try dsimp only
          have zP:=tu.out;clear tu;have bP:=bt bB km;have uq:=bB.size;replace jy:=jy.bl km;replace jb:=jb.bl km;replace nh:=nh.bl km;replace mz:=mz.bl km;refine hK.out _ _ (fun _=>cq.o _ bP) (fun _=>?_);clear hK K
          try simp only[gX]
          refine Lt.sp (i:=5) (fun K hK=>?_);go_simp;refine(Pt (n:=n) HL.o (HT.o.bl (bt HB.o bP)) (HP.o.bl (bt HB.o bP)) jy jb nh mz).mono ?_;rintro e wC ⟨ja,d,cv,tx,qv,nv,ev,zs,kv,lv,rfl,n9,ow,jp⟩;have jl:=hid jp;clear jp;have yn:=hid n9;clear n9;obtain⟨⟨b1,b2,rfl⟩,⟨b3,b4,rfl⟩,⟨b5,b6,rfl⟩,⟨b7,b8,rfl⟩,⟨b9,Pz,rfl⟩⟩:=ow.slices;replace ow:=BW.base ow (show P0.heap.size ≤ _ from bP.size);have bC:=bt bP ja;replace zP:=Ab ja zP;refine hK.out _ _ (fun _=>cq.o _ bC) (fun _=>?_);clear hK K
          try simp only[gX]
          clear jy jb nh mz;obtain⟨P,eP⟩:=Ai wB.heap.size;exact qel
      · skip
        go_simp;refine Cc (Q:=fun x=>K _ x) ?_;intro wP km tu
        try dsimp only
        have zP:=tu.out;clear tu;have bP:=bt bA km;have uq:=bA.size;replace jy:=jy.bl km;replace jb:=jb.bl km;refine hK.out _ _ (fun _=>cq.o _ bP) (fun _=>?_);clear hK K
        try simp only[gX]
        refine Lt.sp (i:=3) (fun K hK=>?_);go_simp;refine(xh.o _ (bt HB.o bP)).mono ?_;rintro e wB ⟨fg,u1,u2,rfl,nh,mz⟩;obtain⟨a3,p3,rfl,-⟩:=nh.sl;obtain⟨a4,p4,rfl,-⟩:=mz.sl;have bB:=bt bP fg;replace jy:=jy.bl fg;replace jb:=jb.bl fg;replace zP:=Ab fg zP;refine hK.out _ _ (fun _=>cq.o _ bB) (fun _=>?_);clear hK K
        try simp only[gX]
        refine Lt.sp (i:=5) (fun K hK=>?_);go_simp;refine(Pt (n:=n) HL.o (HT.o.bl (bt HB.o bB)) (HP.o.bl (bt HB.o bB)) jy jb nh mz).mono ?_;rintro e wC ⟨ja,d,cv,tx,qv,nv,ev,zs,kv,lv,rfl,n9,ow,jp⟩;have jl:=hid jp;clear jp;have yn:=hid n9;clear n9;obtain⟨⟨b1,b2,rfl⟩,⟨b3,b4,rfl⟩,⟨b5,b6,rfl⟩,⟨b7,b8,rfl⟩,⟨b9,Pz,rfl⟩⟩:=ow.slices;replace ow:=BW.base ow (show P0.heap.size ≤ _ from bB.size);have bC:=bt bB ja;replace zP:=Ab ja zP;refine hK.out _ _ (fun _=>cq.o _ bC) (fun _=>?_);clear hK K
        try simp only[gX]
        clear jy jb nh mz;obtain⟨P,eP⟩:=Ai wA.heap.size;exact qel
    · skip
      go_simp;refine Cc (Q:=fun x=>K _ x) ?_;intro wP km tu
      try dsimp only
      have zP:=tu.out;clear tu;have bP:=bt bD km;have uq:=bD.size;refine hK.out _ _ (fun _=>cq.o _ bP) (fun _=>?_);clear hK K
      try simp only[gX]
      refine Lt.sp (i:=1) (fun K hK=>?_);go_simp;refine(T0.o _ (bt HB.o bP)).mono ?_;rintro e wA ⟨bu,g1,v2,rfl,jy,jb⟩;obtain⟨a2,p2,rfl,-⟩:=jb.sl;have bA:=bt bP bu;replace zP:=Ab bu zP;refine hK.out _ _ (fun _=>cq.o _ bA) (fun _=>?_);clear hK K
      try simp only[gX]
      refine Lt.sp (i:=3) (fun K hK=>?_);go_simp;refine(xh.o _ (bt HB.o bA)).mono ?_;rintro e wB ⟨fg,u1,u2,rfl,nh,mz⟩;obtain⟨a3,p3,rfl,-⟩:=nh.sl;obtain⟨a4,p4,rfl,-⟩:=mz.sl;have bB:=bt bA fg;replace jy:=jy.bl fg;replace jb:=jb.bl fg;replace zP:=Ab fg zP;refine hK.out _ _ (fun _=>cq.o _ bB) (fun _=>?_);clear hK K
      try simp only[gX]
      refine Lt.sp (i:=5) (fun K hK=>?_);go_simp;refine(Pt (n:=n) HL.o (HT.o.bl (bt HB.o bB)) (HP.o.bl (bt HB.o bB)) jy jb nh mz).mono ?_;rintro e wC ⟨ja,d,cv,tx,qv,nv,ev,zs,kv,lv,rfl,n9,ow,jp⟩;have jl:=hid jp;clear jp;have yn:=hid n9;clear n9;obtain⟨⟨b1,b2,rfl⟩,⟨b3,b4,rfl⟩,⟨b5,b6,rfl⟩,⟨b7,b8,rfl⟩,⟨b9,Pz,rfl⟩⟩:=ow.slices;replace ow:=BW.base ow (show P0.heap.size ≤ _ from bB.size);have bC:=bt bB ja;replace zP:=Ab ja zP;refine hK.out _ _ (fun _=>cq.o _ bC) (fun _=>?_);clear hK K
      try simp only[gX]
      clear jy jb nh mz;obtain⟨P,eP⟩:=Ai wD.heap.size;exact qel
   case rest=>
    obtain⟨P15,d15,cv15,tx15,qv15,nv15,ev15,zs15,kv15,lv15,rfl,HX15⟩:=hcut;obtain⟨w18,rfl⟩:∃ wk,wk=wc:=⟨_,rfl⟩;have hdd:=yn.o.uniq HX15.o.2.1 HL.o.spv;subst hdd;obtain⟨⟨i1,i2,rfl⟩,⟨i3,i4,rfl⟩,⟨i5,i6,rfl⟩,⟨i7,i8,rfl⟩,⟨i9,i10,rfl⟩⟩:=HX15.o.2.2.1.slices;have S3:=HX15.o.2.2.2.2;replace gg:=hid (Ab S3 gg.o);replace ik:=hid (show w18.heap[P8]?=_∧BW w18 w2.heap.size _ _ _ _ _ _ U9 tw V0 from ⟨Ab S3 ik.o.1,ik.o.2.bl S3⟩);replace HMB:=hid (HMB.o.bl S3);replace HB:=hid (bt HB.o S3);clear S3;obtain⟨x0,x1,x2,x3,x4,x5,x6,x7,x8,x9⟩:=Hp HX15.o.1;obtain⟨y0,y1,y2,y3,y4,y5,y6,y7,y8,y9⟩:=Hp ik.o.1;go_wp2_with fail;clear x0 x1 x2 x3 x4 x5 x6 x7 x8 x9 y0 y1 y2 y3 y4 y5 y6 y7 y8 y9;obtain⟨_,_,_,_,_,_,_,_,_,_,V5⟩:=HX15.o.2.2.1.view;obtain⟨_,_,_,_,_,_,_,_,_,_,V4⟩:=ik.o.2.view;refine(Li V5 V4 tm.o).mono ?_;rintro e w19 ⟨hb19,rfl⟩;clear V5 V4;replace gg:=hid (Ab hb19 gg.o);replace HMB:=hid (HMB.o.bl hb19);replace HB:=hid (bt HB.o hb19);clear hb19;obtain⟨x0,x1,x2,x3,x4,x5,x6,x7,x8,x9⟩:=Hp gg.o;go_wp2_with fail;clear x0 x1 x2 x3 x4 x5 x6 x7 x8 x9;refine(Ob HMB.o tm.o).mono ?_;rintro e w20 ⟨hb20,rfl⟩;rw[ekf];replace HB:=hid (bt HB.o hb20);clear hb20;exact qdn
end Go.Proofs.YtfgoholldpeabaaGreatDoor
