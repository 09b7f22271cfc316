import Derived.Test.YtfgoholldpeabaaGreatDoorBsR
namespace Go.Proofs.YtfgoholldpeabaaGreatDoor
set_option maxHeartbeats 8000000
set_option maxRecDepth 100000
open _root_.Go.Proofs.Tryz Go.RowKit Go.Deep
set_option linter.unusedVariables false
set_option linter.unusedSimpArgs false
variable {w W w0 w' w3:World} {b:Gd} {s:Sb} {x:By} {ops:Array Oper} {a:Act} {Q:Exit->Act->World->Prop} {E:Prop} {B n R lo m g1 rn p2 r h k:Nat} {v:Hv} {xs:List Value} {ts T' st T:List By} {sv tv nw:Value} {ms:Mm} {ls:List G3}
def Cf (w:World) (l:List (Nat × Nat × Value)):World:=l.foldl (fun w x=>w.setCell ⟨x.1,x.2.1,none⟩ x.2.2) w
theorem Gm {b:Nat}:∀(l:List (Nat × Nat × Value)) (w:World),(∀ x∈l,b≠x.1)->(Cf w l).heap[b]?=w.heap[b]?
  | [],w,_=>rfl
  | x :: l,w,h=>by
    show (Cf (w.setCell ⟨x.1,x.2.1,none⟩ x.2.2) l).heap[b]?=_;rw[Gm l _ (fun y hy=>h y (List.mem_cons_of_mem _ hy)),hC w ⟨x.1,x.2.1,none⟩ _ b (h x (List.mem_cons_self ..))]
theorem Br {B:Nat} {w:World}:∀(l:List (Nat × Nat × Value)) (w':World),Below B w w'->(∀ x∈l,B<=x.1)->Below B w (Cf w' l)
  | [],w',h,_=>h
  | x :: l,w',h,k=>Br l _ (h.setCell (p:=⟨x.1,x.2.1,none⟩) (k x (List.mem_cons_self ..)) _) (fun y hy=>k y (List.mem_cons_of_mem _ hy))
theorem Ds {b T:Nat}:∀(l:List (Nat × Nat × Value)) (w:World) (cs:Array Value),(∀ x∈l,x.1=b)->w.heap[b]?=some (.cells cs T (0,0))->(Cf w l).heap[b]?=some (.cells (l.foldl (fun a x=>a.setIfInBounds x.2.1 x.2.2) cs) T (0,0))
  | [],w,cs,_,h=>h
  | x :: l,w,cs,hx,h=>by
    show (Cf (w.setCell ⟨x.1,x.2.1,none⟩ x.2.2) l).heap[b]?=_;obtain rfl:x.1=b:=hx x (List.mem_cons_self ..);exact Ds l _ _ (fun y hy=>hx y (List.mem_cons_of_mem _ hy)) (jB h x.2.2)
theorem Gq (w:World) (o:Obj):(w.alloc o).heap[w.heap.size]?=some o:=Be w o
theorem Rt {b:Nat} {o o':Obj} (h:w.heap[b]?=some o):(w.alloc o').heap[b]?=some o:=by
  rw[Lib.alloc_old _ _ _ (by rcases Nat.lt_or_ge b w.heap.size with k|k;exact k;rw[Array.getElem?_eq_none k] at h;cases h)];exact h
theorem Mi (h:Nat) (a0 a1 a2 a3 a4 a5 a6 a7 a8 z0 z1 z2 z3 z4 z5 z6 z7 z8 z9:Value) (c:Int) (t X Y:By) (ca:Option Addr) (cn cc:Nat) (w:World) (hk:w.heap[h]?=some (.cells #[a0,a1,a2,a3,a4,a5,a6,a7,a8,.bool false,z0,z1,z2,z3,z4,z5,z6,z7,z8,z9] 61 (0,0))) :
    Calls prog 69 #[.pointer (p_ h),.agg #[I c,.string t,.slice ca cn cc,I 0,nS,nS,nS,nS,.string X,.string Y]] w fun e w'=>e=.returned (.agg #[I c,ze,nS])/\Below h w w'/\(∀ b,b<w.heap.size->b≠h->w'.heap[b]?=w.heap[b]?)/\w'.heap[h]?=some (.cells #[a0,a1,a2,a3,a4,a5,a6,a7,a8,.bool true,I c,.string t,.slice ca cn cc,I 0,nS,nS,nS,nS,.string X,.string Y] 61 (0,0)):=by
  have aj:h<w.heap.size:=by rcases Nat.lt_or_ge h w.heap.size with k|k;exact k;rw[Array.getElem?_eq_none k] at hk;cases hk
  obtain⟨W,eW⟩:=Ai ((w.alloc (.cells #[I c,.string t,.slice ca cn cc,I 0,nS,nS,nS,nS,.string X,.string Y] 36)).alloc (.cells #[I 0,ze,nS] 105));have hW:Hd (Bw w W):=by show Below _ _ _;rw[← eW];exact(aN _ _).alloc qg _
  have HB:Hd (W.heap[w.heap.size]?=some (.cells #[I c,.string t,.slice ca cn cc,I 0,nS,nS,nS,nS,.string X,.string Y] 36 (0,0))):=qdz
  have HR:Hd (W.heap[w.heap.size+1]?=some (.cells #[I 0,ze,nS] 105 (0,0))):=by
    show _=_;rw[← eW];have:=Gq (w.alloc (.cells #[I c,.string t,.slice ca cn cc,I 0,nS,nS,nS,nS,.string X,.string Y] 36)) (.cells #[I 0,ze,nS] 105)
    rwa [show (w.alloc (.cells #[I c,.string t,.slice ca cn cc,I 0,nS,nS,nS,nS,.string X,.string Y] 36)).heap.size=w.heap.size+1 from qg] at this
  have HK:Hd (W.heap[h]?=some (.cells #[a0,a1,a2,a3,a4,a5,a6,a7,a8,.bool false,z0,z1,z2,z3,z4,z5,z6,z7,z8,z9] 61 (0,0))):=by show _=_;rw[hW.out.block h aj];exact hk
  have k9:=cK HK.o 9;have Y0:=cK HK.o 10;have P7:=cK HK.o 11;have P5:=cK HK.o 12;have k13:=cK HK.o 13;have k14:=cK HK.o 14;have k15:=cK HK.o 15;have k16:=cK HK.o 16;have k17:=cK HK.o 17;have k18:=cK HK.o 18;have k19:=cK HK.o 19;have kf:=fZ HK.o;obtain⟨b0,b1,b2,b3,b4,b5,b6,b7,b8,b9⟩:=Fc HB.o;obtain⟨r0,r1,r2⟩:=ck3 HR.o;have rf:=fZ HR.o;have hne:h≠w.heap.size:=qb;have hne2:h≠w.heap.size+1:=qb;clear hk;go_enter func69,ntmps69;go_wp2;have hL1:∀ x∈([(h,9,.bool true),(h,10,I c),(h,11,.string t),(h,12,.slice ca cn cc),(h,13,I 0),(h,14,nS),(h,15,nS),(h,16,nS),(h,17,nS),(h,18,.string X),(h,19,.string Y)]:List (Nat × Nat × Value)),x.1=h:=qg;have hL2:∀ x∈([(w.heap.size+1,0,I c),(w.heap.size+1,1,ze),(w.heap.size+1,2,nS)]:List (Nat × Nat × Value)),x.1=w.heap.size+1:=qg;have e1:=Ds _ W _ hL1 HK.o;have e2:=Gm (b:=h) [(w.heap.size+1,0,I c),(w.heap.size+1,1,ze),(w.heap.size+1,2,nS)] (Cf W [(h,9,.bool true),(h,10,I c),(h,11,.string t),(h,12,.slice ca cn cc),(h,13,I 0),(h,14,nS),(h,15,nS),(h,16,nS),(h,17,nS),(h,18,.string X),(h,19,.string Y)]) (fun x hx=>by rw[hL2 x hx];exact hne2);have h1:Below h w (Cf (Cf W [(h,9,.bool true),(h,10,I c),(h,11,.string t),(h,12,.slice ca cn cc),(h,13,I 0),(h,14,nS),(h,15,nS),(h,16,nS),(h,17,nS),(h,18,.string X),(h,19,.string Y)]) [(w.heap.size+1,0,I c),(w.heap.size+1,1,ze),(w.heap.size+1,2,nS)]):=Br [(w.heap.size+1,0,I c),(w.heap.size+1,1,ze),(w.heap.size+1,2,nS)] (Cf W [(h,9,.bool true),(h,10,I c),(h,11,.string t),(h,12,.slice ca cn cc),(h,13,I 0),(h,14,nS),(h,15,nS),(h,16,nS),(h,17,nS),(h,18,.string X),(h,19,.string Y)]) (Br [(h,9,.bool true),(h,10,I c),(h,11,.string t),(h,12,.slice ca cn cc),(h,13,I 0),(h,14,nS),(h,15,nS),(h,16,nS),(h,17,nS),(h,18,.string X),(h,19,.string Y)] W (hW.out.mono qb) (fun x hx=>by rw[hL1 x hx];exact Nat.le_refl _)) (fun x hx=>by rw[hL2 x hx];omega);have h2:∀ b,b<w.heap.size->b≠h->(Cf (Cf W [(h,9,.bool true),(h,10,I c),(h,11,.string t),(h,12,.slice ca cn cc),(h,13,I 0),(h,14,nS),(h,15,nS),(h,16,nS),(h,17,nS),(h,18,.string X),(h,19,.string Y)]) [(w.heap.size+1,0,I c),(w.heap.size+1,1,ze),(w.heap.size+1,2,nS)]).heap[b]?=w.heap[b]?:=fun b hb hbh=>((Gm (b:=b) [(w.heap.size+1,0,I c),(w.heap.size+1,1,ze),(w.heap.size+1,2,nS)] (Cf W [(h,9,.bool true),(h,10,I c),(h,11,.string t),(h,12,.slice ca cn cc),(h,13,I 0),(h,14,nS),(h,15,nS),(h,16,nS),(h,17,nS),(h,18,.string X),(h,19,.string Y)]) (fun x hx=>by rw[hL2 x hx];omega)).trans (Gm (b:=b) [(h,9,.bool true),(h,10,I c),(h,11,.string t),(h,12,.slice ca cn cc),(h,13,I 0),(h,14,nS),(h,15,nS),(h,16,nS),(h,17,nS),(h,18,.string X),(h,19,.string Y)] W (fun x hx=>by rw[hL1 x hx];exact hbh))).trans (hW.out.block b hb);rw[e1] at e2;simp only[List.foldl_cons,List.foldl_nil,List.setIfInBounds_toArray,List.set_cons_zero,List.set_cons_succ] at e2;obtain⟨V,eV⟩:=Ai (Cf (Cf W [(h,9,.bool true),(h,10,I c),(h,11,.string t),(h,12,.slice ca cn cc),(h,13,I 0),(h,14,nS),(h,15,nS),(h,16,nS),(h,17,nS),(h,18,.string X),(h,19,.string Y)]) [(w.heap.size+1,0,I c),(w.heap.size+1,1,ze),(w.heap.size+1,2,nS)]);rw[eV] at e2 h1 h2;simp only[Cf,List.foldl_cons,List.foldl_nil] at eV;rw[eV]
  have hV:V.cell? ⟨w.heap.size+1,0,none⟩=some (I c)/\V.cell? ⟨w.heap.size+1,1,none⟩=some ze/\V.cell? ⟨w.heap.size+1,2,none⟩=some nS:=by
    rw[← eV];simp[go_sem,r0,r1,r2]
  obtain⟨v0,v1,v2⟩:=hV;exact bR (v:=.agg #[I c,ze,nS]) (by simp[results,results69,go_sem,v0,v1,v2]) rfl ⟨rfl,h1,h2,e2⟩
theorem has_any (h:Nat) (sa ta:Option Addr) (c1 c2:Nat) (ss:List S2) (ts:List T2) (nm:By) (w:World) (k0:w.cell? ⟨h,0,none⟩=some (.slice sa ss.length c1)) (k1:w.cell? ⟨h,1,none⟩=some (.slice ta ts.length c2)) (rs:Jv w sa ss) (rt:Ju w ta ts) (hl:ss.length<=1048576) (Io:ts.length<=1048576) :
  Calls prog 91 #[.pointer (p_ h),.string nm] w fun e w'=>Bw w w'/\e=.returned (.bool (Cb ss ts nm)):=by
 have HS:=hid rs
 have HT:=hid rt
 clear rs rt
 go_enter func91,ntmps91
 go_wp2_with fail
 refine(Rd sa ta ts.length c1 c2 ss nm _ HS.o hl).mono ?_
 rintro e w1 ⟨af,hr⟩
 have j0:=Aa af k0
 have j1:=Aa af k1
 rcases hr with ⟨i,rfl,hi,e1⟩|⟨rfl,hn⟩
 ·have HO:Hd (Cb ss ts nm=true):=Qx (Or.inl (e1▸Gs hi));have d0:decide ((0:Int)<=(i:Int))=true:=qg;clear hi e1 k0 k1;go_wp2_with fail;go_ret;exact⟨af,by rw[HO.o];rfl⟩
 ·have HN:Hd (¬ Ec (Aq ss) nm):=hn;clear hn k0 k1;go_wp2_with fail;refine(Rc sa ta ss.length c1 c2 ts nm _ (HT.o.bl af) Io).mono ?_;rintro e w2 ⟨ag,hr⟩;have be:=bt af ag
  rcases hr with ⟨i,rfl,hi,e1⟩|⟨rfl,hn⟩
  ·have HO:Hd (Cb ss ts nm=true):=Qx (Or.inr (e1▸Hz hi));have d0:decide ((0:Int)<=(i:Int))=true:=qg;clear hi e1;go_wp2_with fail;go_ret;exact⟨be,by rw[HO.o];rfl⟩
  ·have HO:Hd (Cb ss ts nm=false):=Xt (fun h=>h.elim HN.o hn);clear hn;go_wp2_with fail;go_ret;exact⟨be,by rw[HO.o];rfl⟩
theorem Tryz.info131x:(prog.info? 131).map (fun i=>(i.zero,i.size,i.bytes))=some (some (.agg #[ze,I 0,ze,nS,I 0]),5,72):=qi
theorem step_appM {s x:Operand} {o:Oper} {K:Act->World->Prop} (se:o.guard=none)
    (ho:o.op=.call { callee:=.builtin .append,args:=#[s,x],argTypes:=#[59,59] }) (B:Nat) (v:Value) (nn:Nat) (xs:List Value)
    (hs:a.eval s=v) (ah:W.ownsRow B 131 5 v nn xs) (d:Nat) (u0 u1 u2 u3 u4:Value) (hx:a.eval x=.slice (p_ d) 1 1) (hc:W.heap[d]?=some (.cells #[u0,u1,u2,u3,u4] 131 (0,0))) (h1:∀ u∈[u0,u1,u2,u3,u4],u.oneCell'=true) (hB:B<=W.heap.size) (hn:nn<=1000000000000)
    (h:∀ g' ai w',w'.ownsRow B 131 5 (.slice (p_ g') (nn+1) ai) (nn+1) (xs++[u0,u1,u2,u3,u4])->W.grownBy w' v.ownBlock->(v.ownBlock=some g'\/g'=W.heap.size)->K (a.put o.dst (.slice (p_ g') (nn+1) ai)) w') :
    if Region.wanted o (yielded ops a.tmps)=true then Oper.wp prog o a W K Q else E:=by
  obtain⟨i0,hi,bp,bh,bv⟩:=info_parts Tryz.info131x
  refine step_append_lies (w:=W) se s x 59 ho B 131 i0 (.agg #[ze,I 0,ze,nS,I 0]) 5 72 underlying59 hi bp bh bv rfl qd _ nn xs hs ah ⟨d,0,none⟩ 1 1 [u0,u1,u2,u3,u4] hx rfl
    (World.news_of_block (cs:=#[u0,u1,u2,u3,u4]) (t:=131) (fr:=(0,0)) hc) h1 qb qm qb hB W.heap.size rfl ?_
  exact qfq
theorem Pn (B h n:Nat) (sv tv:Value) (ms:Mm) (s:Sb) (st:List By) (v:Hv) (nm:By) (d:Md) (r:Int) (w:World) (hs:Fo B h sv tv n w ms s st v) (hB:B<=w.heap.size) (hm:ms.length<=1000000000000) :
    Calls prog 68 #[.pointer (p_ h),.string nm,.agg #[I d.c,.string d.t,nS],I r] w fun e w'=>e=.returned (.agg #[I d.c,.string d.t,nS])/\∃ v',Cz B (Bu h v) (Bu h v') w w'/\Fo B h sv tv n w' (ms++[(nm,d)]) s st v':=by
  obtain⟨c,ec⟩:=Ai d.c;obtain⟨t,et⟩:=Ai d.t;rw[ec,et];have EC:=hid (And.intro ec et);clear ec et;obtain⟨W,eW⟩:=Ai ((w.alloc (.cells #[I c,.string t,nS] 105)).alloc (.cells #[I 0,ze,nS] 105));have HW:Hd (Bw w W):=by show Below _ _ _;rw[← eW];exact(aN _ _).alloc qg _
  have HQ:Hd (W.heap[w.heap.size]?=some (.cells #[I c,.string t,nS] 105 (0,0))):=qdz
  have HR:Hd (W.heap[w.heap.size+1]?=some (.cells #[I 0,ze,nS] 105 (0,0))):=by
    show _=_;rw[← eW];have:=Gq (w.alloc (.cells #[I c,.string t,nS] 105)) (.cells #[I 0,ze,nS] 105)
    rwa [show (w.alloc (.cells #[I c,.string t,nS] 105)).heap.size=w.heap.size+1 from qg] at this
  have HS:=hid (hs.bl HW.o);have aj:=Af hs.blk;obtain⟨Q,eQ⟩:=Ai w.heap.size;have HHB:=hid hs.hB;have HWS:Hd (Q+1<W.heap.size):=by show _<_;rw[← eQ];exact Af HR.o
  clear hs;rw[eQ] at HQ HR aj hB;go_enter func68,ntmps68;go_wp2_with fail
  try rw[eQ]
  clear eW;refine Lt.begin 13 (fun w'=>w'.cell? ⟨h,5,none⟩=some v.mv/\w'.heap[Q]?=some (.cells #[I c,.string t,nS] 105 (0,0))) qi ?_;obtain⟨wD,eD⟩:=Ai W.drew;rw[eD];have di:Bw W wD:=qaa;clear eD;replace HS:=hid (HS.o.bl di);replace HQ:=hid (Ae HQ.o di);replace HR:=hid (Ae HR.o di);replace HW:=hid (bt HW.o di);have iw:(fun w'=>w'.cell? ⟨h,5,none⟩=some v.mv/\w'.heap[Q]?=some (.cells #[I c,.string t,nS] 105 (0,0))) wD:=⟨(by rw[cH HS.o.blk];rfl),HQ.o⟩;change K 0 _
  iterate 9
   refine Lt.ti (v:=?_) iw ?_ ?_;rotate_left 1
   · exact qmf
   simp only[gX]
  refine Lt.sp (i:=9) (fun K hK=>?_);go_simp;refine Cc (Q:=fun x=>K _ x) ?_;intro wL f9 HL
  try dsimp only
  obtain⟨dL,edL⟩:=Ai wD.heap.size;rw[edL] at HL ⊢;replace HS:=hid (HS.o.bl f9);replace HQ:=hid (Ae HQ.o f9);replace HR:=hid (Ae HR.o f9);replace HW:=hid (bt HW.o f9);have vu:(fun w'=>w'.cell? ⟨h,5,none⟩=some v.mv/\w'.heap[Q]?=some (.cells #[I c,.string t,nS] 105 (0,0))) wL:=⟨(by rw[cH HS.o.blk];rfl),HQ.o⟩;have N6:B<=wL.heap.size:=zo HW.o.size;refine hK.out _ _ (fun _=>vu) (fun _=>?_);clear hK K 
  try simp only[gX]
  refine Lt.sp (i:=10) (fun K hK=>?_);obtain⟨xs,m1,m2⟩:=HS.o.made;refine step_appM rfl qt B v.mv ms.length xs qt m1 dL _ _ _ _ _ qt HL.o qct N6 hm ?_;intro g' ai w7 ah ae ct
  have rv:∀ b,(Value.slice (p_ g') (ms.length+1) ai).ownBlock=some b->v.mv.ownBlock=some b\/wL.heap.size<=b:=fun b q=>by
    obtain rfl:g'=b:=qaq
    rcases ct with q|q
    · exact Or.inl q
    · right;omega
  have hfil:FilM (ms++[(nm,d)]) (xs++[.string nm,I c,.string t,nS,I r]):=by have:=m2.snoc (zo m1.1) nm d r;rw[EC.o.1,EC.o.2] at this;exact this
  have HG:=hid (HS.o.growM (nw:=.slice (p_ g') (ms.length+1) ai) (ms':=ms++[(nm,d)]) N6 qg ah hfil ae rv);have hmh:v.mv.ownBlock≠some h:=Ad m1 qd HS.o.blk;have hmq:v.mv.ownBlock≠some Q:=Ad m1 qd HQ.o;have hmr:v.mv.ownBlock≠some (Q+1):=Ad m1 qd HR.o;have X6:=hid (Bq HS.o.blk ae hmh);have HQ7:=hid (Bq HQ.o ae hmq);have HR7:=hid (Bq HR.o ae hmr);have HFL:Hd (Cz B (Bu h v) (Bu h v) w wL):=Cz.of_below HW.o qb;have F4:(fun w'=>w'.cell? ⟨h,5,none⟩=some v.mv/\w'.heap[Q]?=some (.cells #[I c,.string t,nS] 105 (0,0))) w7:=⟨(by rw[cH X6.o];rfl),HQ7.o⟩;refine hK.out _ _ (fun _=>F4) (fun _=>?_);clear hK K ae ah;simp only[gX];refine Lt.sp (i:=11) (fun K hK=>?_);go_simp;refine hK.out _ _ (fun _=>F4) (fun _=>?_);clear hK K 
  try simp only[gX]
  refine Lt.ti (i:=12) (v:=?_) F4 ?_ ?_;rotate_left 1
  · exact qmf
  simp only[gX];have k5:=F4.1;have kf:=fZ X6.o;refine Lt.sp (i:=13) (fun K hK=>?_);go_simp;refine hK.out _ _ (fun h=>absurd rfl h) (fun _=>?_);clear hK K;refine Lt.done qi ?_ _;obtain⟨V,eV⟩:=Ai (w7.setCell ⟨h,5,none⟩ (.slice (p_ g') (ms.length+1) ai));rw[eV] at HG ⊢;have HQV:V.heap[Q]?=some (.cells #[I c,.string t,nS] 105 (0,0)):=by rw[← eV];exact Ez HQ7.o qb _
  have Of:V.heap[Q+1]?=some (.cells #[I 0,ze,nS] 105 (0,0)):=by rw[← eV];exact Ez HR7.o qb _
  obtain⟨q0,q1,q2⟩:=Bb HQV;obtain⟨r0,r1,r2,rf⟩:=Ea Of;have hRs:=Af Of;clear eV k5 kf F4;go_wp2_with fail;obtain⟨v0,v1,v2,_⟩:=Ea (Bi Of (I c) (.string t) nS);exact bR (v:=.agg #[I c,.string t,nS]) (by simp[results,results68,go_sem,v0,v1,v2]) rfl ⟨rfl,_,(HFL.o.trans HG.o.2).set3 qb qb _ _ _,HG.o.1.set3 ⟨_,Of⟩ qd _ _ _⟩
theorem Rb (n:Nat) (ta ra:Option Addr) (tc rn rc:Nat) (ts:List By) (t:By) (w:World) (h1:1<=n) (h8:n<=8) (hc:Cv w ta ts) (hl:ts.length<=1048576) (hs:∀ i,i<ts.length->(nx ts i).size<=2002) :
    Calls prog 113 #[.agg #[I n,.slice ta ts.length tc,.slice ra rn rc],.string t] w fun e w'=>Bw w w'/\∃ k:Nat,e=.returned (I k)/\k<=ts.length/\(∀ j,j<k->Ar (Ap n (nx ts j)) t=true)/\(k<ts.length->Ar (Ap n (nx ts k)) t=false):=by
  have ak:Bw w (w.alloc (.cells #[I n,.slice ta ts.length tc,.slice ra rn rc] 34)):=aN _ _;have x0:(w.alloc (.cells #[I n,.slice ta ts.length tc,.slice ra rn rc] 34)).cell? ⟨w.heap.size,0,none⟩=some (I n):=qk;have x1:(w.alloc (.cells #[I n,.slice ta ts.length tc,.slice ra rn rc] 34)).cell? ⟨w.heap.size,1,none⟩=some (.slice ta ts.length tc):=qk;have HC:Hd (Cv w ta ts):=hc;have HS:Hd (∀ i,i<ts.length->(nx ts i).size<=2002):=hs;clear hc hs;go_enter func113,ntmps113;go_wp2_with fail
  go_loopw [5] (fun v wr=>∃ k:Nat,k<=ts.length/\v=I k/\Hd (∀ j,j<k->Ar (Ap n (nx ts j)) t=true)/\wr.cell? ⟨w.heap.size,0,none⟩=some (I n)/\wr.cell? ⟨w.heap.size,1,none⟩=some (.slice ta ts.length tc)/\Bw w wr) (fun v _=>ts.length-(intOf v).toNat)
  case atStart=>exact⟨0,Nat.zero_le _,rfl,(fun j hj=>by omega:∀ j,j<0->Ar (Ap n (nx ts j)) t=true),x0,x1,ak⟩
  case round=>
    obtain⟨k,hk,rfl,HK,y0,y1,bc⟩:=hrel;clear x0 x1 ak;have bu:Bw wr wr.drew:=(Below.refl _ _).drew
    by_cases aj:k<ts.length
    · obtain⟨b,off,rfl,c1⟩:=(HC.o.bl bc) k aj
      replace c1:wr.cell? ⟨b,off+k,none⟩=some (.string (nx ts k)):=c1;have fx:=HS.o k aj;have je:(k:Int)<(ts.length:Int):=qb;have jm:(0:Int)<=(k:Int):=qb;have e1:decide ((k:Int)<(ts.length:Int))=true:=qh;obtain⟨v,hv⟩:∃ v,Ar (Ap n (nx ts k)) t=v:=⟨_,rfl⟩;have HV:Hd (Ar (Ap n (nx ts k)) t=v):=hv;have d6:Hd (Ar (Ap n (nx ts k)) t=true->∀ j,j<k+1->Ar (Ap n (nx ts j)) t=true):=fun h=>Cp HK.o h;generalize nx ts k=x at c1 fx hv;have hx0:x.size<=1048576:=qb;obtain⟨q,eq⟩:∃ q,Ap n x=q:=⟨_,rfl⟩;rw[eq] at hv;have po:Hd (∀ W:World,Calls prog 45 #[.string x,I n] W fun e w'=>e=.returned (.string q)/\Bw W w'):=fun W=>qgk;clear eq;unfold Ar at hv;cases v
      · have HO:Hd (k<ts.length->Ar (Ap n (nx ts k)) t=false):=fun _=>HV.o
        go_wp2_with fail
        go_region_held3 (fun w'=>(w'.cell? ⟨w.heap.size,0,none⟩=some (I n)/\w'.cell? ⟨w.heap.size,1,none⟩=some (.slice (some ⟨b,off,none⟩) ts.length tc))/\w'.cell? ⟨b,off+k,none⟩=some (.string x))
          (first|assumption|(simp[*];done)|exact⟨⟨Aa ag qo,Aa ag qo⟩,Aa ag qo⟩)
          (first|(go_at_call 45;refine(po.o _).mono ?_;rintro e w2 ⟨rfl,ag⟩))
        all_goals
          go_wp2_with fail;go_ret;exact⟨bt bc (bt bu ag),k,rfl,hk,HK.o,HO.o⟩
      · have HO:Hd (∀ j,j<k+1->Ar (Ap n (nx ts j)) t=true):=d6.o HV.o
        go_wp2_with fail
        go_region_held3 (fun w'=>(w'.cell? ⟨w.heap.size,0,none⟩=some (I n)/\w'.cell? ⟨w.heap.size,1,none⟩=some (.slice (some ⟨b,off,none⟩) ts.length tc))/\w'.cell? ⟨b,off+k,none⟩=some (.string x))
          (first|assumption|(simp[*];done)|exact⟨⟨Aa ag qo,Aa ag qo⟩,Aa ag qo⟩)
          (first|(go_at_call 45;refine(po.o _).mono ?_;rintro e w2 ⟨rfl,ag⟩))
        all_goals
          have z0:=Aa ag (Aa bu y0);have z1:=Aa ag (Aa bu y1);go_wp2_with fail;go_roundw
          case rel=>exact⟨k+1,qb,qj,HO.o,z0,z1,bt bc (bt bu ag)⟩
          case measure=>simp[intOf];omega
    · have e1:decide (k<ts.length)=false:=qh
      have HN:Hd (¬ k<ts.length):=aj;clear aj;go_wp2_with fail
      go_quiet (fail)
      go_wp2;go_ret;exact⟨below_drewN bc _,k,rfl,hk,HK.o,fun h=>absurd h HN.o⟩
theorem l4Get_any (n:Nat) (ta ra:Option Addr) (tc rn rc:Nat) (ts:List By) (t:By) (w:World) (h1:1<=n) (h8:n<=8) (hc:Cv w ta ts) (hl:ts.length<=1048576) (hs:∀ i,i<ts.length->(nx ts i).size<=2002) (ew:Gf (ts.map (Ap n))) :
    Calls prog 86 #[.agg #[I n,.slice ta ts.length tc,.slice ra rn rc],.string t] w fun e w'=>Bw w w'/\∃ A ok,e=.returned (.tuple #[.string A,.bool ok])/\Eu n ts t A ok:=by
  have ak:Bw w (w.alloc (.cells #[I n,.slice ta ts.length tc,.slice ra rn rc] 34)):=aN _ _;have x0:(w.alloc (.cells #[I n,.slice ta ts.length tc,.slice ra rn rc] 34)).cell? ⟨w.heap.size,0,none⟩=some (I n):=qk;have x1:(w.alloc (.cells #[I n,.slice ta ts.length tc,.slice ra rn rc] 34)).cell? ⟨w.heap.size,1,none⟩=some (.slice ta ts.length tc):=qk;have HC:Hd (Cv w ta ts):=hc;have HS:Hd (∀ i,i<ts.length->(nx ts i).size<=2002):=hs;have HA:Hd (Gf (ts.map (Ap n))):=ew;clear hc hs ew;go_enter func86,ntmps86;go_wp2_with fail;refine(Rb n ta ra tc rn rc ts t _ h1 h8 (HC.o.bl ak) hl HS.o).mono ?_;rintro e wr ⟨af,k,rfl,hk,p1,p2⟩;have bc:=bt ak af;have y0:=Aa af x0;have y1:=Aa af x1;have jz:Hd (∀ j,j<k->Ar (Ap n (nx ts j)) t=true):=p1;have re:Hd (k<ts.length->Ar (Ap n (nx ts k)) t=false):=p2;clear x0 x1 ak af p1 p2;have bu:Bw wr wr.drew:=(Below.refl _ _).drew
  by_cases aj:k<ts.length
  · obtain⟨b,off,rfl,c1⟩:=(HC.o.bl bc) k aj
    replace c1:wr.cell? ⟨b,off+k,none⟩=some (.string (nx ts k)):=c1;have fx:=HS.o k aj;have je:(k:Int)<(ts.length:Int):=qb;have jm:(0:Int)<=(k:Int):=qb;have e1:decide ((k:Int)<(ts.length:Int))=true:=qh;have ut:Hd (Ap n (nx ts k)=t->Eu n ts t (nx ts k) true):=fun h=>Or.inl ⟨rfl,k,aj,h,rfl⟩;have jo:Hd (¬ Ap n (nx ts k)=t->Eu n ts t ⟨#[]⟩ false):=fun h=>Or.inr ⟨rfl,rfl,fun hh=>h (Ws HA.o jz.o re.o hk hh).2⟩;generalize nx ts k=x at *;have hx0:x.size<=1048576:=qb;obtain⟨q,eq⟩:∃ q,Ap n x=q:=⟨_,rfl⟩;rw[eq] at ut jo;have po:Hd (∀ W:World,Calls prog 45 #[.string x,I n] W fun e w'=>e=.returned (.string q)/\Bw W w'):=fun W=>qgk;clear eq jz re
    by_cases hq:q=t
    · have dq:=Cw hq
      have HO:Hd (Eu n ts t x true):=ut.o hq;clear hq ut jo;go_wp2_with fail
      go_region_held3 (fun w'=>(w'.cell? ⟨w.heap.size,0,none⟩=some (I n)/\w'.cell? ⟨w.heap.size,1,none⟩=some (.slice (some ⟨b,off,none⟩) ts.length tc))/\w'.cell? ⟨b,off+k,none⟩=some (.string x))
        (first|assumption|(simp[*];done)|exact⟨⟨Aa ag qo,Aa ag qo⟩,Aa ag qo⟩)
        (first|(go_at_call 45;refine(po.o _).mono ?_;rintro e w2 ⟨rfl,ag⟩))
      all_goals
        have z1:=Aa ag (Aa bu y1);have d1:=Aa ag (Aa bu c1);go_wp2_with fail
        go_ret2
        exact⟨bt bc (bt bu ag),x,true,rfl,HO.o⟩
    · have dq:=Gl hq
      have HO:Hd (Eu n ts t ⟨#[]⟩ false):=jo.o hq;clear hq ut jo;go_wp2_with fail
      go_region_held3 (fun w'=>(w'.cell? ⟨w.heap.size,0,none⟩=some (I n)/\w'.cell? ⟨w.heap.size,1,none⟩=some (.slice (some ⟨b,off,none⟩) ts.length tc))/\w'.cell? ⟨b,off+k,none⟩=some (.string x))
        (first|assumption|(simp[*];done)|exact⟨⟨Aa ag qo,Aa ag qo⟩,Aa ag qo⟩)
        (first|(go_at_call 45;refine(po.o _).mono ?_;rintro e w2 ⟨rfl,ag⟩))
      all_goals
        go_wp2_with fail
        go_ret2
        exact⟨bt bc (bt bu ag),⟨#[]⟩,false,rfl,HO.o⟩
  · have e1:decide (k<ts.length)=false:=qh
    have HO:Hd (Eu n ts t ⟨#[]⟩ false):=Or.inr ⟨rfl,rfl,fun hh=>aj (Ws HA.o jz.o re.o hk hh).1⟩;clear aj;go_wp2_with fail
    go_quiet (fail)
    go_wp2
    go_ret2
    exact⟨below_drewN bc _,⟨#[]⟩,false,rfl,HO.o⟩
theorem Qap (s:By) (w:World) (hs:s.size<=1048576) (h:¬ Yl s) :
    Calls prog 87 #[.string s] w fun e w'=>e=.returned (Rs 0 ⟨#[]⟩ false)/\Bw w w':=by
  rcases Qau h with h|⟨h,k⟩
  · go_enter func87,ntmps87
    go_wp2;exact bR (v:=Rs 0 ⟨#[]⟩ false) qgd rfl ⟨rfl,aN _ _⟩
  · have ui:(s[1].toNat:Int)=58\/((s[1].toNat:Int) != 58)=true:=by by_cases e:(s[1].toNat:Int)=58;exact .inl e;exact .inr (by simpa using e)
    rcases ui with ui|ui
    all_goals
      go_enter func87,ntmps87;go_wp2
    all_goals first
      | exact bR (v:=Rs 0 ⟨#[]⟩ false) qgd rfl ⟨rfl,aN _ _⟩
      | (exfalso;omega)
theorem Yf (s:By) (w:World) (h:Yl s) (h0:0<s.size) :
    Calls prog 87 #[.string s] w fun e w'=>e=.returned (Rs ((s[0].toNat:Int)-48) (s.extract 2 s.size) true)/\Bw w w':=by
  obtain⟨h,h2,h3,h4,h5⟩:=h;go_enter func87,ntmps87;go_wp2;go_region;go_wp2;exact bR (v:=Rs ((s[0].toNat:Int)-48) (s.extract 2 s.size) true) qgd rfl ⟨rfl,(aN _ _).drew⟩
theorem Yg (A:By) (w:World) (hs:A.size<=2002):Calls prog 87 #[.string A] w fun e w'=>Bw w w'/\((Yl A/\e=.returned (.tuple #[.agg #[I (rdC A),.string (rdT A),nS],.bool true]))\/(¬ Yl A/\e=.returned (.tuple #[.agg #[I 0,ze,nS],.bool false]))):=by
  by_cases h:Yl A
  · refine(Yf A w h (Tq h)).mono ?_
    rintro e w' ⟨rfl,hb⟩;rw[rdC_eq (Tq h)];exact⟨hb,Or.inl ⟨h,rfl⟩⟩
  · refine(Qap A w qb h).mono ?_
    rintro e w' ⟨rfl,hb⟩;exact⟨hb,Or.inr ⟨h,rfl⟩⟩
theorem Iy (w:World) (B e sz:Nat) (hB:B ≤ w.heap.size):(w.alloc (.cells #[] e)).ownsRow B e sz (.slice (p_ w.heap.size) 0 0) 0 []:=World.ownsRow_lit (base:=B) (e:=e) (size:=sz) w #[] 0 hB qm qg
theorem En {o:Oper} {K:Act→World→Prop} {Q:Exit→Act→World→Prop} (se:o.guard=none) (s x:Operand) (t:TypeId)
    (ho:o.op=.call { callee:=.builtin .append,args:=#[s,x],argTypes:=#[t,t] })
    (base:Nat) (e:TypeId) (i:TypeInfo) (z:Value) (size bytes:Nat) (ht:prog.underlying t=some (.slice e)) (hi:prog.info? e=some i) (hz:i.zero=some z)
    (hsize:i.size=size) (hby:i.bytes=bytes) (hzs:z.cells.size=size) (de:0<size)
    (d dl dc:Nat) (xs:List Value) (hs:a.eval s=.slice (p_ d) dl dc) (ah:w.ownsRow base e size (.slice (p_ d) dl dc) dl xs)
    (ad:Addr) (m c:Nat) (news:List Value) (hx:a.eval x=.slice (some ad) m c) (hl:news.length=m*size) (lm:∀ j u,news[j]?=some u→w.cell? (ad.add j)=some u) (h1:∀ u∈news,u.oneCell'=true)
    (h63:dl+m ≤ maxLen) (hbytes:(dl+m)*bytes ≤ 140737488355328) (hbase:base ≤ w.heap.size)
    (h:∀ g cap w',w'.ownsRow base e size (.slice (p_ g) (dl+m) cap) (dl+m) (xs++news)→w.grownBy w' (some d)→K (a.put o.dst (.slice (p_ g) (dl+m) cap)) w') :
    if Region.wanted o (yielded ops a.tmps)=true then Oper.wp prog o a w K Q else E:=by
  exact qie
theorem Ww (ts:List By) (k:Nat):∀ u∈(ts.map Value.string).take k,u.oneCell'=true:=fun u hu=>Nb ts u (List.mem_of_mem_take hu)
theorem Wx (ts:List By) (k:Nat):∀ u∈(ts.map Value.string).drop k,u.oneCell'=true:=fun u hu=>Nb ts u (List.mem_of_mem_drop hu)
def KpS (lo:Nat) (w0:World) (e:Ending) (w':World) (m g1:Nat) (a2:Option Addr) (rn p2:Nat) (ts:List By) (x:By):Prop:=
  ∃ r cd T' A B,Uu m ts (Ap m x) r∧Im m ts x r cd T' A B∧((cd≠0∧e=.returned (.agg #[I cd,I 0,nS,nS,.string A,.string B]))∨(cd=0∧A=⟨#[]⟩∧B=⟨#[]⟩∧∃ g p,e=.returned (.agg #[I 0,I (m:Int),.slice (p_ g) T'.length p,.slice a2 rn p2,ze,ze])∧w'.ownsRow lo 9 1 (.slice (p_ g) T'.length p) T'.length (T'.map Value.string)∧(g=g1∨w0.heap.size ≤ g)))
theorem own_set6 {v:Value} (h:w.ownsRow B 9 1 v n xs) (ht:Dk w R 142) (u1 u2 u3 u4 u5 u6:Value):((((((w.setCell ⟨R,0,none⟩ u1).setCell ⟨R,1,none⟩ u2).setCell ⟨R,2,none⟩ u3).setCell ⟨R,3,none⟩ u4).setCell ⟨R,4,none⟩ u5).setCell ⟨R,5,none⟩ u6).ownsRow B 9 1 v n xs:=
  Al (Al (Al (Al (Al (Al h ht qd _) (ht.set _) qd _) ((ht.set _).set _) qd _) (((ht.set _).set _).set _) qd _) ((((ht.set _).set _).set _).set _) qd _) (((((ht.set _).set _).set _).set _).set _) qd _
theorem KpS.no {a2:Option Addr} {A B:By} {cd:Int} (h1:Uu m ts (Ap m x) r) (h2:Im m ts x r cd T' A B) (h3:cd≠0):KpS lo w0 (.returned (.agg #[I cd,I 0,nS,nS,.string A,.string B])) w' m g1 a2 rn p2 ts x:=⟨r,cd,T',A,B,h1,h2,Or.inl ⟨h3,rfl⟩⟩
theorem KpS.yes {g p:Nat} {a2:Option Addr} {l:Nat} (h1:Uu m ts (Ap m x) r) (h2:Im m ts x r 0 T' ⟨#[]⟩ ⟨#[]⟩) (hl:l=T'.length) (h3:w'.ownsRow lo 9 1 (.slice (p_ g) l p) l (T'.map Value.string)) (h4:g=g1∨w0.heap.size ≤ g) (ht:Dk w' R 142) (u1 u2 u3 u4 u5 u6:Value):KpS lo w0 (.returned (.agg #[I 0,I (m:Int),.slice (p_ g) l p,.slice a2 rn p2,ze,ze])) ((((((w'.setCell ⟨R,0,none⟩ u1).setCell ⟨R,1,none⟩ u2).setCell ⟨R,2,none⟩ u3).setCell ⟨R,3,none⟩ u4).setCell ⟨R,4,none⟩ u5).setCell ⟨R,5,none⟩ u6) m g1 a2 rn p2 ts x:=by
  subst hl;exact⟨r,0,T',_,_,h1,h2,Or.inr ⟨rfl,rfl,rfl,g,p,rfl,own_set6 h3 ht _ _ _ _ _ _,h4⟩⟩
theorem Wk {a:Option Addr} {c:Nat} (h:w.ownsRow B 9 1 (.slice a n c) ts.length (ts.map Value.string)):Cv w a ts:=by
  intro i hi
  obtain⟨b,e,k⟩:∃ b,a=p_ b∧w.cell? ⟨b,i,none⟩=some (.string (ts.getD i ByteArray.empty)):=by
    have hl:n=ts.length:=by
      rcases h.2 with ⟨e,h0⟩|⟨g,c,cur,e,_⟩
      · cases e;exact h0.symm
      · cases e;rfl
    subst hl;exact Cn h (by rw[List.getElem?_map,Iu hi,gG,Iu hi];rfl)
  exact⟨b,0,e,by rw[Nat.zero_add];exact k⟩
theorem l4Put_b (m lo g1 p1:Nat) (a2:Option Addr) (rn p2:Nat) (ts:List By) (x:By) (w:World) (hX:w.ownsRow lo 9 1 (.slice (p_ g1) ts.length p1) ts.length (ts.map Value.string)) (uf:lo ≤ w.heap.size) (vr:1 ≤ m) (hm8:m ≤ 8) (ft:Uo m ts) (hx:x.size ≤ 2002) :
    Calls prog 137 #[.agg #[I (m:Int),.slice (p_ g1) ts.length p1,.slice a2 rn p2],.string x] w fun e w'=>Bw w w'∧KpS lo w e w' m g1 a2 rn p2 ts x:=by
  obtain⟨i0,hi,bp,bh,bv⟩:=info_parts Tryz.info9b;obtain⟨W,eW⟩:=Ai ((w.alloc (.cells #[I (m:Int),.slice (p_ g1) ts.length p1,.slice a2 rn p2] 34)).alloc (.cells #[I 0,I 0,nS,nS,ze,ze] 142));have ak:Bw w W:=by rw[← eW];exact(aN _ _).alloc qg _
  have jm:W.heap[w.heap.size]?=some (.cells #[I (m:Int),.slice (p_ g1) ts.length p1,.slice a2 rn p2] 34 (0,0)):=qbv;have ce:W.heap[w.heap.size+1]?=some (.cells #[I 0,I 0,nS,nS,ze,ze] 142 (0,0)):=qbw;have up:w.heap.size+1+1 ≤ W.heap.size:=qcd;obtain⟨c0,c1,c2⟩:=Bb jm;have ri:=hid jm;have d6:=hid ce;have HX:=hid hX
  have S0:ts.length ≤ p1∧p1 ≤ maxLen:=by
    rcases hX.2 with ⟨h,_⟩|⟨g',c',cur,hv,_,_,h1,h2,_⟩
    · cases h
    · cases hv;exact⟨h1,h2⟩
  obtain⟨hcp1,hcp2⟩:=S0;unfold maxLen at hcp2
  have fj:Hd (∀ W':World,Bw w W'→Cv W' (p_ g1) ts):=fun W' hW=>by
    exact Wk (Ac hX hW)
  have hl5:=ft.1;have HSZ:=hid ft.2.1;have hx0:x.size ≤ 1048576:=qb;obtain⟨sm,esm⟩:=Ai (Ap m x);have ESM:=hid esm;have po:Hd (∀ W':World,Calls prog 45 #[.string x,I (m:Int)] W' fun e w'=>e=.returned (.string sm)∧Bw W' w'):=fun W'=>by rw[← esm];exact Fe x m W' hx0 vr hm8
  have HPLC:Hd (∀ W':World,Bw w W'→Calls prog 113 #[.agg #[I (m:Int),.slice (p_ g1) ts.length p1,.slice a2 rn p2],.string sm] W' fun e w'=>Bw W' w'∧∃ k:Nat,e=.returned (I k)∧Uu m ts sm k):=fun W' hW=>(Rb m _ a2 p1 _ p2 ts sm W' vr hm8 (fj.o W' hW) qb HSZ.o).mono fun e w' ⟨j1,k,j2,j3,j4,j5⟩=>⟨j1,k,j2,j3,j4,j5⟩;clear hX jm ce ft esm;go_enter func137,ntmps137;go_wp2_with fail;clear eW;refine(po.o _).mono ?_;rintro e w1 ⟨rfl,af⟩;have bg:=bt ak af;have d0:=Aa af c0;have d1:=Aa af c1;have d2:=Aa af c2;have iq:=hid (Ae d6.o af);have HA1:=hid (Ae ri.o af);have hW1:=af.size;clear c0 c1 c2 af ri d6 ak;go_wp2_with fail;refine(HPLC.o _ bg).mono ?_;rintro e w2 ⟨ag,k,rfl,dy⟩;have be:=bt bg ag;have ol:=hid (Ae iq.o ag);have HA2:=hid (Ae HA1.o ag);have hW2:=Nat.le_trans hW1 ag.size;have yo:=hid dy;have sy:=dy.le;clear d0 d1 d2 ag iq HA1 bg dy HPLC;obtain⟨c0,c1,c2⟩:=Bb HA2.o;have bu:Bw w2 w2.drew:=(Below.refl _ _).drew;go_wp2_with fail
  go_cut [31] (fun c wx=>∃ t:Bool,c=.bool t∧Hd (t=true↔Iv m ts x k)∧Bw w2 wx)
  case first=>
    by_cases aj:k<ts.length
    · have k1:w2.cell? ⟨g1,k,none⟩=some (.string (nx ts k)):=by
        obtain⟨b',bq,ea,c⟩:=(fj.o w2 be) k aj;cases ea;rw[Nat.zero_add] at c;exact c
      have fx:=HSZ.o k aj;have je:(k:Int)<(ts.length:Int):=qb;have jm:(0:Int) ≤ (k:Int):=qb;have e1:decide ((k:Int)<(ts.length:Int))=true:=qh;have ut:Hd (Ap m (nx ts k)=sm→Iv m ts x k):=fun h=>⟨aj,by rw[h,ESM.o]⟩;have jo:Hd (¬ Ap m (nx ts k)=sm→¬ Iv m ts x k):=fun h h'=>h (by rw[h'.2,ESM.o]);generalize nx ts k=z at *;have hz0':z.size ≤ 1048576:=qb;obtain⟨q,eq⟩:=Ai (Ap m z);rw[eq] at ut jo;(have HSZ2:Hd (∀ W:World,Calls prog 45 #[.string z,I (m:Int)] W fun e w'=>e=.returned (.string q)∧Bw W w'):=fun W=>by rw[← eq];exact Fe z m W hz0' vr hm8);clear eq
      by_cases hq:q=sm
      · have dq:=Cw hq
        have HO:=hid (ut.o hq);clear hq ut jo
        go_region_held3 (fun w'=>(w'.cell? ⟨w.heap.size,0,none⟩=some (I (m:Int))∧w'.cell? ⟨w.heap.size,1,none⟩=some (.slice (p_ g1) ts.length p1))∧w'.cell? ⟨g1,k,none⟩=some (.string z))
          (first|exact⟨⟨c0,c1⟩,k1⟩|(with_reducible exact⟨⟨s0,s1⟩,s2⟩)|assumption)
          (first|(go_at_call 45;refine(HSZ2.o _).mono ?_;rintro e w3 ⟨rfl,aw⟩;have gy:=bt bu aw;have s0:=Aa gy c0;have s1:=Aa gy c1;have s2:=Aa gy k1))
        all_goals
          go_wp2_with fail;go_meet;exact⟨true,rfl,Fy HO.o,gy⟩
      · have dq:=Gl hq
        have HO:=hid (jo.o hq);clear hq ut jo
        go_region_held3 (fun w'=>(w'.cell? ⟨w.heap.size,0,none⟩=some (I (m:Int))∧w'.cell? ⟨w.heap.size,1,none⟩=some (.slice (p_ g1) ts.length p1))∧w'.cell? ⟨g1,k,none⟩=some (.string z))
          (first|exact⟨⟨c0,c1⟩,k1⟩|(with_reducible exact⟨⟨s0,s1⟩,s2⟩)|assumption)
          (first|(go_at_call 45;refine(HSZ2.o _).mono ?_;rintro e w3 ⟨rfl,aw⟩;have gy:=bt bu aw;have s0:=Aa gy c0;have s1:=Aa gy c1;have s2:=Aa gy k1))
        all_goals
          go_wp2_with fail;go_meet;exact⟨false,rfl,Dy HO.o,gy⟩
    · have e1:decide (k<ts.length)=false:=qh
      have HO:Hd (¬ Iv m ts x k):=fun h=>aj h.1;clear aj
      go_quiet (fail)
      go_wp2_with fail;go_meet;exact⟨false,rfl,Dy HO.o,below_drewN (Below.refl _ _) _⟩
  case rest=>
    obtain⟨t,rfl,To,F1⟩:=hcut;have S7:=bt be F1;have og:=hid (Ae ol.o F1);have HAX:=hid (Ae HA2.o F1);have hWx:=Nat.le_trans hW2 F1.size;clear c0 c1 c2 bu ol HA2 F1;rw[← ESM.o] at yo;cases t
    · have HNTH:Hd (¬ Iv m ts x k):=fun h=>by have:=To.o.2 h;cases this
      by_cases h5:5000 ≤ ts.length
      · have HK:Hd (Im m ts x k 3 ts ⟨#[]⟩ ⟨#[]⟩):=Or.inr (Or.inr (Or.inl ⟨HNTH.o,h5,rfl,rfl,rfl,rfl⟩))
        have d5:decide ((5000:Int) ≤ (ts.length:Int))=true:=qh;obtain⟨r0,r1,r2,r3,r4,r5⟩:=Gw og.o;have rf:=(fun j=>fH og.o j);obtain⟨c0,c1,c2⟩:=Bb HAX.o;clear To;go_wp2;refine bR (v:=.agg #[I 3,I 0,nS,nS,ze,ze]) qdu rfl ⟨Ig S7 (Nat.le_succ _) _ _ _ _ _ _,KpS.no yo.o HK.o qd⟩
      · have HK:Hd (Im m ts x k 0 (Gj ts x k) ⟨#[]⟩ ⟨#[]⟩):=Or.inr (Or.inr (Or.inr ⟨HNTH.o,h5,rfl,rfl,rfl,rfl⟩))
        have d5:decide ((5000:Int) ≤ (ts.length:Int))=false:=qh;obtain⟨c0,c1,c2⟩:=Bb HAX.o;have uz:Hd ((wc.alloc (.cells #[] 9)).ownsRow wc.heap.size 9 1 (.slice (p_ wc.heap.size) 0 0) 0 []):=Iy wc wc.heap.size 9 1 (Nat.le_refl _)
        have T9:Hd (∀ j u,((ts.map Value.string).take k)[j]?=some u→(wc.alloc (.cells #[] 9)).cell? ((⟨g1,0,none⟩:Addr).add j)=some u):=fun j u hu=>by
          rw[List.getElem?_take] at hu
          split at hu
          · exact Ow (fj.o _ (S7.alloc S7.size _)) j u hu
          · cases hu
        have hk1c:(k:Int) ≤ (p1:Int):=qb;have c1l:(wc.alloc (.cells #[] 9)).cell? ⟨w.heap.size,1,none⟩=some (.slice (p_ g1) ts.length p1):=Dm c1;clear To HNTH po
        by_cases M9:p1=k
        · subst M9
          obtain rfl:p1=ts.length:=qb
          go_wp2_with (first|(at_builtin;refine wpList_append_own _ rfl (.tmp 53) (.tmp 57) 22 rfl wc.heap.size 9 i0 ze 1 16 underlying22 hi bp bh bv rfl qd _ 0 [] rfl uz.o ⟨g1,0,none⟩ ts.length ts.length ((ts.map Value.string).take ts.length) rfl (by rw[List.length_take,List.length_map];omega) T9.o (Ww ts ts.length) qm qb qg ?_;intro v' w3 ba ae dp;obtain⟨g3,p3,rfl⟩:=Ml ba (fun e=>by have:=(dp.1 e).1;cases this);rw[Nat.zero_add,List.nil_append] at ba;rw[Nat.zero_add];have J5:Hd (w3.ownsRow wc.heap.size 9 1 (.slice (p_ g3) ts.length p3) ts.length ((ts.map Value.string).take ts.length)):=ba;have gy:Bw wc w3:=(aN _ _).grown ae qg (fun j hj=>(uz.o.lt j hj).1);clear ae dp ba))
          have s1:=Aa gy c1;have oa:=gy.size;have HV4:Hd ((w3.drew.alloc (.cells #[.string x] 9)).heap[w3.heap.size]?=some (.cells #[.string x] 9 (0,0))):=Cm w3.drew _;have ij:Bw wc (w3.drew.alloc (.cells #[.string x] 9)):=gy.drew.alloc (by simpa using oa) _;have uw:Hd ((w3.drew.alloc (.cells #[.string x] 9)).ownsRow wc.heap.size 9 1 (.slice (p_ g3) ts.length p3) ts.length ((ts.map Value.string).take ts.length)):=(Aj (w':=w3.drew) J5.o (fun _ _=>rfl)).alloc _;have t1:=Aa ij c1;have HN4:Hd (∀ W':World,Bw wc W'→∀ j u,((ts.map Value.string).drop ts.length)[j]?=some u→W'.cell? ((⟨g1,0,none⟩:Addr).add j)=some u):=fun W' hW j u hu=>by rw[List.drop_of_length_le (by rw[List.length_map];omega)] at hu;simp at hu
          go_region_held3 (fun w'=>w'.cell? ⟨w.heap.size,1,none⟩=some (.slice (p_ g1) ts.length ts.length))
            (first|(with_reducible exact v1)|(with_reducible exact u1)|(with_reducible exact t1)|exact s1|exact t1)
            (first
            | (refine En (w:=w3.drew.alloc (.cells #[.string x] 9)) rfl (.tmp 59) (.tmp 61) 22 rfl wc.heap.size 9 i0 ze 1 16 underlying22 hi bp bh bv rfl qd g3 ts.length p3 _ qt uw.o ⟨w3.heap.size,0,none⟩ 1 1 [.string x] qt rfl (World.news_of_block (cs:=#[.string x]) (t:=9) (fr:=(0,0)) HV4.o) qeb qm qb ij.size ?_;intro g4 p4 w5 ho5 lx;have zk:Bw wc w5:=ij.grown lx ij.size (fun j hj=>by have hj2:g3=j:=qcf;rw[← hj2];exact(uw.o.lt g3 rfl).1);have v1:=Aa zk c1;have wo:wc.heap.size ≤ w5.heap.size:=zk.size;have On:Hd (w5.ownsRow wc.heap.size 9 1 (.slice (p_ g4) (ts.length+1) p4) (ts.length+1) ((ts.map Value.string).take ts.length++[.string x])):=ho5;have HN5:Hd (∀ j u,((ts.map Value.string).drop ts.length)[j]?=some u→w5.cell? ((⟨g1,0,none⟩:Addr).add j)=some u):=HN4.o w5 zk)
            | (refine En (w:=w5) rfl (.tmp 62) (.tmp 66) 22 rfl wc.heap.size 9 i0 ze 1 16 underlying22 hi bp bh bv rfl qd g4 (ts.length+1) p4 _ qt On.o ⟨g1,0,none⟩ 0 0 ((ts.map Value.string).drop ts.length) qt (by rw[List.length_drop,List.length_map];omega) (HN5.o) (Wx ts ts.length) qm qb wo ?_;intro g6 p6 w6 Y9 hgx6;have N7:Bw wc w6:=zk.grown hgx6 wo (fun j hj=>by have hj2:g4=j:=qcf;rw[← hj2];exact(On.o.lt g4 rfl).1);have u1:=Aa N7 c1;have HO6:Hd (w6.ownsRow wc.heap.size 9 1 (.slice (p_ g6) (ts.length+1) p6) (ts.length+1) ((Gj ts x ts.length).map Value.string)):=(by rw[show ts.length+1+0=ts.length+1 from qb] at Y9;rw[Pp];exact Y9);rw[show ts.length+1+0=ts.length+1 from qb])
            )
          all_goals
            have HR6:=hid (Ae og.o N7);have HA6:=Ae HAX.o N7;obtain⟨r0,r1,r2,r3,r4,r5⟩:=Gw HR6.o;have rf:=(fun j=>fH HR6.o j);obtain⟨c0,c1,c2⟩:=Bb HA6;have qf:=(fun j=>fH HA6 j);have T0:Hd (Dk w6 w.heap.size 34):=⟨_,HA6⟩;have HX6:Hd (w6.ownsRow lo 9 1 (.slice (p_ g6) (ts.length+1) p6) (ts.length+1) ((Gj ts x ts.length).map Value.string)):=Ah HO6.o (zo S7.size);exact qho
        · have hkp':=M9
          go_wp2_with (first|(at_builtin;refine wpList_append_own _ rfl (.tmp 53) (.tmp 57) 22 rfl wc.heap.size 9 i0 ze 1 16 underlying22 hi bp bh bv rfl qd _ 0 [] rfl uz.o ⟨g1,0,none⟩ k p1 ((ts.map Value.string).take k) rfl (by rw[List.length_take,List.length_map];omega) T9.o (Ww ts k) qm qb qg ?_;intro v' w3 ba ae dp;obtain⟨g3,p3,rfl⟩:=Ml ba (fun e=>by have:=(dp.1 e).1;cases this);rw[Nat.zero_add,List.nil_append] at ba;rw[Nat.zero_add];have J5:Hd (w3.ownsRow wc.heap.size 9 1 (.slice (p_ g3) k p3) k ((ts.map Value.string).take k)):=ba;have gy:Bw wc w3:=(aN _ _).grown ae qg (fun j hj=>(uz.o.lt j hj).1);clear ae dp ba))
          have s1:=Aa gy c1;have oa:=gy.size;have HV4:Hd ((w3.drew.alloc (.cells #[.string x] 9)).heap[w3.heap.size]?=some (.cells #[.string x] 9 (0,0))):=Cm w3.drew _;have ij:Bw wc (w3.drew.alloc (.cells #[.string x] 9)):=gy.drew.alloc (by simpa using oa) _;have uw:Hd ((w3.drew.alloc (.cells #[.string x] 9)).ownsRow wc.heap.size 9 1 (.slice (p_ g3) k p3) k ((ts.map Value.string).take k)):=(Aj (w':=w3.drew) J5.o (fun _ _=>rfl)).alloc _;have t1:=Aa ij c1
          have HN4:Hd (∀ W':World,Bw wc W'→∀ j u,((ts.map Value.string).drop k)[j]?=some u→W'.cell? ((⟨g1,k,none⟩:Addr).add j)=some u):=fun W' hW j u hu=>by
            rw[List.getElem?_drop] at hu;have h:=Ow (fj.o _ (bt S7 hW)) (k+j) u hu;rw[Addr.add_lit] at h ⊢;rw[Nat.zero_add] at h;exact h
          go_region_held3 (fun w'=>w'.cell? ⟨w.heap.size,1,none⟩=some (.slice (p_ g1) ts.length p1))
            (first|(with_reducible exact v1)|(with_reducible exact u1)|(with_reducible exact t1)|exact s1|exact t1)
            (first
            | (refine En (w:=w3.drew.alloc (.cells #[.string x] 9)) rfl (.tmp 59) (.tmp 61) 22 rfl wc.heap.size 9 i0 ze 1 16 underlying22 hi bp bh bv rfl qd g3 k p3 _ qt uw.o ⟨w3.heap.size,0,none⟩ 1 1 [.string x] qt rfl (World.news_of_block (cs:=#[.string x]) (t:=9) (fr:=(0,0)) HV4.o) qeb qm qb ij.size ?_;intro g4 p4 w5 ho5 lx;have zk:Bw wc w5:=ij.grown lx ij.size (fun j hj=>by have hj2:g3=j:=qcf;rw[← hj2];exact(uw.o.lt g3 rfl).1);have v1:=Aa zk c1;have wo:wc.heap.size ≤ w5.heap.size:=zk.size;have On:Hd (w5.ownsRow wc.heap.size 9 1 (.slice (p_ g4) (k+1) p4) (k+1) ((ts.map Value.string).take k++[.string x])):=ho5;have HN5:Hd (∀ j u,((ts.map Value.string).drop k)[j]?=some u→w5.cell? ((⟨g1,k,none⟩:Addr).add j)=some u):=HN4.o w5 zk)
            | (refine En (w:=w5) rfl (.tmp 62) (.tmp 66) 22 rfl wc.heap.size 9 i0 ze 1 16 underlying22 hi bp bh bv rfl qd g4 (k+1) p4 _ qt On.o ⟨g1,k,none⟩ (ts.length-k) (p1-k) ((ts.map Value.string).drop k) qt (by rw[List.length_drop,List.length_map];omega) (HN5.o) (Wx ts k) qm qb wo ?_;intro g6 p6 w6 Y9 hgx6;have N7:Bw wc w6:=zk.grown hgx6 wo (fun j hj=>by have hj2:g4=j:=qcf;rw[← hj2];exact(On.o.lt g4 rfl).1);have u1:=Aa N7 c1;have HO6:Hd (w6.ownsRow wc.heap.size 9 1 (.slice (p_ g6) (ts.length+1) p6) (ts.length+1) ((Gj ts x k).map Value.string)):=(by rw[show k+1+(ts.length-k)=ts.length+1 from qb] at Y9;rw[Pp];exact Y9);rw[show k+1+(ts.length-k)=ts.length+1 from qb])
            )
          all_goals
            have HR6:=hid (Ae og.o N7);have HA6:=Ae HAX.o N7;obtain⟨r0,r1,r2,r3,r4,r5⟩:=Gw HR6.o;have rf:=(fun j=>fH HR6.o j);obtain⟨c0,c1,c2⟩:=Bb HA6;have qf:=(fun j=>fH HA6 j);have T0:Hd (Dk w6 w.heap.size 34):=⟨_,HA6⟩;have HX6:Hd (w6.ownsRow lo 9 1 (.slice (p_ g6) (ts.length+1) p6) (ts.length+1) ((Gj ts x k).map Value.string)):=Ah HO6.o (zo S7.size);exact qho
    · have D7:=To.o.1 rfl
      obtain⟨h3,h4⟩:=D7;have HTH2:Hd (Iv m ts x k):=⟨h3,h4⟩;have je:(k:Int)<(ts.length:Int):=qb
      have k1:wc.cell? ⟨g1,k,none⟩=some (.string (nx ts k)):=by
        obtain⟨b',bq,ea,c⟩:=(fj.o wc S7) k h3;cases ea;rw[Nat.zero_add] at c;exact c
      obtain⟨r0,r1,r2,r3,r4,r5⟩:=Gw og.o;have rf:=(fun j=>fH og.o j);obtain⟨c0,c1,c2⟩:=Bb HAX.o
      by_cases hne:nx ts k=x
      · have HK:Hd (Im m ts x k 0 ts ⟨#[]⟩ ⟨#[]⟩):=Or.inr (Or.inl ⟨HTH2.o,hne,rfl,rfl,rfl,rfl⟩)
        have oy:=Cw hne;clear To HTH2 h4 hne;generalize nx ts k=z at k1 oy;go_wp2;refine bR (v:=.agg #[I 0,I (m:Int),.slice (p_ g1) ts.length p1,.slice a2 rn p2,ze,ze]) qdu rfl ⟨Ig S7 (Nat.le_succ _) _ _ _ _ _ _,KpS.yes (R:=w.heap.size+1) yo.o HK.o rfl (Ac HX.o S7) (Or.inl rfl) ⟨_,og.o⟩ _ _ _ _ _ _⟩
      · have HK:Hd (Im m ts x k 2 ts (nx ts k) x):=Or.inl ⟨HTH2.o,hne,rfl,rfl,rfl,rfl⟩
        have oy:=Gl hne;clear To HTH2 h4 hne;generalize nx ts k=z at k1 oy HK;go_wp2;refine bR (v:=.agg #[I 2,I 0,nS,nS,.string z,.string x]) qdu rfl ⟨Ig S7 (Nat.le_succ _) _ _ _ _ _ _,KpS.no yo.o HK.o qd⟩
def Xl (n:Nat) (T:List By) (x:By) (b:Gd):Prop:=∃ r,Uu n T (Ap n x) r/\((∃ A B,b=.clash A B/\Im n T x r 2 T A B)\/(b=.full/\Im n T x r 3 T ⟨#[]⟩ ⟨#[]⟩))
theorem Fo.fall {w2:World} (k:Fo B h sv tv n w ms s st v) (hb:Bw w w2) (fy:B<=w.heap.size) (h3:Below h w2 w3) (hk:∀ b,b<w2.heap.size->b≠h->w3.heap[b]?=w2.heap[b]?):Cz B (Bu h v) (Yr h v.nv) w w3:=by
  have hs:=hb.size;exact⟨(hb.mono fy).trans (h3.mono k.hB),fun b hl hx=>(hk b qb (fun e=>hx (Or.inl e))).trans (hb.block b hl),fun b q=>Or.inl (by rcases q with q|q;exact Or.inl q;exact Or.inr (Or.inr (Or.inr (Or.inr (Or.inl q)))))⟩
theorem Fo.dead (k:Fo B h sv tv n w ms s st v) (hk:∀ b,b<w.heap.size->b≠h->w3.heap[b]?=w.heap[b]?) (e:List Value) (au:w3.heap[h]?=some (.cells (([sv,tv,I n,v.tx,v.qv,v.mv,v.kv,v.nv,v.ev]++[Value.bool true]++e).toArray) 61 (0,0))) (he:Jb B w3 b e) (ha:∀ u b,e[2]?=some u->u.ownBlock=some b->v.nv.ownBlock≠some b) (hr:s.ran.length+st.length<=1000):Fm B h st.length v.nv w3 b:=
  ⟨_,e,rfl,au,he,rfl,⟨s.ran,Aj k.ran (fun b q=>hk b (k.ran.lt b q).2 (fun e=>Ad k.ran qd k.blk (by rw[← e];exact q))),hr⟩,ha⟩
theorem noOwn {cs:List Value} (hc:cs[2]?=some nS) (nv:Value):∀ u b,cs[2]?=some u->u.ownBlock=some b->nv.ownBlock≠some b:=fun u b h q=>by
  rw[hc] at h;cases h;cases q
theorem shopPut (B h n:Nat) (sv tv:Value) (ms:Mm) (s:Sb) (st:List By) (v:Hv) (x:By) (w:World) (hs:Fo B h sv tv n w ms s st v) (hB:B<=w.heap.size) (h1:1<=n) (h8:n<=8) (ft:Uo n s.T) (hx:x.size<=2002) (A5:s.ran.length+st.length<=1000) :
    Calls prog 115 #[.pointer (p_ h),.string x] w fun e w'=>(e=.returned (.bool true)/\∃ T' v',(∃ r,Uu n s.T (Ap n x) r/\Im n s.T x r 0 T' ⟨#[]⟩ ⟨#[]⟩)/\Cz B (Bu h v) (Bu h v') w w'/\Fo B h sv tv n w' ms ⟨T',s.R,s.ran,s.held⟩ st v')\/(e=.returned (.bool false)/\∃ b nv,Xl n s.T x b/\Cz B (Bu h v) (Yr h nv) w w'/\Fm B h st.length nv w' b):=by
  obtain⟨g1,p1,etx⟩:=hs.txa;obtain⟨a2,p2,eqv⟩:∃ a cap,v.qv=.slice a s.R.length cap:=by obtain⟨xs,cv,lv,r⟩:=hs.rcs;exact Aw r.row
  have HX:Hd (w.ownsRow B 9 1 (.slice (p_ g1) s.T.length p1) s.T.length (s.T.map Value.string)):=by have:=hs.txt;rw[etx] at this;exact this
  have k2:=cK hs.blk 2;have k3:w.cell? ⟨h,3,none⟩=some (.slice (p_ g1) s.T.length p1):=by rw[cH hs.blk,← etx];rfl
  have k4:w.cell? ⟨h,4,none⟩=some (.slice a2 s.R.length p2):=by rw[cH hs.blk,← eqv];rfl
  have HS:=hid hs;have HE:=hid (And.intro etx eqv);clear hs etx eqv;go_enter func115,ntmps115;go_wp2_with fail;refine(l4Put_b n B g1 p1 a2 _ p2 s.T x w HX.o hB h1 h8 ft hx).mono ?_;rintro e w1 ⟨af,r,cd,T',A,B',hp,hr,iu⟩;have yo:=hid hp;have ie:=hid (HS.o.bl af);have fw:=hid af;clear hp k2 k3 k4
  rcases iu with ⟨hne,rfl⟩|⟨rfl,rfl,rfl,g,p,rfl,ho,hg⟩
  · go_upto_region 2 with fail
    obtain⟨P,eP⟩:=Ai w1.heap.size;obtain⟨w2,e2⟩:=Ai (w1.alloc (.cells #[I cd,I 0,nS,nS,.string A,.string B'] 142));(have gi:Hd (Bw w1 w2):=by show Below _ _ _;rw[← e2];exact aN _ _);(have HK:w2.heap[P]?=some (.cells #[I cd,I 0,nS,nS,.string A,.string B'] 142 (0,0)):=by rw[← e2,← eP];exact Cm _ _);rw[e2,eP];clear e2;have cw:=hid (ie.o.bl gi.o);obtain⟨c0,c1,c2,c3,c4,c5⟩:=Gw HK;clear HK
    have hcd:(cd=2/\Im n s.T x r 2 s.T A B')\/(cd=3/\A=⟨#[]⟩/\B'=⟨#[]⟩/\Im n s.T x r 3 s.T ⟨#[]⟩ ⟨#[]⟩):=by
      rcases hr with ⟨a,b,rfl,rfl,rfl,rfl⟩|⟨a,b,rfl,rfl,rfl,rfl⟩|⟨a,b,rfl,rfl,rfl,rfl⟩|⟨a,b,rfl,rfl,rfl,rfl⟩
      · exact Or.inl ⟨rfl,Or.inl ⟨a,b,rfl,rfl,rfl,rfl⟩⟩
      · exact absurd rfl hne
      · exact Or.inr ⟨rfl,rfl,rfl,Or.inr (Or.inr (Or.inl ⟨a,b,rfl,rfl,rfl,rfl⟩))⟩
      · exact absurd rfl hne
    clear hr hne
    rcases hcd with ⟨rfl,hr⟩|⟨rfl,rfl,rfl,hr⟩
    · have HF:Hd (Xl n s.T x (.clash A B')):=⟨r,yo.o,Or.inl ⟨A,B',rfl,hr⟩⟩
      clear hr;go_wp2_with fail;clear eP c0 c1 c2 c3 c4 c5;refine(Mi h _ _ _ _ _ _ _ _ _ _ _ _ _ _ _ _ _ _ _ 10 ⟨#[]⟩ A B' none 0 0 w2 cw.o.blk).mono ?_;rintro e w3 ⟨rfl,aw,gh,au⟩;have fu:=hid (HS.o.fall (bt fw.o gi.o) hB aw gh);have HD:Hd (Fm B h st.length v.nv w3 (.clash A B')):=cw.o.dead gh [I 10,ze,nS,I 0,nS,nS,nS,nS,.string A,.string B'] au rfl (noOwn rfl _) A5;exact qmp
    · have HF:Hd (Xl n s.T x .full):=⟨r,yo.o,Or.inr ⟨rfl,hr⟩⟩
      clear hr;go_wp2_with fail;clear eP c0 c1 c2 c3 c4 c5;refine(Mi h _ _ _ _ _ _ _ _ _ _ _ _ _ _ _ _ _ _ _ 11 ⟨#[]⟩ ⟨#[]⟩ ⟨#[]⟩ none 0 0 w2 cw.o.blk).mono ?_;rintro e w3 ⟨rfl,aw,gh,au⟩;have fu:=hid (HS.o.fall (bt fw.o gi.o) hB aw gh);have HD:Hd (Fm B h st.length v.nv w3 .full):=cw.o.dead gh [I 11,ze,nS,I 0,nS,nS,nS,nS,ze,ze] au rfl (noOwn rfl _) A5;exact qmp
  · have HR:=hid hr
    go_upto_region 2 with fail
    obtain⟨P,eP⟩:=Ai w1.heap.size;obtain⟨w2,e2⟩:=Ai (w1.alloc (.cells #[I 0,I (n:Int),.slice (p_ g) T'.length p,.slice a2 s.R.length p2,ze,ze] 142));(have gi:Hd (Bw w1 w2):=by show Below _ _ _;rw[← e2];exact aN _ _);(have HK:w2.heap[P]?=some (.cells #[I 0,I (n:Int),.slice (p_ g) T'.length p,.slice a2 s.R.length p2,ze,ze] 142 (0,0)):=by rw[← e2,← eP];exact Cm _ _);rw[e2,eP];clear e2;have cw:=hid (ie.o.bl gi.o);have HB12:=hid (bt fw.o gi.o);have HG:=hid (HS.o.setTx hB HB12.o (Ac ho gi.o) (by rw[HE.o.1];rcases hg with q|q;exact Or.inl (by rw[q];rfl);exact Or.inr q));obtain⟨c0,c1,c2,c3,c4,c5⟩:=Gw HK;obtain⟨-,-,k2,k3,k4⟩:=ck5 cw.o.blk;have kf:=fZ cw.o.blk;have hPh:P≠h:=zo (Af ie.o.blk);clear hr ho hg HK;rw[HE.o.2] at HG;go_wp2_with fail;go_ret;exact Or.inl ⟨rfl,T',_,⟨r,yo.o,HR.o⟩,HG.o.2,HG.o.1⟩
theorem Di.app {xs T1:List By} {a:Option Gd} (h:Di n T xs T1 a):a=none->∀ {ys T2 a2},Di n T1 ys T2 a2->Di n T (xs++ys) T2 a2:=by
  induction h with
  | nil=>intro _ ys T2 a2 k;exact k
  | go h1 h2 _ ih=>intro e ys T2 a2 k;exact .go h1 h2 (ih e k)
  | clash=>intro e;cases e
  | full=>intro e;cases e
theorem Di.one (h:∃ r,Uu n T (Ap n x) r/\Im n T x r 0 T' ⟨#[]⟩ ⟨#[]⟩):Di n T [x] T' none:=by
  obtain⟨r,h1,h2⟩:=h;exact .go h1 h2 .nil
theorem Xl.put (h:Xl n T x b) (ys:List By):Di n T (x :: ys) T (some b):=by
  obtain⟨r,h1,⟨A,B,rfl,h2⟩|⟨rfl,h2⟩⟩:=h
  · exact .clash h1 h2
  · exact .full h1 h2
theorem Nk (ls:List G3) (g:G3):Ih (ls++[g])=Ih ls++(if g.ask=true then [g.sum] else []):=by
  unfold Ih;rw[List.filter_append,List.map_append]
  cases hg:g.ask<;>simp[hg]
theorem Oy (h:k<ls.length):ls.take (k+1)=ls.take k++[gx ls k]:=by
  unfold gx;rw[List.take_add_one,Iu h,gG,Iu h];rfl
theorem Xi (h:k<ls.length):∃ ys,Ih ls=Ih (ls.take k)++((if (gx ls k).ask=true then [(gx ls k).sum] else [])++ys):=by
  refine⟨Ih (ls.drop (k+1)),?_⟩;have:ls=ls.take (k+1)++ls.drop (k+1):=(List.take_append_drop _ _).symm
  conv=>lhs;rw[this]
  unfold Ih;rw[List.filter_append,List.map_append,Oy h,List.filter_append,List.map_append,List.append_assoc]
  cases hg:(gx ls k).ask<;>simp[hg]
theorem Tryz.info97x:(prog.info? 97).map (fun i=>(i.zero,i.size,i.bytes))=some (some (.agg #[nS,nS,ze]),3,64):=qi
theorem step_appQR {s x:Operand} {o:Oper} {K:Act->World->Prop} (se:o.guard=none)
    (ho:o.op=.call { callee:=.builtin .append,args:=#[s,x],argTypes:=#[32,32] }) (B:Nat) (v:Value) (nn:Nat) (xs:List Value)
    (hs:a.eval s=v) (ah:W.ownsRow B 97 3 v nn xs) (d:Nat) (u0 u1 u2:Value) (hx:a.eval x=.slice (p_ d) 1 1) (hc:W.heap[d]?=some (.cells #[u0,u1,u2] 97 (0,0))) (h1:∀ u∈[u0,u1,u2],u.oneCell'=true) (hB:B<=W.heap.size) (hn:nn<=10000)
    (h:∀ g' ai w',w'.ownsRow B 97 3 (.slice (p_ g') (nn+1) ai) (nn+1) (xs++[u0,u1,u2])->W.grownBy w' v.ownBlock->(v.ownBlock=some g'\/g'=W.heap.size)->K (a.put o.dst (.slice (p_ g') (nn+1) ai)) w') :
    if Region.wanted o (yielded ops a.tmps)=true then Oper.wp prog o a W K Q else E:=by
  obtain⟨i0,hi,bp,bh,bv⟩:=info_parts Tryz.info97x
  refine step_append_lies (w:=W) se s x 32 ho B 97 i0 (.agg #[nS,nS,ze]) 3 64 underlying32 hi bp bh bv rfl qd _ nn xs hs ah ⟨d,0,none⟩ 1 1 [u0,u1,u2] hx rfl
    (World.news_of_block (cs:=#[u0,u1,u2]) (t:=97) (fr:=(0,0)) hc) h1 qb qm qb hB W.heap.size rfl ?_
  exact qfq
theorem qx_lt {R:List T3} {r:T3} {i:Nat} (h:i<R.length):qx (R++[r]) i=qx R i:=by
  exact qmh
theorem qx_at (R:List T3) (r:T3):qx (R++[r]) R.length=r:=by
  unfold qx;rw[gG,List.getElem?_append_right (Nat.le_refl _)];simp
theorem Gy.add {v c d:Value} {R:List T3} {rec:T3} {cv lv:Nat->Value} {cs:Array Value} (r:Gy w B v R xs cv lv) (hg:w.grownBy w' v.ownBlock) (ho:w'.ownsRow B 97 3 nw (R.length+1) (xs++[c,d,.string rec.out]))
    {zs us:List Value} (h1:w.ownsRow B 128 3 c rec.code.length zs) (h2:Cl rec.code rec.code.length zs) (h3:w.ownsRow B 125 3 d rec.looks.length us) (h4:Bo rec.looks rec.looks.length us) (hc:∀ i,i<R.length->∀ b,(cv i).ownBlock=some b->c.ownBlock≠some b) (hd:∀ i,i<R.length->∀ b,(lv i).ownBlock=some b->d.ownBlock≠some b) (hb:w'.heap[h]?=some (.cells cs 61 (0,0))) (x:Value) :
    Es (w'.setCell ⟨h,4,none⟩ x) B nw (R++[rec]):=by
  have ht:Dk w' h 61:=⟨_,hb⟩;exact qgy
theorem Fo.growQ (k:Fo B h sv tv n w ms s st v) (fy:B<=w.heap.size) {R':List T3} (hq:w.ownsRow B 97 3 v.qv s.R.length xs) (hg:w.grownBy w' v.qv.ownBlock) (ct:∀ b,nw.ownBlock=some b->v.qv.ownBlock=some b\/w.heap.size<=b) (hr:Es (w'.setCell ⟨h,4,none⟩ nw) B nw R') :
    Fo B h sv tv n (w'.setCell ⟨h,4,none⟩ nw) ms ⟨s.T,R',s.ran,s.held⟩ st ⟨v.tx,nw,v.mv,v.kv,v.nv,v.ev⟩/\Cz B (Bu h v) (Bu h ⟨v.tx,nw,v.mv,v.kv,v.nv,v.ev⟩) w (w'.setCell ⟨h,4,none⟩ nw):=by
  obtain⟨ys,m1,m2⟩:=k.made;have hh:v.qv.ownBlock≠some h:=Ad hq qd k.blk;have hb:=Bq k.blk hg hh;have ip:=Ei hb 4 nw;simp only[List.setIfInBounds_toArray,List.set_cons_zero,List.set_cons_succ] at ip;refine⟨⟨k.hB,ip,Dc k.txt hg (apart k.txt hq qd) hb qd,hr,⟨ys,Dc m1 hg (apart m1 hq qd) hb qd,m2⟩,Dc k.stk hg (apart k.stk hq qd) hb qd,Dc k.ran hg (apart k.ran hq qd) hb qd,Dc k.held hg (apart k.held hq qd) hb qd,k.txa,k.tk,k.kn,k.ne⟩,?_⟩;refine⟨((Below.refl B w).grown hg fy (fun j q=>(hq.lt j q).1)).setCell (p:=⟨h,4,none⟩) k.hB _,fun b bi hx=>?_,fun b hx=>?_⟩
  · rw[hC w' ⟨h,4,none⟩ _ b (fun e=>hx (Or.inl e)),hg.block b bi (fun q=>hx (Or.inr (Or.inl q.symm)))]
  · rcases hx with q|q|q
    · exact Or.inl (Or.inl q)
    · rcases ct b q with q|q;exact Or.inl (Or.inr (Or.inl q));exact Or.inr q
    · exact Or.inl (Or.inr (Or.inr q))
end Go.Proofs.YtfgoholldpeabaaGreatDoor
