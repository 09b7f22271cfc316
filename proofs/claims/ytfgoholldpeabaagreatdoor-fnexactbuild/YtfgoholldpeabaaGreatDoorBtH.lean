import Derived.Test.YtfgoholldpeabaaGreatDoorBtC
namespace Go.Proofs.YtfgoholldpeabaaGreatDoor
set_option maxHeartbeats 8000000
set_option maxRecDepth 100000
open _root_.Go.Proofs.Tryz Go.RowKit Go.Deep
set_option linter.unusedVariables false
set_option linter.unusedSimpArgs false
variable {w w' W:World} {ops:Array Oper} {a:Act} {Q:Exit→Act→World→Prop} {E:Prop} {v v1 v2 qv sv tv u:Value} {B e sz n cap b j P k lo hi B' h:Nat} {xs:List Value} {R rs:List T3} {wd:Int} {ts T:List By} {cs:Array Value} {l:List (Nat × Nat × Value)} {ss:List S2} {nm:By}
theorem Ik {X x:World} {ob:Option Nat} {p:Addr} (hg:X.grownBy x ob) (h:X.cell? p=some v) (hne:ob≠some p.block):x.cell? p=some v:=by rw[hg.cell_far p (World.block_lt_of_cell? _ _ h) (fun e=>hne e.symm)];exact h

theorem Kr {g:Nat} (h:w.ownsRow B e sz (.slice (p_ g) n cap) n xs) (hb:b≠g) (v:Value):(w.setCell ⟨b,j,none⟩ v).ownsRow B e sz (.slice (p_ g) n cap) n xs:=Aj h fun c q=>by
  cases q;exact hC w ⟨b,j,none⟩ v _ (Ne.symm hb)
theorem Mo (a:Option Addr) (cap:Nat) (is:List I3) (w:World) (hc:Cj w a is) (h1:1 ≤ is.length∨∃ b off,a=some ⟨b,off,none⟩) (hl:is.length ≤ 1048576) :
    Calls prog 66 #[.agg #[.slice a is.length cap]] w fun e w'=>Bw w w'∧∃ g cp,e=.returned (.agg #[.slice (p_ g) is.length cp])∧w'.ownsRow w.heap.size 128 3 (.slice (p_ g) is.length cp) is.length (El is):=by
  obtain⟨i0,hi,bp,bh,bv⟩:=info_parts Tryz.info165b
  obtain⟨b,off,rfl⟩:∃ b off,a=some ⟨b,off,none⟩:=by
    rcases h1 with h|h
    · obtain⟨b,off,e,_⟩:=hc 0 qb;exact⟨b,off,e⟩
    · exact h
  have ak:Bw w ((w.alloc (.cells #[.slice (some ⟨b,off,none⟩) is.length cap] 94)).alloc (.cells #[nS] 94)):=(aN _ _).alloc qg _;have af:Bw w (((w.alloc (.cells #[.slice (some ⟨b,off,none⟩) is.length cap] 94)).alloc (.cells #[nS] 94)).alloc (.cells #[] 128)):=ak.alloc qh _
  have dm:(((w.alloc (.cells #[.slice (some ⟨b,off,none⟩) is.length cap] 94)).alloc (.cells #[nS] 94)).alloc (.cells #[] 128)).ownsRow (w.heap.size+1+1) 128 3 (.slice (p_ (w.heap.size+1+1)) 0 0) 0 []:=by
    exact qhw
  have hn:=Nh (hc.bl af);have HL:=hid (Ic is);have HO:=hid (Pq is);generalize El is=xs at *;clear hc ak;go_enter func66,ntmps66
  go_wp2_with (at_builtin;refine wpList_append_own _ rfl (.tmp 3) (.tmp 5) 92 rfl (w.heap.size+1+1) 128 i0 (.agg #[I 0,ze,I 0]) 3 32 underlying92 hi bp bh bv rfl qd _ 0 [] rfl dm ⟨b,off,none⟩ is.length cap xs rfl HL.o hn HO.o qm qb qg ?_;intro v' w2 ba ae dp;have fg:Below (w.heap.size+1+1) (((w.alloc (.cells #[.slice (some ⟨b,off,none⟩) is.length cap] 94)).alloc (.cells #[nS] 94)).alloc (.cells #[] 128)) w2:=(Below.refl _ _).grown ae qg (fun k hk=>(dm.lt k hk).1);have c1:w2.cell? ⟨w.heap.size+1,0,none⟩=some nS:=(by rw[fg.cell (p:=⟨w.heap.size+1,0,none⟩) qg];simp[go_sem]);have f1:w2.frozen? ⟨w.heap.size+1,0,none⟩=false:=(by rw[fg.frozen (p:=⟨w.heap.size+1,0,none⟩) qg];simp[go_sem]);have hB:Bw w w2:=af.trans (fg.mono qb);rw[Nat.zero_add,List.nil_append] at ba;obtain⟨g,cp,rfl⟩:=Ml ba (fun e=>by have:=(dp.1 e).1;cases this);have hg:=(ba.lt g rfl).1;have J4:Hd (w2.ownsRow w.heap.size 128 3 (.slice (p_ g) is.length cp) is.length xs):=Ah ba qb;clear ae dm hn fg ba af)
  exact qiu
theorem Zd (a:Option Addr) (cap lb lf lc:Nat) (is:List I3) (gs:List G3) (out:By) (w:World) (rc:Cj w a is) (rg:Hr w (some ⟨lb,lf,none⟩) gs) (h1:1 ≤ is.length∨∃ b off,a=some ⟨b,off,none⟩) (hl:is.length ≤ 1048576) (hg:gs.length ≤ 1048576) :
    Calls prog 49 #[.agg #[.slice a is.length cap,.slice (some ⟨lb,lf,none⟩) gs.length lc,.string out]] w fun e w'=>Bw w w'∧Qv w.heap.size w' e is gs out:=by
  obtain⟨i0,hi,bp,bh,bv⟩:=info_parts Tryz.info88b;obtain⟨W,eW⟩:=Ai ((w.alloc (.cells #[.slice a is.length cap,.slice (some ⟨lb,lf,none⟩) gs.length lc,.string out] 97)).alloc (.cells #[nS,nS,ze] 97));have ak:Bw w W:=by rw[← eW];exact(aN _ _).alloc qg _
  have jm:W.heap[w.heap.size]?=some (.cells #[.slice a is.length cap,.slice (some ⟨lb,lf,none⟩) gs.length lc,.string out] 97 (0,0)):=qbv;have ce:W.heap[w.heap.size+1]?=some (.cells #[nS,nS,ze] 97 (0,0)):=qbw;have up:w.heap.size+1+1 ≤ W.heap.size:=qcd;obtain⟨c0,c1,c2⟩:=Bb jm;have d6:=hid ce;have HA:Hd (∀ W':World,Bw W W'→Calls prog 66 #[.agg #[.slice a is.length cap]] W' fun e w'=>Bw W' w'∧∃ g cp,e=.returned (.agg #[.slice (p_ g) is.length cp])∧w'.ownsRow W'.heap.size 128 3 (.slice (p_ g) is.length cp) is.length (El is)):=fun W' hW=>Mo a cap is W' (rc.bl (bt ak hW)) h1 hl;have HN:Hd (∀ W':World,Bw W W'→∀ j u,(Kh gs)[j]?=some u→W'.cell? ((⟨lb,lf,none⟩:Addr).add j)=some u):=fun W' hW=>Xd (rg.bl (bt ak hW));have HL:=hid (Mq gs);have HO:=hid (Qbr gs);have ii:Bw W W.drew:=(Below.refl _ _).drew;have uk:Bw W (W.drew.alloc (.cells #[] 125)):=ii.alloc qg _;have Z8:(W.drew.alloc (.cells #[] 125)).ownsRow W.heap.size 125 3 (.slice (p_ W.heap.size) 0 0) 0 []:=Iy W.drew W.heap.size 125 3 qg;have uz:=hid Z8;obtain⟨e0,e1,e2⟩:(W.drew.alloc (.cells #[] 125)).cell? ⟨w.heap.size,0,none⟩=some (.slice a is.length cap)∧(W.drew.alloc (.cells #[] 125)).cell? ⟨w.heap.size,1,none⟩=some (.slice (some ⟨lb,lf,none⟩) gs.length lc)∧(W.drew.alloc (.cells #[] 125)).cell? ⟨w.heap.size,2,none⟩=some (.string out):=⟨Aa uk c0,Aa uk c1,Aa uk c2⟩;clear rc rg jm ce Z8;go_enter func49,ntmps49;go_wp2_with fail;clear eW
  go_region_held3 (fun w'=>w'.cell? ⟨w.heap.size,0,none⟩=some (.slice a is.length cap)∧w'.cell? ⟨w.heap.size,1,none⟩=some (.slice (some ⟨lb,lf,none⟩) gs.length lc)∧w'.cell? ⟨w.heap.size,2,none⟩=some (.string out))
    (first|(with_reducible exact⟨t0,t1,t2⟩)|(with_reducible exact⟨s0,s1,s2⟩)|(with_reducible exact⟨Dm s0,Dm s1,Dm s2⟩)|(refine⟨?_,?_,?_⟩<;>(rw[World.cell?_setCell_far _ _ _ _ qg,World.cell?_setCell_far _ _ _ _ qg,World.cell?_setCell_far _ _ _ _ qg];assumption))|(with_reducible exact⟨e0,e1,e2⟩)|exact⟨c0,c1,c2⟩|exact⟨e0,e1,e2⟩)
    (first
      | (refine En (w:=w2.alloc (.cells #[] 125)) rfl (.tmp 6) (.tmp 8) 95 rfl W.heap.size 125 i0 (.agg #[ze,.bool false,ze]) 3 40 underlying95 hi bp bh bv rfl qd w2.heap.size 0 0 [] qt (Iy w2 W.heap.size 125 3 be.size) ⟨lb,lf,none⟩ gs.length lc (Kh gs) qt HL.o (HN.o _ (be.alloc be.size _)) HO.o qm qb (by have:=be.size;simp;omega) ?_;intro g2 p2 x nj lx;have hne:∀ q:Nat,q<W.heap.size→some w2.heap.size≠some q:=(fun q hq e=>by have:=be.size;simp at e;omega);have t0:=Ik lx (Dm s0) (hne _ qh);have t1:=Ik lx (Dm s1) (hne _ qh);have t2:=Ik lx (Dm s2) (hne _ qh);have gy:Bw W x:=(be.alloc be.size _).grown lx (by have:=be.size;simp;omega) (fun k hk=>by have:=be.size;simp at hk;omega);have M1:=Ae d6.o gy;obtain⟨r0,r1,r2⟩:=Bb M1;have rf:=(fun j=>fH M1 j);have yq:Hd (x.ownsRow W.heap.size 128 3 (.slice (p_ g1) is.length p1) is.length (El is)):=Aj (kd.o.alloc _) (fun b eb=>lx.block b ((kd.o.alloc _).lt b eb).2 (fun e'=>by have:=(kd.o.lt b eb).2;simp at e';omega));have wb:Hd (x.ownsRow W.heap.size 125 3 (.slice (p_ g2) gs.length p2) gs.length (Kh gs)):=qcm;rw[Nat.zero_add])
      | (refine En (w:=w2) rfl (.tmp 6) (.tmp 8) 95 rfl W.heap.size 125 i0 (.agg #[ze,.bool false,ze]) 3 40 underlying95 hi bp bh bv rfl qd W.heap.size 0 0 [] qt HLI2.o ⟨lb,lf,none⟩ gs.length lc (Kh gs) qt HL.o (HN.o _ be) HO.o qm qb be.size ?_;intro g2 p2 x nj lx;have hne:∀ q:Nat,q<W.heap.size→some W.heap.size≠some q:=(fun q hq e=>by simp at e;omega);have t0:=Ik lx s0 (hne _ qh);have t1:=Ik lx s1 (hne _ qh);have t2:=Ik lx s2 (hne _ qh);have gy:Bw W x:=be.grown lx be.size (fun k hk=>qcw);have M1:=Ae d6.o gy;obtain⟨r0,r1,r2⟩:=Bb M1;have rf:=(fun j=>fH M1 j);have yq:Hd (x.ownsRow W.heap.size 128 3 (.slice (p_ g1) is.length p1) is.length (El is)):=Aj kd.o (fun b eb=>lx.block b (kd.o.lt b eb).2 (fun e'=>Qk HLI2.o kd.o qd W.heap.size rfl (by rw[eb,e'])));have wb:Hd (x.ownsRow W.heap.size 125 3 (.slice (p_ g2) gs.length p2) gs.length (Kh gs)):=qcm;rw[Nat.zero_add])
      | (go_at_call 66;(first|(refine(HA.o _ uk).mono ?_;rintro e w2 ⟨ag,g1,p1,rfl,ku⟩;have be:=bt uk ag;have HLI2:Hd (w2.ownsRow W.heap.size 125 3 (.slice (p_ W.heap.size) 0 0) 0 []):=Ac uz.o ag;have kd:Hd (w2.ownsRow W.heap.size 128 3 (.slice (p_ g1) is.length p1) is.length (El is)):=Ah ku qg)|(refine(HA.o _ ii).mono ?_;rintro e w2 ⟨ag,g1,p1,rfl,ku⟩;have be:=bt ii ag;have kd:Hd (w2.ownsRow W.heap.size 128 3 (.slice (p_ g1) is.length p1) is.length (El is)):=ku));have s0:=Aa be c0;have s1:=Aa be c1;have s2:=Aa be c2))
  all_goals
    have hg1:=(yq.o.lt g1 rfl).1;have I1:=(wb.o.lt g2 rfl).1;have hB:=bt ak gy;go_wp2_with fail;refine bR (v:=.agg #[.slice (p_ g1) is.length p1,.slice (p_ g2) gs.length p2,.string out]) (by simp[results,results49,go_sem,r0,r1,r2]) rfl ⟨?_,g1,p1,g2,p2,rfl,?_,?_⟩
    · exact qev
    · exact qlx
    · exact qly

theorem Wm {o:Oper} {K:Act→World→Prop} (se:o.guard=none) (s x:Operand) (t:TypeId)
    (ho:o.op=.call { callee:=.builtin .append,args:=#[s,x],argTypes:=#[t,t] })
    (base:Nat) (e:TypeId) (i:TypeInfo) (size:Nat) (ht:prog.underlying t=some (.slice e)) (hi:prog.info? e=some i)
    (d dl dc:Nat) (xs:List Value) (hs:a.eval s=.slice (p_ d) dl dc) (ah:w.ownsRow base e size (.slice (p_ d) dl dc) dl xs)
    (hx:a.eval x=nS)
    (h:∀ g cap w',w'.ownsRow base e size (.slice (p_ g) dl cap) dl xs→w.grownBy w' (some d)→K (a.put o.dst (.slice (p_ g) dl cap)) w') :
    if Region.wanted o (yielded ops a.tmps)=true then Oper.wp prog o a w K Q else E:=by
  have hw:Region.wanted o (yielded ops a.tmps)=true:=qbz;rw[if_pos hw];have li:=run_append_owned_none (P:=prog) (w:=w) base t o.type e i size ht hi _ dl xs ah;unfold Oper.wp;simp[execOp,ho,resolve,invoke,builtin,hs,hx,li,Result.andThen];exact h d dc w ah ⟨rfl,rfl,rfl,Nat.le_refl _,fun _ _ _=>rfl⟩
theorem Zb (a:Option Addr) (cap:Nat) (is:List I3) (out:By) (w:World) (rc:Cj w a is) (h1:1 ≤ is.length∨∃ b off,a=some ⟨b,off,none⟩) (hl:is.length ≤ 1048576) :
    Calls prog 49 #[.agg #[.slice a is.length cap,nS,.string out]] w fun e w'=>Bw w w'∧Qv w.heap.size w' e is [] out:=by
  obtain⟨i0,hi,bp,bh,bv⟩:=info_parts Tryz.info88b;obtain⟨W,eW⟩:=Ai ((w.alloc (.cells #[.slice a is.length cap,nS,.string out] 97)).alloc (.cells #[nS,nS,ze] 97));have ak:Bw w W:=by rw[← eW];exact(aN _ _).alloc qg _
  have jm:W.heap[w.heap.size]?=some (.cells #[.slice a is.length cap,nS,.string out] 97 (0,0)):=qbv;have ce:W.heap[w.heap.size+1]?=some (.cells #[nS,nS,ze] 97 (0,0)):=qbw;have up:w.heap.size+1+1 ≤ W.heap.size:=qcd;obtain⟨c0,c1,c2⟩:=Bb jm;have d6:=hid ce;have HA:Hd (∀ W':World,Bw W W'→Calls prog 66 #[.agg #[.slice a is.length cap]] W' fun e w'=>Bw W' w'∧∃ g cp,e=.returned (.agg #[.slice (p_ g) is.length cp])∧w'.ownsRow W'.heap.size 128 3 (.slice (p_ g) is.length cp) is.length (El is)):=fun W' hW=>Mo a cap is W' (rc.bl (bt ak hW)) h1 hl;have ii:Bw W W.drew:=(Below.refl _ _).drew;have uk:Bw W (W.drew.alloc (.cells #[] 125)):=ii.alloc qg _;have Z8:(W.drew.alloc (.cells #[] 125)).ownsRow W.heap.size 125 3 (.slice (p_ W.heap.size) 0 0) 0 []:=Iy W.drew W.heap.size 125 3 qg;have uz:=hid Z8;obtain⟨e0,e1,e2⟩:(W.drew.alloc (.cells #[] 125)).cell? ⟨w.heap.size,0,none⟩=some (.slice a is.length cap)∧(W.drew.alloc (.cells #[] 125)).cell? ⟨w.heap.size,1,none⟩=some nS∧(W.drew.alloc (.cells #[] 125)).cell? ⟨w.heap.size,2,none⟩=some (.string out):=⟨Aa uk c0,Aa uk c1,Aa uk c2⟩;clear rc jm ce Z8;go_enter func49,ntmps49;go_wp2_with fail;clear eW
  go_region_held3 (fun w'=>w'.cell? ⟨w.heap.size,0,none⟩=some (.slice a is.length cap)∧w'.cell? ⟨w.heap.size,1,none⟩=some nS∧w'.cell? ⟨w.heap.size,2,none⟩=some (.string out))
    (first|(with_reducible exact⟨t0,t1,t2⟩)|(with_reducible exact⟨s0,s1,s2⟩)|(with_reducible exact⟨Dm s0,Dm s1,Dm s2⟩)|(refine⟨?_,?_,?_⟩<;>(rw[World.cell?_setCell_far _ _ _ _ qg,World.cell?_setCell_far _ _ _ _ qg,World.cell?_setCell_far _ _ _ _ qg];assumption))|(with_reducible exact⟨e0,e1,e2⟩)|exact⟨c0,c1,c2⟩|exact⟨e0,e1,e2⟩)
    (first
      | (refine Wm (w:=w2.alloc (.cells #[] 125)) rfl (.tmp 6) (.tmp 8) 95 rfl W.heap.size 125 i0 3 underlying95 hi w2.heap.size 0 0 [] qt (Iy w2 W.heap.size 125 3 be.size) qt ?_;intro g2 p2 x nj lx;have hne:∀ q:Nat,q<W.heap.size→some w2.heap.size≠some q:=(fun q hq e=>by have:=be.size;simp at e;omega);have t0:=Ik lx (Dm s0) (hne _ qh);have t1:=Ik lx (Dm s1) (hne _ qh);have t2:=Ik lx (Dm s2) (hne _ qh);have gy:Bw W x:=(be.alloc be.size _).grown lx (by have:=be.size;simp;omega) (fun k hk=>by have:=be.size;simp at hk;omega);have M1:=Ae d6.o gy;obtain⟨r0,r1,r2⟩:=Bb M1;have rf:=(fun j=>fH M1 j);have yq:Hd (x.ownsRow W.heap.size 128 3 (.slice (p_ g1) is.length p1) is.length (El is)):=Aj (kd.o.alloc _) (fun b eb=>lx.block b ((kd.o.alloc _).lt b eb).2 (fun e'=>by have:=(kd.o.lt b eb).2;simp at e';omega));have wb:Hd (x.ownsRow W.heap.size 125 3 (.slice (p_ g2) 0 p2) 0 (Kh [])):=nj)
      | (refine Wm (w:=w2) rfl (.tmp 6) (.tmp 8) 95 rfl W.heap.size 125 i0 3 underlying95 hi W.heap.size 0 0 [] qt HLI2.o qt ?_;intro g2 p2 x nj lx;have hne:∀ q:Nat,q<W.heap.size→some W.heap.size≠some q:=(fun q hq e=>by simp at e;omega);have t0:=Ik lx s0 (hne _ qh);have t1:=Ik lx s1 (hne _ qh);have t2:=Ik lx s2 (hne _ qh);have gy:Bw W x:=be.grown lx be.size (fun k hk=>qcw);have M1:=Ae d6.o gy;obtain⟨r0,r1,r2⟩:=Bb M1;have rf:=(fun j=>fH M1 j);have yq:Hd (x.ownsRow W.heap.size 128 3 (.slice (p_ g1) is.length p1) is.length (El is)):=Aj kd.o (fun b eb=>lx.block b (kd.o.lt b eb).2 (fun e'=>Qk HLI2.o kd.o qd W.heap.size rfl (by rw[eb,e'])));have wb:Hd (x.ownsRow W.heap.size 125 3 (.slice (p_ g2) 0 p2) 0 (Kh [])):=nj)
      | (go_at_call 66;(first|(refine(HA.o _ uk).mono ?_;rintro e w2 ⟨ag,g1,p1,rfl,ku⟩;have be:=bt uk ag;have HLI2:Hd (w2.ownsRow W.heap.size 125 3 (.slice (p_ W.heap.size) 0 0) 0 []):=Ac uz.o ag;have kd:Hd (w2.ownsRow W.heap.size 128 3 (.slice (p_ g1) is.length p1) is.length (El is)):=Ah ku qg)|(refine(HA.o _ ii).mono ?_;rintro e w2 ⟨ag,g1,p1,rfl,ku⟩;have be:=bt ii ag;have kd:Hd (w2.ownsRow W.heap.size 128 3 (.slice (p_ g1) is.length p1) is.length (El is)):=ku));have s0:=Aa be c0;have s1:=Aa be c1;have s2:=Aa be c2))
  all_goals
    have hg1:=(yq.o.lt g1 rfl).1;have I1:=(wb.o.lt g2 rfl).1;have hB:=bt ak gy;go_wp2_with fail;refine bR (v:=.agg #[.slice (p_ g1) is.length p1,.slice (p_ g2) 0 p2,.string out]) (by simp[results,results49,go_sem,r0,r1,r2]) rfl ⟨?_,g1,p1,g2,p2,rfl,?_,?_⟩
    · exact qev
    · exact qlx
    · exact qly

theorem Zc (ca:Option Addr) (cap:Nat) (lv:Value) (is:List I3) (gs:List G3) (zs:List Value) (out:By) (w:World) (rc:Cj w ca is) (hr:w.ownsRow B 125 3 lv gs.length zs) (hf:Bo gs gs.length zs) (h1:1 ≤ is.length∨∃ b off,ca=some ⟨b,off,none⟩) (hl:is.length ≤ 1048576) (hg:gs.length ≤ 1048576) :
    Calls prog 49 #[.agg #[.slice ca is.length cap,lv,.string out]] w fun e w'=>Bw w w'∧Qv w.heap.size w' e is gs out:=by
  have hr':=hr
  rcases hr.2 with ⟨rfl,h0⟩|⟨g,c,cur,rfl,_⟩
  · obtain rfl:gs=[]:=List.eq_nil_of_length_eq_zero h0
    exact Zb ca cap is out w rc h1 hl
  · obtain⟨a,cp,q,rg⟩:=Fp hr' hf
    cases q;exact Zd ca cap g 0 c is gs out w rc rg h1 hl hg
def Wh (w:World) (a:Option Addr) (is:List T3):Prop:=
  ∀ i,i<is.length→∃ b off,a=some ⟨b,off,none⟩∧∃ ca cc la lc B2 us,w.cell? ⟨b,off+i*3,none⟩=some (.slice ca (qx is i).code.length cc)∧w.cell? ⟨b,off+i*3+1,none⟩=some (.slice la (qx is i).looks.length lc)∧w.cell? ⟨b,off+i*3+2,none⟩=some (.string (qx is i).out)∧Cj w ca (qx is i).code∧(1 ≤ (qx is i).code.length∨∃ b off,ca=some ⟨b,off,none⟩)∧w.ownsRow B2 125 3 (.slice la (qx is i).looks.length lc) (qx is i).looks.length us∧Bo (qx is i).looks (qx is i).looks.length us
theorem Es.rowW {a:Option Addr} (h:Es w B (.slice a R.length cap) R) (h1:∀ i,i<R.length→1 ≤ (qx R i).code.length):Wh w a R:=fun i hi=>by
  obtain⟨xs,cv,lv,h⟩:=h;obtain⟨f1,f2,f3⟩:=h.fil i hi;obtain⟨ys,k1,k2⟩:=h.code i hi;obtain⟨zs,l1,l2⟩:=h.look i hi;obtain⟨ca,cc,e1,r1⟩:=Pe k1 k2;obtain⟨la,lc,e2⟩:=Aw l1;rw[e1] at f1;rw[e2] at f2 l1;obtain⟨b,rfl,c1⟩:=Cn h.row f1;obtain⟨b',q,c2⟩:=Cn h.row f2;cases q;obtain⟨b',q,c3⟩:=Cn h.row f3;cases q;exact⟨b,0,rfl,ca,cc,la,lc,B,zs,by rw[Nat.zero_add];exact c1,by rw[Nat.zero_add];exact c2,by rw[Nat.zero_add];exact c3,r1,Or.inl (h1 i hi),l1,l2⟩
structure CS (w:World) (P B:Nat) (wd:Int) (v1 v2:Value) (ts:List By) (rs:List T3) (k:Nat):Prop where
  blk:w.heap[P]?=some (.cells #[I wd,v1,v2] 34 (0,0))
  s:w.ownsRow B 9 1 v1 ts.length (ts.map Value.string)
  t:∃ xs cv lv,w.ownsRow B 97 3 v2 k xs∧Ef w B rs k xs cv lv
theorem CS.cell (h:CS w P B wd v1 v2 ts rs k):w.cell? ⟨P,0,none⟩=some (I wd)∧w.cell? ⟨P,1,none⟩=some v1∧w.cell? ⟨P,2,none⟩=some v2:=Bb h.blk
theorem CS.bl (h:CS w P B wd v1 v2 ts rs k) (hb:Bw w w'):CS w' P B wd v1 v2 ts rs k:=by
  obtain⟨zs,cv,lv,h3,h4⟩:=h.t;exact⟨Ae h.blk hb,Ac h.s hb,zs,cv,lv,Ac h3 hb,h4.bl hb⟩
theorem CS.zero (rs:List T3) (h:w.heap[P]?=some (.cells #[I wd,v1,nS] 34 (0,0))) (hs:w.ownsRow B 9 1 v1 ts.length (ts.map Value.string)):CS w P B wd v1 nS ts rs 0:=
  ⟨h,hs,[],fun _=>nS,fun _=>nS,World.ownsRow_nil _ _ _ _,Ef.zero _ _ _ _⟩
theorem CS.put {W0:World} {nv c d:Value} {ys zs us:List Value} {cv lv:Nat→Value} (h:CS W0 P B wd v1 v2 ts rs k) (hb:Bw W0 W) (hB:B ≤ W0.heap.size) (hy:W0.ownsRow B 97 3 v2 k ys) (hp:Ef W0 B rs k ys cv lv)
    (hc:W.ownsRow W0.heap.size 128 3 c (qx rs k).code.length zs) (hz:Cl (qx rs k).code (qx rs k).code.length zs) (hd:W.ownsRow W0.heap.size 125 3 d (qx rs k).looks.length us) (hu:Bo (qx rs k).looks (qx rs k).looks.length us) (hds:∃ g cap,d=.slice (p_ g) (qx rs k).looks.length cap)
    (hg:W.grownBy w' v2.ownBlock) (hn:w'.ownsRow B 97 3 nv (k+1) (ys++[c,d,.string (qx rs k).out])):CS (w'.setCell ⟨P,2,none⟩ nv) P B wd v1 nv ts rs (k+1):=by
  have hW:=h.bl hb;have hyW:=Ac hy hb
  have hbk:w'.heap[P]?=some (.cells #[I wd,v1,v2] 34 (0,0)):=by
    rw[hg.block P (Fa hW.blk) (fun e=>Dk.ne (T:=34) ⟨_,hW.blk⟩ hyW qd e.symm)];exact hW.blk
  have ht:Dk w' P 34:=⟨_,hbk⟩;have hl:=hy.1
  have hpa:=hp.add (w2:=w') (xs2:=ys++[c,d,.string (qx rs k).out]) (fun b _ F3=>by
      by_cases e:v2.ownBlock=some b
      · exact Or.inr ⟨k,ys,B,v2,hy,e⟩
      · left
        rw[hg.block b (zo hb.size) (fun e'=>e e'.symm),hb.block b F3]) hB (Qn hc hyW qd hg) hz (Qn hd hyW qd hg) hu hds
    (fun j hj=>List.getElem?_append_left qb) (by rw[List.getElem?_append_right qb,hl,Nat.sub_self];rfl) (by rw[List.getElem?_append_right qb,hl,show k*3+1-k*3=1 from qb];rfl) (by rw[List.getElem?_append_right qb,hl,show k*3+2-k*3=2 from qb];rfl)
  exact⟨by rw[jB hbk];rfl,Al (Qn hW.s hyW qd hg) ht qd _,_,_,_,Al hn ht qd _,hpa.setT ht qd qd _⟩
theorem CS.own (h:CS w P B wd v1 v2 ts rs rs.length) (hl:lo ≤ B) (hh:w.heap.size ≤ hi):Dq w lo hi v1 ts∧Ii w lo hi v2 rs:=by
  obtain⟨zs,cv,lv,h3,h4⟩:=h.t;exact⟨⟨Ah h.s hl,fun b e=>by have:=(h.s.lt b e).2;omega⟩,h4.own (Ah h3 hl) hl hh⟩

theorem Wn {s x:Operand} {o:Oper} {K:Act→World→Prop} (se:o.guard=none)
    (ho:o.op=.call { callee:=.builtin .append,args:=#[s,x],argTypes:=#[32,32] }) (B:Nat) (v:Value) (nn:Nat) (xs:List Value)
    (hs:a.eval s=v) (ah:W.ownsRow B 97 3 v nn xs) (d:Nat) (c l:Value) (u:By) (hc1:c.oneCell'=true) (wg:l.oneCell'=true) (hx:a.eval x=.slice (p_ d) 1 1) (hc:W.heap[d]?=some (.cells #[c,l,.string u] 97 (0,0))) (hB:B ≤ W.heap.size) (hn:nn ≤ 1048576)
    (h:∀ g' ai w',w'.ownsRow B 97 3 (.slice (p_ g') (nn+1) ai) (nn+1) (xs++[c,l,.string u])→W.grownBy w' v.ownBlock→K (a.put o.dst (.slice (p_ g') (nn+1) ai)) w') :
    if Region.wanted o (yielded ops a.tmps)=true then Oper.wp prog o a W K Q else E:=by
  obtain⟨i0,hi,bp,bh,bv⟩:=info_parts Tryz.info66b
  refine step_append_lies (w:=W) se s x 32 ho B 97 i0 (.agg #[nS,nS,ze]) 3 64 underlying32 hi bp bh bv rfl qd _ nn xs hs ah ⟨d,0,none⟩ 1 1 [c,l,.string u] hx rfl
    (World.news_of_block (cs:=#[c,l,.string u]) (t:=97) (fr:=(0,0)) hc) (by intro u' hu;simp at hu;rcases hu with rfl|rfl|rfl<;>first|rfl|exact hc1|exact wg) qb qm qb hB W.heap.size rfl ?_
  exact qdk



theorem Oj (wd:Int) (b off tc:Nat) (ra:Option Addr) (rc:Nat) (ts:List By) (rs:List T3) (w:World) (st:Cv w (some ⟨b,off,none⟩) ts) (rp:Wh w ra rs) (ht:ts.length ≤ 1048576) (hr:rs.length ≤ 1048576) (hk:∀ i,i<rs.length→(qx rs i).code.length ≤ 1048576∧(qx rs i).looks.length ≤ 1048576) :
    Calls prog 24 #[.agg #[I wd,.slice (some ⟨b,off,none⟩) ts.length tc,.slice ra rs.length rc]] w fun e w'=>Bw w w'∧∃ g1 p1 v2,e=.returned (.agg #[I wd,.slice (p_ g1) ts.length p1,v2])∧Dq w' w.heap.size w'.heap.size (.slice (p_ g1) ts.length p1) ts∧Ii w' w.heap.size w'.heap.size v2 rs:=by
  obtain⟨W,eW⟩:=Ai ((w.alloc (.cells #[I wd,.slice (some ⟨b,off,none⟩) ts.length tc,.slice ra rs.length rc] 34)).alloc (.cells #[I 0,nS,nS] 34));have ak:Bw w W:=by rw[← eW];exact(aN _ _).alloc qg _
  have jm:W.heap[w.heap.size]?=some (.cells #[I wd,.slice (some ⟨b,off,none⟩) ts.length tc,.slice ra rs.length rc] 34 (0,0)):=qbv;have ce:W.heap[w.heap.size+1]?=some (.cells #[I 0,nS,nS] 34 (0,0)):=qbw;have up:w.heap.size+1+1 ≤ W.heap.size:=qcd;obtain⟨c0,c1,c2⟩:=Bb jm;have ri:=hid jm;have d6:=hid ce;have HRP:=hid rp;have HKK:=hid hk;have ii:Bw W W.drew:=(Below.refl _ _).drew;obtain⟨i0,hi,bp,bh,bv⟩:=info_parts Tryz.info9b;have HN:Hd (∀ W':World,Bw W W'→∀ j u,(ts.map Value.string)[j]?=some u→W'.cell? ((⟨b,off,none⟩:Addr).add j)=some u):=fun W' hW=>Ow (st.bl (bt ak hW));have HL:Hd ((ts.map Value.string).length=ts.length*1):=by show _=_;simp
  have HO:=hid (Nb ts);have ja:Bw W (W.drew.alloc (.cells #[] 9)):=ii.alloc qg _;have fg:Bw W ((W.drew.alloc (.cells #[] 9)).alloc (.cells #[I 0,nS,nS] 34)):=(ii.alloc qg _).alloc qg _;have bu:Bw W ((W.drew.alloc (.cells #[I 0,nS,nS] 34)).alloc (.cells #[] 9)):=(ii.alloc qg _).alloc qg _;have LC:Hd ((W.drew.alloc (.cells #[] 9)).ownsRow W.heap.size 9 1 (.slice (p_ W.heap.size) 0 0) 0 []):=Iy W.drew W.heap.size 9 1 qg;have LB:Hd (((W.drew.alloc (.cells #[] 9)).alloc (.cells #[I 0,nS,nS] 34)).ownsRow W.heap.size 9 1 (.slice (p_ W.heap.size) 0 0) 0 []):=(Iy W.drew W.heap.size 9 1 qg).alloc _
  have LA:Hd (((W.drew.alloc (.cells #[I 0,nS,nS] 34)).alloc (.cells #[] 9)).ownsRow W.heap.size 9 1 (.slice (p_ (W.heap.size+1)) 0 0) 0 []):=by
    have h:=Iy (W.drew.alloc (.cells #[I 0,nS,nS] 34)) W.heap.size 9 1 qg;rw[show (W.drew.alloc (.cells #[I 0,nS,nS] 34)).heap.size=W.heap.size+1 from qg] at h;exact h
  have ZA:Hd (((W.drew.alloc (.cells #[I 0,nS,nS] 34)).alloc (.cells #[] 9)).heap[W.heap.size]?=some (.cells #[I 0,nS,nS] 34 (0,0))):=by show _=_;rw[Lib.alloc_old _ _ _ qg];exact Cm W.drew _
  have ZB:Hd (((W.drew.alloc (.cells #[] 9)).alloc (.cells #[I 0,nS,nS] 34)).heap[W.heap.size+1]?=some (.cells #[I 0,nS,nS] 34 (0,0))):=by
    have h:=Cm (W.drew.alloc (.cells #[] 9)) (.cells #[I 0,nS,nS] 34);rw[show (W.drew.alloc (.cells #[] 9)).heap.size=W.heap.size+1 from qg] at h;exact h
  clear st rp hk jm ce;go_enter func24,ntmps24;go_wp2_with fail;clear eW
  go_cut [3] (fun p wx=>∃(P g1 p1:Nat),p=.pointer (p_ P)∧Hd (wx.heap[P]?=some (.cells #[I wd,.slice (p_ g1) ts.length p1,nS] 34 (0,0)))∧Hd (wx.ownsRow W.heap.size 9 1 (.slice (p_ g1) ts.length p1) ts.length (ts.map Value.string))∧W.heap.size ≤ P∧Bw W wx)
  case first=>
    go_region_held3 (fun w'=>w'.cell? ⟨w.heap.size,0,none⟩=some (I wd)∧w'.cell? ⟨w.heap.size,1,none⟩=some (.slice (some ⟨b,off,none⟩) ts.length tc))
      (first|(with_reducible exact⟨t0,t1⟩)|(with_reducible exact⟨Dm t0,Dm t1⟩)|(refine⟨?_,?_⟩<;>(rw[World.cell?_setCell_far _ _ _ _ qh,World.cell?_setCell_far _ _ _ _ qh,World.cell?_setCell_far _ _ _ _ qh];assumption))|exact⟨c0,c1⟩|exact⟨Dm (w:=W.drew) c0,Dm (w:=W.drew) c1⟩|exact⟨Dm (Dm (w:=W.drew) c0),Dm (Dm (w:=W.drew) c1)⟩)
      (first
        | (refine En (w:=W.drew.alloc (.cells #[] 9)) rfl (.tmp 7) (.tmp 9) 22 rfl W.heap.size 9 i0 ze 1 16 underlying22 hi bp bh bv rfl qd W.heap.size 0 0 [] qt LC.o ⟨b,off,none⟩ ts.length tc (ts.map Value.string) qt HL.o (HN.o _ ja) HO.o qm qb qce ?_;intro g1 p1 x nj lx;have be:Bw W x:=Below.grown ja lx qce (fun k hk=>qcw);have kd:Hd (x.ownsRow W.heap.size 9 1 (.slice (p_ g1) ts.length p1) ts.length (ts.map Value.string)):=qcm;have t0:=Aa be c0;have t1:=Aa be c1;rw[Nat.zero_add])
        | (refine En (w:=(W.drew.alloc (.cells #[] 9)).alloc (.cells #[I 0,nS,nS] 34)) rfl (.tmp 7) (.tmp 9) 22 rfl W.heap.size 9 i0 ze 1 16 underlying22 hi bp bh bv rfl qd W.heap.size 0 0 [] qt LB.o ⟨b,off,none⟩ ts.length tc (ts.map Value.string) qt HL.o (HN.o _ fg) HO.o qm qb qce ?_;intro g1 p1 x nj lx;have be:Bw W x:=Below.grown fg lx qce (fun k hk=>qcw);have kd:Hd (x.ownsRow W.heap.size 9 1 (.slice (p_ g1) ts.length p1) ts.length (ts.map Value.string)):=qcm;have t0:=Aa be c0;have t1:=Aa be c1;have z2:=(show x.heap[W.heap.size+1]?=_ from (lx.block _ (Fa ZB.o) (fun e=>by simp at e)).trans ZB.o);obtain⟨k0,k1,k2⟩:=Bb z2;have kf:=(fun j=>fH z2 j);rw[Nat.zero_add])
        | (refine En (w:=(W.drew.alloc (.cells #[I 0,nS,nS] 34)).alloc (.cells #[] 9)) rfl (.tmp 7) (.tmp 9) 22 rfl W.heap.size 9 i0 ze 1 16 underlying22 hi bp bh bv rfl qd (W.heap.size+1) 0 0 [] qt LA.o ⟨b,off,none⟩ ts.length tc (ts.map Value.string) qt HL.o (HN.o _ bu) HO.o qm qb qce ?_;intro g1 p1 x nj lx;have be:Bw W x:=Below.grown bu lx qce (fun k hk=>qcw);have kd:Hd (x.ownsRow W.heap.size 9 1 (.slice (p_ g1) ts.length p1) ts.length (ts.map Value.string)):=qcm;have t0:=Aa be c0;have t1:=Aa be c1;have z2:=(show x.heap[W.heap.size]?=_ from (lx.block _ (Fa ZA.o) (fun e=>by simp at e)).trans ZA.o);obtain⟨k0,k1,k2⟩:=Bb z2;have kf:=(fun j=>fH z2 j);rw[Nat.zero_add]))
    all_goals
      go_wp2_with fail;go_meet
      first
        | exact⟨W.heap.size,g1,p1,rfl,Qr z2 _ _ _,Al (Al (Al kd.o ⟨_,z2⟩ qd _) (Dk.set ⟨_,z2⟩ _) qd _) (Dk.set (Dk.set ⟨_,z2⟩ _) _) qd _,Nat.le_refl _,((be.setCell (p:=⟨W.heap.size,0,none⟩) (Nat.le_refl _) _).setCell (p:=⟨W.heap.size,1,none⟩) (Nat.le_refl _) _).setCell (p:=⟨W.heap.size,2,none⟩) (Nat.le_refl _) _⟩
        | exact⟨W.heap.size+1,g1,p1,rfl,Qr z2 _ _ _,Al (Al (Al kd.o ⟨_,z2⟩ qd _) (Dk.set ⟨_,z2⟩ _) qd _) (Dk.set (Dk.set ⟨_,z2⟩ _) _) qd _,Nat.le_succ _,((be.setCell (p:=⟨W.heap.size+1,0,none⟩) (Nat.le_succ _) _).setCell (p:=⟨W.heap.size+1,1,none⟩) (Nat.le_succ _) _).setCell (p:=⟨W.heap.size+1,2,none⟩) (Nat.le_succ _) _⟩
        | exact⟨x.heap.size,g1,p1,rfl,Cm _ _,kd.o.alloc _,be.size,be.alloc be.size _⟩
  case rest=>
    obtain⟨P,g1,p1,rfl,HP,kd,uq,F1⟩:=hcut;have HC0:=hid (CS.zero rs HP.o kd.o);have HBX:=hid F1;clear HP kd c0 c1 c2 ii F1 HN LA LB LC ZA ZB bu fg ja;go_wp2
    go_loopw [4] (fun i wr=>∃(k:Nat) (v2:Value),k ≤ rs.length∧i=I k∧Hd (CS wr P W.heap.size wd (.slice (p_ g1) ts.length p1) v2 ts rs k)∧Bw W wr) (fun i _=>rs.length-(intOf i).toNat)
    case atStart=>exact⟨0,_,Nat.zero_le _,rfl,HC0.o,HBX.o⟩
    case round=>
      obtain⟨k,v2,hk,rfl,HW,bc⟩:=hrel;have hw:=bt ak bc;obtain⟨_,_,e2⟩:=Bb (Ae ri.o bc);clear HC0
      by_cases aj:k<rs.length
      · obtain⟨rb,ro,rfl,ca,cc,la,lc,B2,us2,F6,zl,c3',r1,ce,r2,r3⟩:=HRP.o k aj
        obtain⟨gw,gh⟩:=HKK.o k aj;have je:(k:Int)<(rs.length:Int):=qb;have E7:rb<w.heap.size:=World.block_lt_of_cell? _ _ F6;replace F6:=Aa hw F6;replace zl:=Aa hw zl;replace c3':=Aa hw c3';have r1':=r1.bl hw;have r2':=Ac r2 hw;obtain⟨X,eX⟩:=Ai wr;subst eX;have HWX:=hid HW.o;have dP:=HWX.o.cell.2.2;have hXW:=bc.size;have hPq:=Fa HW.o.blk;obtain⟨ys0,cv0,lv0,E6,_⟩:=HW.o.t;(have HVR:Hd (some rb≠v2.ownBlock):=fun e=>by have:=(E6.lt rb e.symm).1;omega);(have HVA:Hd (some w.heap.size≠v2.ownBlock):=fun e=>by have:=(E6.lt _ e.symm).1;omega);have HVP:Hd (some P≠v2.ownBlock):=fun e=>Dk.ne (T:=34) ⟨_,HW.o.blk⟩ E6 qd e.symm;have km:=bc;have O6:Hd (∀ W':World,Bw wr W'→Calls prog 49 #[.agg #[.slice ca (qx rs k).code.length cc,.slice la (qx rs k).looks.length lc,.string (qx rs k).out]] W' fun e w'=>Bw W' w'∧Qv W'.heap.size w' e (qx rs k).code (qx rs k).looks (qx rs k).out):=fun W' hW'=>Zc ca cc _ (qx rs k).code (qx rs k).looks us2 (qx rs k).out W' (r1'.bl hW') (Ac r2' hW') r3 ce gw gh;clear E6 HW bc r1 r2 r3 r1' r2' hw;obtain⟨ys,cv,lv,sq,sr⟩:=HWX.o.t;have zm:=hid sq;have HPT:=hid sr;have T8:Hd (∀(Y Z:World) (nv c d:Value) (zs us:List Value),Bw wr Y→Y.ownsRow wr.heap.size 128 3 c (qx rs k).code.length zs→Cl (qx rs k).code (qx rs k).code.length zs→Y.ownsRow wr.heap.size 125 3 d (qx rs k).looks.length us→Bo (qx rs k).looks (qx rs k).looks.length us→(∃ g cap,d=.slice (p_ g) (qx rs k).looks.length cap)→Y.grownBy Z v2.ownBlock→Z.ownsRow W.heap.size 97 3 nv (k+1) (ys++[c,d,.string (qx rs k).out])→CS (Z.setCell ⟨P,2,none⟩ nv) P W.heap.size wd (.slice (p_ g1) ts.length p1) nv ts rs (k+1)):=fun Y Z nv c d zs us j1 j2 j3 j4 j5 j6 j7 j8=>CS.put HWX.o j1 hXW zm.o HPT.o j2 j3 j4 j5 j6 j7 j8;clear sq sr;generalize qx rs k=s at *;go_wp2_with fail;refine Lt.begin 11 (fun w'=>w'.cell? ⟨P,2,none⟩=some v2∧w'.cell? ⟨w.heap.size,2,none⟩=some (.slice (some ⟨rb,ro,none⟩) rs.length rc)∧w'.cell? ⟨rb,ro+k*3,none⟩=some (.slice ca s.code.length cc)∧w'.cell? ⟨rb,ro+k*3+1,none⟩=some (.slice la s.looks.length lc)∧w'.cell? ⟨rb,ro+k*3+2,none⟩=some (.string s.out)) qi ?_;have iw:wr.drew.cell? ⟨P,2,none⟩=some v2∧wr.drew.cell? ⟨w.heap.size,2,none⟩=some (.slice (some ⟨rb,ro,none⟩) rs.length rc)∧wr.drew.cell? ⟨rb,ro+k*3,none⟩=some (.slice ca s.code.length cc)∧wr.drew.cell? ⟨rb,ro+k*3+1,none⟩=some (.slice la s.looks.length lc)∧wr.drew.cell? ⟨rb,ro+k*3+2,none⟩=some (.string s.out):=⟨dP,e2,F6,zl,c3'⟩;change K 0 _
        iterate 7
         refine Lt.ti (v:=?_) iw ?_ ?_;rotate_left 1
         · exact qak
         simp only[gX]
        refine Lt.sp (i:=7) (fun K hK=>?_);go_simp;refine(O6.o _ ((Below.refl _ _).drew)).mono ?_;rintro e w6 ⟨ci,gc,cpc,gd,cpd,rfl,hoc,hod⟩;have co:Bw wr w6:=(Below.drew (Below.refl _ _)).trans (ci.mono qg);have HOC:Hd (w6.ownsRow wr.heap.size 128 3 (.slice (p_ gc) s.code.length cpc) s.code.length (El s.code)):=Ah hoc qg;have HOD:Hd (w6.ownsRow wr.heap.size 125 3 (.slice (p_ gd) s.looks.length cpd) s.looks.length (Kh s.looks)):=Ah hod qg;refine hK.out _ _ (fun _=>⟨Aa co dP,Aa co e2,Aa co F6,Aa co zl,Aa co c3'⟩) (fun mg=>?_);replace mg:=mg qd;clear hK K iw ci hoc hod;refine Lt.sp (i:=8) (fun K hK=>?_);go_simp;refine hK.out _ _ (fun _=>⟨Dm mg.1,Dm mg.2.1,Dm mg.2.2.1,Dm mg.2.2.2.1,Dm mg.2.2.2.2⟩) (fun ko=>?_);replace ko:=ko qd;clear hK K mg;refine Lt.sp (i:=9) (fun K hK=>?_);refine Wn rfl qt W.heap.size v2 _ ys qt ((Ac zm.o co).alloc _) w6.heap.size (.slice (p_ gc) s.code.length cpc) (.slice (p_ gd) s.looks.length cpd) s.out rfl rfl qt (Cm _ _) (by have:=co.size;simp;omega) qb ?_;intro g' ai w7 d7 ae;have hsz6:=co.size;(have x0:w7.cell? ⟨P,2,none⟩=some v2:=by rw[ae.cell_far ⟨P,2,none⟩ qh HVP.o];exact ko.1);(have x1:w7.cell? ⟨w.heap.size,2,none⟩=some (.slice (some ⟨rb,ro,none⟩) rs.length rc):=by rw[ae.cell_far ⟨w.heap.size,2,none⟩ qh HVA.o];exact ko.2.1);(have x2:w7.cell? ⟨rb,ro+k*3,none⟩=some (.slice ca s.code.length cc):=by rw[ae.cell_far ⟨rb,ro+k*3,none⟩ qh HVR.o];exact ko.2.2.1);(have x3:w7.cell? ⟨rb,ro+k*3+1,none⟩=some (.slice la s.looks.length lc):=by rw[ae.cell_far ⟨rb,ro+k*3+1,none⟩ qh HVR.o];exact ko.2.2.2.1);(have x4:w7.cell? ⟨rb,ro+k*3+2,none⟩=some (.string s.out):=by rw[ae.cell_far ⟨rb,ro+k*3+2,none⟩ qh HVR.o];exact ko.2.2.2.2);have HNP:Hd (CS (w7.setCell ⟨P,2,none⟩ (.slice (p_ g') (k+1) ai)) P W.heap.size wd (.slice (p_ g1) ts.length p1) (.slice (p_ g') (k+1) ai) ts rs (k+1)):=T8.o _ w7 _ _ _ _ _ (co.alloc qb _) (HOC.o.alloc _) (Ka _) (HOD.o.alloc _) (Rh _) ⟨_,_,rfl⟩ ae d7;have hbP7:Bw W w7:=((km.trans (co.mono qb)).alloc qb _).grown ae qh (fun m hm=>by have:=(zm.o.lt m hm).1;omega);(have fz:w7.frozen? ⟨P,2,none⟩=false:=by rw[ae.frozen_far ⟨P,2,none⟩ qh HVP.o];exact fH (by rw[Lib.alloc_old _ _ _ qb];exact(HWX.o.bl co).blk) 2);refine hK.out _ _ (fun _=>⟨x0,x1,x2,x3,x4⟩) (fun C9=>?_);replace C9:=C9 qd;clear hK K ko ae d7;simp only[gX];refine Lt.ti (i:=10) (v:=?_) C9 ?_ ?_;rotate_left 1
        · exact qak
        simp only[gX];refine Lt.sp (i:=11) (fun K hK=>?_);exact qio
      · have ek:k=rs.length:=qb
        subst ek;have kbr:=Ae d6.o bc;obtain⟨r0,r1,r2⟩:=Bb kbr;have fr:=fZ kbr;obtain⟨d0,d1,d2⟩:=HW.o.cell;obtain⟨o1,o2⟩:=HW.o.own (lo:=W.heap.size) (hi:=wr.heap.size) (Nat.le_refl _) (Nat.le_refl _);have kd:=hid o1;have wb:=hid o2;obtain⟨a2,p2,rfl,_⟩:=o2.sl;clear kbr bc o1 o2 HW;go_wp2;refine bR (v:=.agg #[I wd,.slice (p_ g1) ts.length p1,.slice a2 rs.length p2]) (by simp[results,results24,go_sem,r0,r1,r2]) rfl ⟨((hw.setCell (p:=⟨w.heap.size+1,0,none⟩) qg _).setCell (p:=⟨w.heap.size+1,1,none⟩) qg _).setCell (p:=⟨w.heap.size+1,2,none⟩) qg _,_,_,_,rfl,?_,?_⟩
        · exact qmo
        · exact qmn
structure Fs (w:World) (B:Nat) (tx qv:Value) (T:List By) (R:List T3):Prop where
  txt:w.ownsRow B 9 1 tx T.length (Ax T)
  txa:∃ g p,tx=.slice (p_ g) T.length p
  rcs:Es w B qv R
theorem Ii.recO (h:Ii w lo hi v rs):Es w lo v rs:=by
  obtain⟨xs,cv,lv,q⟩:=h;exact⟨xs,cv,lv,q.row.own,q.fil,fun i hi=>by obtain⟨ys,a,b⟩:=q.code i hi;exact⟨ys,a.own,b⟩,fun i hi=>by obtain⟨ys,a,b⟩:=q.look i hi;exact⟨ys,a.own,b⟩,q.apc,q.apl⟩
theorem Es.bl (h:Es w B v R) (hb:Bw w w'):Es w' B v R:=by
  obtain⟨xs,cv,lv,q⟩:=h;exact⟨xs,cv,lv,q.bl hb⟩
theorem Es.base (h:Es w B v R) (hB:B'<=B):Es w B' v R:=by
  obtain⟨xs,cv,lv,r⟩:=h;exact⟨xs,cv,lv,Ah r.row hB,r.fil,fun i hi=>by obtain⟨ys,a,b⟩:=r.code i hi;exact⟨ys,Ah a hB,b⟩,fun i hi=>by obtain⟨ys,a,b⟩:=r.look i hi;exact⟨ys,Ah a hB,b⟩,r.apc,r.apl⟩
theorem Fs.bl {tx:Value} (h:Fs w B tx qv T R) (hb:Bw w w'):Fs w' B tx qv T R:=⟨Ac h.txt hb,h.txa,h.rcs.bl hb⟩
theorem Fs.base {tx:Value} (h:Fs w B tx qv T R) (hB:B'<=B):Fs w B' tx qv T R:=⟨Ah h.txt hB,h.txa,h.rcs.base hB⟩
theorem Fo.start {tx:Value} (hB:B<=h) (hk:w.heap[h]?=some (.cells #[sv,tv,I n,tx,qv,nS,nS,nS,nS,.bool false,I 0,ze,nS,I 0,nS,nS,nS,nS,ze,ze] 61 (0,0))) (hs:Fs w B tx qv T R):Fo B h sv tv n w [] ⟨T,R,[],[]⟩ [] ⟨tx,qv,nS,nS,nS,nS⟩:=
  ⟨hB,hk,hs.txt,hs.rcs,⟨[],World.ownsRow_nil _ _ _ _,fun i hi=>qy⟩,World.ownsRow_nil _ _ _ _,World.ownsRow_nil _ _ _ _,World.ownsRow_nil _ _ _ _,hs.txa,fun b q=>⟨(fun q=>qw),(fun q=>qw),(fun q=>qw)⟩,(fun b q=>qw),(fun b q=>qw)⟩
theorem Wh.bl {a:Option Addr} {is:List T3} (h:Wh w a is) (hb:Bw w w'):Wh w' a is:=fun i hi=>by
  obtain⟨b,off,e,ca,cc,la,lc,B2,us,c1,c2,c3,r1,r0,r2,r3⟩:=h i hi;exact⟨b,off,e,ca,cc,la,lc,B2,us,Aa hb c1,Aa hb c2,Aa hb c3,r1.bl hb,r0,Ac r2 hb,r3⟩
theorem Fo.notB {ms:Mm} {s:Sb} {st:List By} {v:Hv} (k:Fo B h sv tv n w ms s st v) {T:Nat} (hb:w.heap[b]?=some (.cells cs T (0,0))) (h1:T≠61) (h2:T≠97) (h3:T≠131) (h4:T≠9):¬ Bu h v b:=by
  obtain⟨xs,m1,m2⟩:=k.made;obtain⟨ys,cv,lv,r⟩:=k.rcs;rintro (q|q|q|q|q|q)
  · subst q
    have hk:=k.blk;rw[hb] at hk;injection hk with hk;injection hk with _ h5;exact h1 h5
  · exact Ad r.row h2 hb q
  · exact Ad m1 h3 hb q
  · exact Ad k.stk h4 hb q
  · exact Ad k.ran h4 hb q
  · exact Ad k.held h4 hb q
theorem Jj (ho:w.ownsRow B e sz u n xs) (hh:∀ x∈l,x.1=h) (hk:w.heap[h]?=some (.cells cs 61 (0,0))) (he:61≠e):(Cf w l).ownsRow B e sz u n xs:=Aj ho fun b q=>Gm l w fun x hx r=>Ad ho he hk (by rw[← hh x hx,← r];exact q)
theorem Fs.setL {tx:Value} (k:Fs w B tx qv T R) (hh:∀ x∈l,x.1=h) (hk:w.heap[h]?=some (.cells cs 61 (0,0))):Fs (Cf w l) B tx qv T R:=by
  obtain⟨xs,cv,lv,r⟩:=k.rcs;exact⟨Jj k.txt hh hk qd,k.txa,xs,cv,lv,Jj r.row hh hk qd,r.fil,fun i hi=>by obtain⟨ys,a,b⟩:=r.code i hi;exact⟨ys,Jj a hh hk qd,b⟩,fun i hi=>by obtain⟨ys,a,b⟩:=r.look i hi;exact⟨ys,Jj a hh hk qd,b⟩,r.apc,r.apl⟩
theorem len9 {pre:List Value} (h:pre.length=9):∃ a0 a1 a2 a3 a4 a5 a6 a7 a8,pre=[a0,a1,a2,a3,a4,a5,a6,a7,a8]:=by
  match pre,h with
  | [a0,a1,a2,a3,a4,a5,a6,a7,a8],_=>exact⟨a0,a1,a2,a3,a4,a5,a6,a7,a8,rfl⟩
theorem Jb.shape {b:Gd} {e:List Value} (h:Jb B w b e):∃ x y cv A B',e=[x,y,cv,I 0,nS,nS,nS,nS,A,B']/\∀ c,cv.ownBlock=some c->c<w.heap.size:=by
  cases b with
  | circle ch=>obtain⟨cv,k,rfl⟩:=h;exact⟨_,_,_,_,_,rfl,fun c q=>(k.lt c q).2⟩
  | deep nm=>cases h;exact⟨_,_,_,_,_,rfl,fun c q=>qw⟩
  | clash A B=>cases h;exact⟨_,_,_,_,_,rfl,fun c q=>qw⟩
  | full=>cases h;exact⟨_,_,_,_,_,rfl,fun c q=>qw⟩
theorem Jb.setL {b:Gd} {e:List Value} (k:Jb B w b e) (hh:∀ x∈l,x.1=h) (hk:w.heap[h]?=some (.cells cs 61 (0,0))):Jb B (Cf w l) b e:=by
  cases b with
  | circle ch=>obtain⟨cv,a,b⟩:=k;exact⟨cv,Jj a hh hk qd,b⟩
  | deep nm=>exact k
  | clash A B=>exact k
  | full=>exact k
def WorkE (B h n:Nat) (ss:List S2) (ts:List T2) (T:List By) (R:List T3) (nm:By) (w':World):Prop:=
  ∃ ms' s' a,Bc ss ts n [] ⟨T,R,[],[]⟩ [] (.make nm) ms' s' a/\∃ pre e,pre.length=10/\w'.heap[h]?=some (.cells ((pre++e).toArray) 61 (0,0))/\
   ((∃ d tx qv nv ev,a=.ok d/\e=[I d.c,.string d.t,nS,I n,tx,qv,nv,ev,ze,ze]/\Fs w' B tx qv s'.T s'.R/\w'.ownsRow B 9 1 nv s'.ran.length (Ax s'.ran)/\w'.ownsRow B 9 1 ev s'.held.length (Ax s'.held)/\(∀ b,tx.ownBlock=some b->nv.ownBlock≠some b/\ev.ownBlock≠some b)/\(∀ b,nv.ownBlock=some b->ev.ownBlock≠some b))\/
    (∃ b x y cv tx qv A B',a=.bad b/\Jb B w' b [x,y,cv,I 0,nS,nS,nS,nS,A,B']/\e=[x,y,cv,I n,tx,qv,nS,nS,A,B']/\Fs w' B tx qv T R/\(∀ b,cv.ownBlock=some b->tx.ownBlock≠some b)))
theorem l5Work_any (sa ta qa:Option Addr) (c1 c2 n tb tc qc:Nat) (ss:List S2) (ts:List T2) (T:List By) (R:List T3) (nm:By) (w:World) (hE:Ir w sa ta ss ts) (h1:1<=n) (h8:n<=8) (cz:Cv w (p_ tb) T) (hrp:Wh w qa R) (ft:Js n T R) (cr:Am nm) (hcp:T.length<=1048576/\R.length<=2000/\∀ i,i<R.length→1 ≤ (qx R i).code.length∧(qx R i).code.length ≤ 1048576∧(qx R i).looks.length ≤ 1048576) :
    Calls prog 25 #[.agg #[I n,.slice (p_ tb) T.length tc,.slice qa R.length qc],.agg #[.slice sa ss.length c1,.slice ta ts.length c2],.string nm] w fun e w'=>Bw w w'/\∃ h,w.heap.size<=h/\e=.returned (.pointer (p_ h))/\WorkE w.heap.size h n ss ts T R nm w':=by
  obtain⟨W,eW⟩:=Ai ((w.alloc (.cells #[I n,.slice (p_ tb) T.length tc,.slice qa R.length qc] 34)).alloc (.cells #[.slice sa ss.length c1,.slice ta ts.length c2] 42));have HW:Hd (Bw w W):=by show Below _ _ _;rw[← eW];exact(aN _ _).alloc qg _
  obtain⟨Q,eQ⟩:=Ai w.heap.size;have HQ:Hd (W.heap[Q]?=some (.cells #[I n,.slice (p_ tb) T.length tc,.slice qa R.length qc] 34 (0,0))):=qge
  have HP:Hd (W.heap[Q+1]?=some (.cells #[.slice sa ss.length c1,.slice ta ts.length c2] 42 (0,0))):=by
    show _=_;rw[← eW,← eQ];have:=Gq (w.alloc (.cells #[I n,.slice (p_ tb) T.length tc,.slice qa R.length qc] 34)) (.cells #[.slice sa ss.length c1,.slice ta ts.length c2] 42)
    rwa [show (w.alloc (.cells #[I n,.slice (p_ tb) T.length tc,.slice qa R.length qc] 34)).heap.size=w.heap.size+1 from qg] at this
  have HCPY:Hd (∀ V:World,Bw w V->Calls prog 24 #[.agg #[I n,.slice (p_ tb) T.length tc,.slice qa R.length qc]] V fun e w'=>Bw V w'/\∃ tx qv,e=.returned (.agg #[I n,tx,qv])/\Fs w' V.heap.size tx qv T R):=fun V hV=>by
    refine(Oj n tb 0 tc qa qc T R V (cz.bl hV) (hrp.bl hV) hcp.1 (zo hcp.2.1) (fun i hi=>(hcp.2.2 i hi).2)).mono ?_;rintro e w' ⟨a1,g1,p1,v2,rfl,a2,a3⟩;exact⟨a1,_,_,rfl,a2.own,⟨g1,p1,rfl⟩,a3.recO⟩
  have HE:=hid hE;have yp:=hid ft;have pq:=hid cr;clear hE ft cr cz hrp hcp;obtain⟨q0,q1,q2⟩:=Bb HQ.o;obtain⟨p0,p1⟩:=Fr HP.o;go_enter func25,ntmps25;go_wp2_with fail
  try rw[eQ]
  clear eW q0 q1 q2 p0 p1;refine Lt.begin 5 (fun w'=>w'.heap[Q]?=some (.cells #[I n,.slice (p_ tb) T.length tc,.slice qa R.length qc] 34 (0,0))/\w'.heap[Q+1]?=some (.cells #[.slice sa ss.length c1,.slice ta ts.length c2] 42 (0,0))) qi ?_;obtain⟨wD,eD⟩:=Ai W.drew;rw[eD];have di:Bw W wD:=qaa;clear eD;replace HQ:=hid (Ae HQ.o di);replace HP:=hid (Ae HP.o di);replace HW:=hid (bt HW.o di);have iw:(fun w'=>w'.heap[Q]?=some (.cells #[I n,.slice (p_ tb) T.length tc,.slice qa R.length qc] 34 (0,0))/\w'.heap[Q+1]?=some (.cells #[.slice sa ss.length c1,.slice ta ts.length c2] 42 (0,0))) wD:=⟨HQ.o,HP.o⟩;change K 0 _
  iterate 2
   refine Lt.ti (v:=?_) iw ?_ ?_;rotate_left 1
   · exact qks
   simp only[gX]
  refine Lt.sp (i:=2) (fun K hK=>?_);go_simp;refine(HCPY.o _ HW.o).mono ?_;rintro e wC ⟨ja,tx,qv,rfl,mr⟩;have hDs:=HW.o.size;have tm:=hid (mr.base hDs);replace HQ:=hid (Ae HQ.o ja);replace HP:=hid (Ae HP.o ja);replace HW:=hid (bt HW.o ja);have vu:(fun w'=>w'.heap[Q]?=some (.cells #[I n,.slice (p_ tb) T.length tc,.slice qa R.length qc] 34 (0,0))/\w'.heap[Q+1]?=some (.cells #[.slice sa ss.length c1,.slice ta ts.length c2] 42 (0,0))) wC:=⟨HQ.o,HP.o⟩;refine hK.out _ _ (fun _=>vu) (fun _=>?_);clear hK K ja mr
  try simp only[gX]
  refine Lt.ti (i:=3) (v:=?_) vu ?_ ?_;rotate_left 1
  · exact qks
  simp only[gX];refine Lt.sp (i:=4) (fun K hK=>?_);go_simp;refine Cc (Q:=fun x=>K _ x) ?_;intro wH hbH HH
  try dsimp only
  obtain⟨h,eh⟩:=Ai wC.heap.size;rw[eh] at HH ⊢;replace tm:=hid (tm.o.bl hbH);have R7:w.heap.size<=h:=by rw[← eh];exact HW.o.size
  replace HQ:=hid (Ae HQ.o hbH);replace HP:=hid (Ae HP.o hbH);replace HW:=hid (bt HW.o hbH);have hS2:(fun w'=>w'.heap[Q]?=some (.cells #[I n,.slice (p_ tb) T.length tc,.slice qa R.length qc] 34 (0,0))/\w'.heap[Q+1]?=some (.cells #[.slice sa ss.length c1,.slice ta ts.length c2] 42 (0,0))) wH:=⟨HQ.o,HP.o⟩;refine hK.out _ _ (fun _=>hS2) (fun _=>?_);clear hK K hbH
  try simp only[gX]
  refine Lt.sp (i:=5) (fun K hK=>?_);go_simp;refine hK.out _ _ (fun h=>absurd rfl h) (fun _=>?_);clear hK K;refine Lt.done qi ?_ _;have HS:=hid (Fo.start R7 HH.o tm.o);go_wp2_with fail;refine(make5_all w h sa ta c1 c2 n ss ts HE.o h1 h8 60 [] rfl qg [] ⟨T,R,[],[]⟩ _ nm wH HW.o HS.o (Fv.nil ss ts) yp.o pq.o qg (by unfold Ki;simp)).mono ?_;rintro e w5 ⟨ms',s',a,bi,⟨d,v',rfl,rfl,bz,dj⟩|⟨b,nb,rfl,rfl,bz,py⟩⟩
  · have HBLD:=hid bi
    have HF:=hid bz;have io:=hid dj;clear bi bz dj;have zn:=hid (HW.o.trans HF.o.bel);obtain⟨dc,dt,dl⟩:=d;dsimp only
    go_upto_region 3 with fail
    obtain⟨RR,eRR⟩:=Ai w5.heap.size;obtain⟨w6,e6⟩:=Ai (w5.alloc (.cells #[I dc,.string dt,nS] 105));have ci:Bw w5 w6:=qav;have iy:Hd (w6.heap[RR]?=some (.cells #[I dc,.string dt,nS] 105 (0,0))):=qbr;rw[e6]
    try rw[eRR]
    clear e6;have ks:=hid (io.o.bl ci);have S9:=hid (zn.o.trans (ci.mono (zn.o.size)));have ks:=hid (io.o.bl ci);clear ci io zn;have k9:=cK ks.o.blk 9
    go_upto_region 6 with fail
    clear k9;obtain⟨vtx,vqv,vmv,vkv,vnv,vev⟩:=v';obtain⟨xg,xp,e1⟩:∃ g p,vtx=.slice (p_ g) s'.T.length p:=ks.o.txa;subst e1;(obtain⟨X9,X8,e2⟩:∃ a cap,vqv=.slice a s'.R.length cap:=by obtain⟨ys,cv,lv,r⟩:=ks.o.rcs;exact Aw r.row);subst e2;obtain⟨na,nc,e3⟩:∃ a cap,vnv=.slice a s'.ran.length cap:=Aw ks.o.ran;subst e3;obtain⟨ea,ec,e4⟩:∃ a cap,vev=.slice a s'.held.length cap:=Aw ks.o.held;subst e4;refine Lt.begin 20 (fun w'=>w'.heap[h]?=some (.cells #[.slice sa ss.length c1,.slice ta ts.length c2,I n,.slice (p_ xg) s'.T.length xp,.slice X9 s'.R.length X8,vmv,vkv,.slice na s'.ran.length nc,.slice ea s'.held.length ec,.bool false,I 0,ze,nS,I 0,nS,nS,nS,nS,ze,ze] 61 (0,0))/\w'.heap[RR]?=some (.cells #[I dc,.string dt,nS] 105 (0,0))) qi ?_;obtain⟨wE,eD⟩:=Ai w6.drew;rw[eD];have di:Bw w6 wE:=qaa;clear eD;replace ks:=hid (ks.o.bl di);replace iy:=hid (Ae iy.o di);replace S9:=hid (S9.o.trans (Below.mono di S9.o.size));have iw:(fun w'=>w'.heap[h]?=some (.cells #[.slice sa ss.length c1,.slice ta ts.length c2,I n,.slice (p_ xg) s'.T.length xp,.slice X9 s'.R.length X8,vmv,vkv,.slice na s'.ran.length nc,.slice ea s'.held.length ec,.bool false,I 0,ze,nS,I 0,nS,nS,nS,nS,ze,ze] 61 (0,0))/\w'.heap[RR]?=some (.cells #[I dc,.string dt,nS] 105 (0,0))) wE:=⟨ks.o.blk,iy.o⟩;change K 0 _
    iterate 18
     refine Lt.ti (v:=?_) iw ?_ ?_;rotate_left 1
     · exact qkb
     simp only[gX]
    refine Lt.sp (i:=18) (fun K hK=>?_);go_simp;refine hK.out _ _ (fun _=>iw) (fun _=>?_);clear hK K 
    try simp only[gX]
    refine Lt.ti (i:=19) (v:=?_) iw ?_ ?_;rotate_left 1
    · exact qkb
    simp only[gX];(have kc:∀ j,10<=j->j<20->∃ x,wE.cell? ⟨h,j,none⟩=some x:=fun j h1 h2=>by rw[cH ks.o.blk];exact⟨_,Array.getElem?_eq_getElem qh⟩);have kf:=fZ ks.o.blk;obtain⟨x10,f10⟩:=kc 10 qb qb;obtain⟨x11,f11⟩:=kc 11 qb qb;obtain⟨x12,f12⟩:=kc 12 qb qb;obtain⟨x13,f13⟩:=kc 13 qb qb;obtain⟨x14,f14⟩:=kc 14 qb qb;obtain⟨x15,f15⟩:=kc 15 qb qb;obtain⟨x16,f16⟩:=kc 16 qb qb;obtain⟨x17,f17⟩:=kc 17 qb qb;obtain⟨x18,f18⟩:=kc 18 qb qb;obtain⟨x19,f19⟩:=kc 19 qb qb;refine Lt.sp (i:=20) (fun K hK=>?_);go_simp;refine hK.out _ _ (fun h=>absurd rfl h) (fun _=>?_);clear hK K;refine Lt.done qi ?_ _;obtain⟨l,el⟩:∃ l:List (Nat × Nat × Value),l=[(h,10,I dc),(h,11,.string dt),(h,12,nS),(h,13,I n),(h,14,.slice (p_ xg) s'.T.length xp),(h,15,.slice X9 s'.R.length X8),(h,16,.slice na s'.ran.length nc),(h,17,.slice ea s'.held.length ec),(h,18,ze),(h,19,ze)]:=⟨_,rfl⟩;have dr:∀ x∈l,x.1=h:=qab;have cm:=Ds l wE _ dr ks.o.blk;have fc:Bw w (Cf wE l):=Br l wE S9.o (fun x hx=>by rw[dr x hx];exact R7);have HVS:Hd (Fs (Cf wE l) w.heap.size (.slice (p_ xg) s'.T.length xp) (.slice X9 s'.R.length X8) s'.T s'.R):=Fs.setL ⟨ks.o.txt,ks.o.txa,ks.o.rcs⟩ dr ks.o.blk;have HVN:=hid (Jj ks.o.ran dr ks.o.blk qd);have HVE:=hid (Jj ks.o.held dr ks.o.blk qd);obtain⟨V,eV⟩:=Ai (Cf wE l);rw[eV] at cm fc HVS HVN HVE;rw[el] at cm eV;simp only[Cf,List.foldl] at eV;rw[eV];simp only[List.foldl,List.setIfInBounds_toArray,List.set_cons_zero,List.set_cons_succ] at cm;have mn:=hid cm;have zw:=hid fc;clear cm fc eV el dr kf kc f10 f11 f12 f13 f14 f15 f16 f17 f18 f19;go_wp2_with fail;go_ret;rw[← eQ];exact⟨zw.o,h,R7,rfl,_,_,_,HBLD.o,[.slice sa ss.length c1,.slice ta ts.length c2,I n,.slice (p_ xg) s'.T.length xp,.slice X9 s'.R.length X8,vmv,vkv,.slice na s'.ran.length nc,.slice ea s'.held.length ec,.bool false],_,rfl,mn.o,Or.inl ⟨⟨dc,dt,dl⟩,_,_,_,_,rfl,rfl,HVS.o,HVN.o,HVE.o,fun b q=>⟨(ks.o.tk b q).2.1,(ks.o.tk b q).2.2⟩,ks.o.ne⟩⟩
  have HBLD:=hid bi;have fu:=hid bz;have HD:=hid py;clear bi bz py;have HQ5:=hid (fu.o.blk HQ.o (HS.o.notB HQ.o qd qd qd qd));have zn:=hid (HW.o.trans fu.o.bel)
  go_upto_region 3 with fail
  obtain⟨RR,eRR⟩:=Ai w5.heap.size;obtain⟨w6,e6⟩:=Ai (w5.alloc (.cells #[I (Jq b),ze,nS] 105));have ci:Bw w5 w6:=qav;rw[e6]
  try rw[eRR]
  clear e6;have HD6:=hid (HD.o.frx ci);have HQ6:=hid (Ae HQ5.o ci);have S9:=hid (zn.o.trans (ci.mono (zn.o.size)));clear ci HQ5 zn HD;obtain⟨k9,Y0,hhl⟩:=HD6.o.cells;obtain⟨q0,q1,q2⟩:=Bb HQ6.o;go_wp2_with fail;clear k9 Y0 q0 q1 q2;refine(HCPY.o w6 S9.o).mono ?_;rintro e w7 ⟨co,tx2,qv2,rfl,mr⟩;obtain⟨g2,p2,e1⟩:=mr.txa;subst e1;obtain⟨X9,X8,e2⟩:∃ a cap,qv2=.slice a R.length cap:=by obtain⟨ys,cv,lv,r⟩:=mr.rcs;exact Aw r.row
  subst e2;obtain⟨pre,ee,dy,hpk,hpe,_⟩:=HD6.o;obtain⟨a0,a1,a2,a3,a4,a5,a6,a7,a8,ep⟩:=len9 dy;obtain⟨x,y,cv,A,B',ee2,pe⟩:=hpe.shape;subst ep;subst ee2;have hk7:=Ae hpk co;simp only[List.cons_append,List.nil_append] at hk7 hpk
  have HPE:Hd (Jb w.heap.size w7 b [x,y,cv,I 0,nS,nS,nS,nS,A,B']):=by
    have:=HD6.o.frx co;clear this
    cases b with
    | circle ch=>obtain⟨cv,a,b⟩:=hpe;exact⟨cv,Ac a co,b⟩
    | deep nm=>exact hpe
    | clash A B=>exact hpe
    | full=>exact hpe
  have HW7:=hid (S9.o.trans (co.mono S9.o.size));have HCL:=hid pe;have HSM2:=hid mr;have HK7:=hid hk7;have hw6:=S9.o.size;clear hpe hpk dy mr co pe hk7;obtain⟨l,el⟩:∃ l:List (Nat × Nat × Value),l=[(h,13,I n),(h,14,.slice (p_ g2) T.length p2),(h,15,.slice X9 R.length X8)]:=⟨_,rfl⟩;have dr:∀ x∈l,x.1=h:=qab;have cm:=Ds l w7 _ dr HK7.o;have fc:Bw w (Cf w7 l):=Br l w7 HW7.o (fun x hx=>by rw[dr x hx];exact R7);have HVS:=hid (HSM2.o.setL dr HK7.o);have HVE:=hid (HPE.o.setL dr HK7.o);obtain⟨V,eV⟩:=Ai (Cf w7 l);rw[eV] at cm fc HVS HVE;rw[el] at cm eV;simp only[Cf,List.foldl] at eV;simp only[List.foldl,List.setIfInBounds_toArray,List.set_cons_zero,List.set_cons_succ] at cm;have mn:=hid cm;have zw:=hid fc;clear cm fc el dr;have k13:=cK HK7.o 13;have k14:=cK HK7.o 14;have k15:=cK HK7.o 15;have kf:=fZ HK7.o;go_wp2_with fail
  try rw[eV]
  go_ret;rw[← eQ];exact⟨zw.o,h,R7,rfl,_,_,_,HBLD.o,[a0,a1,a2,a3,a4,a5,a6,a7,a8,.bool true],_,rfl,mn.o,Or.inr ⟨b,x,y,cv,_,_,A,B',rfl,HVE.o,rfl,HVS.o.base hw6,fun c q1 q2=>by have:=HCL.o c q1;have:=(HSM2.o.txt.lt c q2).1;omega⟩⟩
theorem Uc (g:G3) (n:Nat) (w:World) (h8:n<=8) (hn:g.name.size<=maxLen) (hs:g.sum.size<=maxLen) :
    Calls prog 64 #[.agg #[.string g.name,.bool g.ask,.string g.sum],I n] w fun e w'=>Bw w w'/\∃ b,e=.returned (.bool b)/\(b=true↔Na n g):=by
  unfold maxLen at hn hs;have ak:Bw w (w.alloc (.cells #[.string g.name,.bool g.ask,.string g.sum] 125)):=aN _ _
  by_cases h1:Am g.name
  · have e1:=Cu h1
    by_cases h2:g.sum.size=n
    · have d2:((g.sum.size:Int) == (n:Int))=true:=qh
      have HH:Hd (Na n g):=⟨h1,h2⟩;clear h2;go_enter func64,ntmps64
      go_wp2_with (first|(go_at_call 23;refine(Bx g.name _ hn).mono ?_;rintro e w9 ⟨rfl,rfl⟩;rw[e1]))
      go_ret;exact⟨ak,true,rfl,Fy HH.o⟩
    · have d2:((g.sum.size:Int) == (n:Int))=false:=qh
      have HH:Hd (¬ Na n g):=fun h=>h2 h.2;clear h2;exact qjd
  · have e1:=Ck h1
    have HH:Hd (¬ Na n g):=fun h=>h1 h.1;exact qjd
theorem Ub (a la:Option Addr) (cap lc:Nat) (is:List I3) (gs:List G3) (out:By) (n:Nat) (w:World) (h8:n<=8) (h:RcIn w a is la gs) (ho:out.size<=maxLen) :
    Calls prog 46 #[.agg #[.slice a is.length cap,.slice la gs.length lc,.string out],I n] w fun e w'=>Bw w w'/\∃ b,e=.returned (.bool b)/\(b=true↔Il n ⟨is,gs,out⟩):=by
  have ak:Bw w (w.alloc (.cells #[.slice a is.length cap,.slice la gs.length lc,.string out] 97)):=aN _ _;have k1:(w.alloc (.cells #[.slice a is.length cap,.slice la gs.length lc,.string out] 97)).cell? ⟨w.heap.size,1,none⟩=some (.slice la gs.length lc):=qk;have k2:(w.alloc (.cells #[.slice a is.length cap,.slice la gs.length lc,.string out] 97)).cell? ⟨w.heap.size,2,none⟩=some (.string out):=qk;unfold maxLen at ho;have hlg:=h.lg;have HRG:=hid h.rg;have HNG:=hid h.ng;have wa:=hid h.sg;obtain⟨v,ev⟩:=Ai (Au is);have EV:=hid ev;go_enter func46,ntmps46;go_wp2_with fail;refine(Ht a cap is _ (h.rc.bl ak) h.lc h.xc).mono ?_;rintro e w1 ⟨af,rfl⟩;rw[ev];have bg:=bt ak af;have P7:=Aa af k1;have P5:=Aa af k2;clear ak af k1 k2 h ev;cases v
  · exact qls
  · by_cases h2:out.size=n
    · have d2:((out.size:Int) != (n:Int))=false:=qh
      have H2:=hid h2;clear h2
      by_cases h3:200<gs.length
      · exact qjm
      · have d3:decide ((200:Int)<(gs.length:Int))=false:=qh
        go_wp2
        go_loopw [5] (fun i wr=>∃ k:Nat,k<=gs.length/\i=I k/\Hd (∀ i,i<k->Na n (gx gs i))/\wr.cell? ⟨w.heap.size,1,none⟩=some (.slice la gs.length lc)/\Bw w wr) (fun i _=>gs.length-(intOf i).toNat)
        case atStart=>exact⟨0,Nat.zero_le _,rfl,(fun i hi=>by omega:∀ i,i<0->Na n (gx gs i)),P7,bg⟩
        case round=>
          obtain⟨k,hk,rfl,HK,hx,bc⟩:=hrel
          by_cases aj:k<gs.length
          · obtain⟨b,off,rfl,c1,c2,c3⟩:=(HRG.o.bl bc) k aj
            have R5:=HNG.o k;have fx:=wa.o k;have HG1:Hd (Na n (gx gs k)->∀ i,i<k+1->Na n (gx gs i)):=fun hg=>Cp HK.o hg;have U6:Hd (¬ Na n (gx gs k)->¬ Il n ⟨is,gs,out⟩):=fun hg h=>hg (h.2.2.2 k aj);generalize gx gs k=g at *;clear P7 P5;go_wp2_with fail;refine(Uc g n _ h8 R5 fx).mono ?_;rintro e w2 ⟨ag,b,rfl,hb⟩;have hx2:=Aa ag hx
            rcases Un hb with ⟨hg,rfl⟩|⟨hg,rfl⟩
            · have HO:=hid (HG1.o hg)
              clear hb hg;go_wp2;go_roundw
              case rel=>exact⟨k+1,qb,qj,HO.o,hx2,bt bc ag⟩
              case measure=>simp[intOf];omega
            · have HO:=hid (U6.o hg)
              clear hb hg;go_wp2;go_ret;exact⟨bt bc ag,false,rfl,Dy HO.o⟩
          · have HO:Hd (Il n ⟨is,gs,out⟩):=⟨EV.o,H2.o,by show gs.length<=200;omega,fun i hi=>HK.o i (by simp only at hi;omega)⟩
            go_wp2;exact qfs
    · exact qko
theorem Qck {l:List By} (h:∀ j,1<=j->j<k->Ar (nx l (j-1)) (nx l j)=true) (hk:k=0\/Ar (nx l (k-1)) (nx l k)=true):∀ j,1<=j->j<k+1->Ar (nx l (j-1)) (nx l j)=true:=by
  intro j h1 h2
  rcases Nat.lt_or_ge j k with h3|h3
  · exact h j h1 h3
  · obtain rfl:j=k:=qb
    rcases hk with hk|hk
    · omega
    · exact hk
theorem Pa (n:Int) (ta ra:Option Addr) (tc rc:Nat) (ts:List By) (rs:List T3) (w:World) (hl:ts.length<=1048576) (Io:rs.length<=1048576) (hn:¬ (1<=n/\n<=8)\/5000<ts.length\/2000<rs.length) :
    Calls prog 21 #[.agg #[I n,.slice ta ts.length tc,.slice ra rs.length rc]] w fun e w'=>Bw w w'/\e=.returned (.bool false):=by
  have ak:Bw w (w.alloc (.cells #[I n,.slice ta ts.length tc,.slice ra rs.length rc] 34)):=aN _ _
  by_cases h1:1<=n/\n<=8
  · by_cases h2:5000<ts.length
    · have d1:decide ((5000:Int)<(ts.length:Int))=true:=qh
      exact qjl
    · have d1:decide ((5000:Int)<(ts.length:Int))=false:=qh
      have d2:decide ((2000:Int)<(rs.length:Int))=true:=qh;exact qjl
  · have hn':n<1\/8<n:=qb
    go_enter func21,ntmps21
    go_wp2_with (first|(go_at_call 44;refine(l1Width_no _ _ hn').mono ?_;rintro e w9 ⟨rfl,rfl⟩))
    go_ret;exact⟨ak,rfl⟩
theorem Oe (n:Nat) (ta ra:Option Addr) (tc rc:Nat) (ts:List By) (rs:List T3) (w:World) (h1:1<=n) (h8:n<=8) (hl5:ts.length<=5000) (Io:rs.length<=2000) (h:Oq w ta ts ra rs) :
    Calls prog 21 #[.agg #[I n,.slice ta ts.length tc,.slice ra rs.length rc]] w fun e w'=>Bw w w'/\∃ b,e=.returned (.bool b)/\(b=true↔Js n ts rs):=by
  have ak:Bw w (w.alloc (.cells #[I n,.slice ta ts.length tc,.slice ra rs.length rc] 34)):=aN _ _;have x0:(w.alloc (.cells #[I n,.slice ta ts.length tc,.slice ra rs.length rc] 34)).cell? ⟨w.heap.size,0,none⟩=some (I n):=qk;have x1:(w.alloc (.cells #[I n,.slice ta ts.length tc,.slice ra rs.length rc] 34)).cell? ⟨w.heap.size,1,none⟩=some (.slice ta ts.length tc):=qk;have x2:(w.alloc (.cells #[I n,.slice ta ts.length tc,.slice ra rs.length rc] 34)).cell? ⟨w.heap.size,2,none⟩=some (.slice ra rs.length rc):=qk;have HI:Hd (Oq w ta ts ra rs):=h;obtain⟨ss,ess⟩:∃ ss,ts.map (Ap n)=ss:=⟨_,rfl⟩;have pp:Hd (ss.length=ts.length):=by show ss.length=ts.length;rw[<- ess,List.length_map]
  have ph:Hd (∀ i,i<ts.length->nx ss i=Ap n (nx ts i)):=fun i h=>by rw[<- ess];exact Gp n ts i h
  have HAS:Hd (Gf ss↔Gf (ts.map (Ap n))):=by show Gf ss↔_;rw[ess]
  have d1:decide ((5000:Int)<(ts.length:Int))=false:=qh;have d2:decide ((2000:Int)<(rs.length:Int))=false:=qh;clear h ess;go_enter func21,ntmps21
  go_wp2_with (first|(go_at_call 44;refine(Jz _ _ qb qb).mono ?_;rintro e w9 ⟨rfl,rfl⟩))
  go_loopw [3,4] (fun v i wr=>∃(k:Nat) (bf:By),k<=ts.length/\i=I k/\v=.string bf/\Hd (k=0\/bf=nx ss (k-1))/\Hd (∀ i,i<k->(nx ts i).size<=2002)/\Hd (∀ j,1<=j->j<k->Ar (nx ss (j-1)) (nx ss j)=true)/\wr.cell? ⟨w.heap.size,0,none⟩=some (I n)/\wr.cell? ⟨w.heap.size,1,none⟩=some (.slice ta ts.length tc)/\wr.cell? ⟨w.heap.size,2,none⟩=some (.slice ra rs.length rc)/\Bw w wr) (fun _ i _=>ts.length-(intOf i).toNat)
  case atStart=>exact⟨0,⟨#[]⟩,Nat.zero_le _,rfl,rfl,Or.inl rfl,(fun i hi=>by omega:∀ i,i<0->(nx ts i).size<=2002),(fun j h1 h2=>by omega:∀ j,1<=j->j<0->Ar (nx ss (j-1)) (nx ss j)=true),x0,x1,x2,ak⟩
  case round=>
    obtain⟨k,bf,hk,rfl,rfl,HBF,HK,HA,y0,y1,y2,bc⟩:=hrel;clear x0 x1 x2 ak;have bu:Bw wr wr.drew:=(Below.refl _ _).drew
    by_cases aj:k<ts.length
    · obtain⟨b,off,rfl,c1⟩:=(HI.o.st.bl bc) k aj
      replace c1:wr.cell? ⟨b,off+k,none⟩=some (.string (nx ts k)):=c1;have fx:=HI.o.xt k;have HX:Hd (nx ss k=Ap n (nx ts k)):=ph.o k aj;have je:(k:Int)<(ts.length:Int):=qb;have jm:(0:Int)<=(k:Int):=qb
      by_cases h3:2002<(nx ts k).size
      · have HN:Hd (¬ Js n ts rs):=fun h=>by have:=h.1.2.1 k aj;omega
        exact qjh
      · have d6:Hd (∀ i,i<k+1->(nx ts i).size<=2002):=Cp HK.o qb
        generalize nx ts k=x at *;have d3:decide ((2002:Int)<(x.size:Int))=false:=qh;have hx0:x.size<=1048576:=qb;unfold maxLen at fx;obtain⟨q,eq⟩:∃ q,Ap n x=q:=⟨_,rfl⟩;have po:Hd (∀ W:World,Calls prog 45 #[.string x,I n] W fun e w'=>e=.returned (.string q)/\Bw W w'):=fun W=>qgk;(have HQ:Hd (nx ss k=q):=by show nx ss k=q;rw[HX.o,eq]);clear eq;go_wp2_with fail
        go_region_held3 (fun w'=>(w'.cell? ⟨w.heap.size,0,none⟩=some (I n)/\w'.cell? ⟨w.heap.size,1,none⟩=some (.slice (some ⟨b,off,none⟩) ts.length tc)/\w'.cell? ⟨w.heap.size,2,none⟩=some (.slice ra rs.length rc))/\w'.cell? ⟨b,off+k,none⟩=some (.string x))
          (first|assumption|(simp[*];done)|exact⟨⟨Aa ag qo,Aa ag qo,Aa ag qo⟩,Aa ag qo⟩)
          (first|(go_at_call 45;refine(po.o _).mono ?_;rintro e w2 ⟨rfl,ag⟩))
        all_goals
          have z0:=Aa ag (Aa bu y0);have z1:=Aa ag (Aa bu y1);have z2:=Aa ag (Aa bu y2);have be:=bt bc (bt bu ag);clear y0 y1 y2 c1
          by_cases ce:k=0
          · have dk:decide (0<k)=false:=qh
            have HA1:Hd (∀ j,1<=j->j<k+1->Ar (nx ss (j-1)) (nx ss j)=true):=Qck HA.o (Or.inl ce);clear ce;exact qiy
          · have dk:decide (0<k)=true:=qh
            (have HBE:Hd (nx ss (k-1)=bf):=by rcases HBF.o with h|h;exact absurd h ce;exact h.symm);obtain⟨v,hv⟩:∃ v,Ar bf q=v:=⟨_,rfl⟩;(have HV:Hd (Ar (nx ss (k-1)) (nx ss k)=v):=by show Ar (nx ss (k-1)) (nx ss k)=v;rw[HBE.o,HQ.o];exact hv);unfold Ar at hv;have HK1':Hd (k≠0):=ce;clear ce;cases v
            · have HN:Hd (¬ Js n ts rs):=fun h=>by
                have h3:=(HAS.o.mpr h.1.2.2) k (by have:=HK1'.o;omega) (by have:=pp.o;omega);rw[HV.o] at h3;cases h3
              go_wp2_with fail;go_ret;exact⟨be,false,rfl,Dy HN.o⟩
            · have HA1:Hd (∀ j,1<=j->j<k+1->Ar (nx ss (j-1)) (nx ss j)=true):=Qck HA.o (Or.inr HV.o)
              exact qiy
    · have tj:Hd (Uo n ts):=⟨hl5,fun i hi=>HK.o i qb,HAS.o.mp (fun j hj1 hj2=>HA.o j hj1 (by have:=pp.o;omega))⟩
      clear HK HA HBF;go_wp2_with fail
      go_loopw [6] (fun i wq=>∃(m:Nat),m<=rs.length/\i=I m/\Hd (∀ i,i<m->Il n (qx rs i))/\wq.cell? ⟨w.heap.size,0,none⟩=some (I n)/\wq.cell? ⟨w.heap.size,2,none⟩=some (.slice ra rs.length rc)/\Bw w wq) (fun i _=>rs.length-(intOf i).toNat)
      case atStart=>exact⟨0,Nat.zero_le _,rfl,(fun i hi=>by omega:∀ i,i<0->Il n (qx rs i)),y0,y2,bc⟩
      case round=>
        clear y0 y1 y2 bc bu;obtain⟨m,hm,rfl,HK,y0,y2,bc⟩:=hrel
        by_cases Z6:m<rs.length
        · have hq:=HI.o.qs.bl bc
          obtain⟨b,off,rfl,ca,cc,la,lc,c1,c2,c3,c4,c5⟩:=hq.rq m Z6;have mw:RcIn _ ca (qx rs m).code la (qx rs m).looks:=⟨c4,c5,(hq.sm.2 m Z6).1,(hq.sm.2 m Z6).2,hq.ok.xc m,hq.ok.ng m,hq.ok.sg m⟩;have hou:=hq.ok.so m;have HG1:Hd (Il n (qx rs m)->∀ i,i<m+1->Il n (qx rs i)):=fun hg=>Cp HK.o hg;have U6:Hd (¬ Il n (qx rs m)->¬ Js n ts rs):=fun hg h=>hg (h.2.2 m Z6);clear hq c4 c5;generalize qx rs m=x at *;obtain⟨xc,xl,xo⟩:=x;simp only at *;have je:(m:Int)<(rs.length:Int):=qb;have jm:(0:Int)<=(m:Int):=qb;have oh:Hd (∀ W:World,Bw wr W->Calls prog 46 #[.agg #[.slice ca xc.length cc,.slice la xl.length lc,.string xo],I n] W fun e w'=>Bw W w'/\∃ b,e=.returned (.bool b)/\(b=true↔Il n ⟨xc,xl,xo⟩)):=fun W hW=>Ub ca la cc lc xc xl xo n W h8 ⟨mw.rc.bl hW,mw.rg.bl hW,mw.lc,mw.lg,mw.xc,mw.ng,mw.sg⟩ hou;clear mw
          by_cases hx:Il n ⟨xc,xl,xo⟩
          · have HO:Hd (∀ i,i<m+1->Il n (qx rs i)):=HG1.o hx
            have og:Hd (∀ W:World,Bw wr W->Calls prog 46 #[.agg #[.slice ca xc.length cc,.slice la xl.length lc,.string xo],I n] W fun e w'=>Bw W w'/\e=.returned (.bool true)):=fun W hW=>(oh.o W hW).mono (fun e w' ⟨h1,b,h2,h3⟩=>⟨h1,by rw[h2];rcases Un h3 with ⟨hg,rfl⟩|⟨hg,rfl⟩<;>first|rfl|exact absurd hx hg|exact absurd hg hx⟩);clear oh;have bu:Bw wr wr.drew:=(Below.refl _ _).drew;go_wp2_with fail
            go_region_held3 (fun w'=>(w'.cell? ⟨w.heap.size,0,none⟩=some (I n)/\w'.cell? ⟨w.heap.size,2,none⟩=some (.slice (some ⟨b,off,none⟩) rs.length rc))/\(w'.cell? ⟨b,off+m*3,none⟩=some (.slice ca xc.length cc)/\w'.cell? ⟨b,off+m*3+1,none⟩=some (.slice la xl.length lc)/\w'.cell? ⟨b,off+m*3+2,none⟩=some (.string xo)))
              (first|assumption|(simp[*];done)|exact⟨⟨Aa ag qo,Aa ag qo⟩,Aa ag qo,Aa ag qo,Aa ag qo⟩)
              (first|(go_at_call 46;refine(og.o _ bu).mono ?_;rintro e w2 ⟨ag,rfl⟩))
            all_goals
              have z0:=Aa ag (Aa bu y0);have z2:=Aa ag (Aa bu y2);have be:=bt bc (bt bu ag);clear y0 y2 c1 c2 c3;go_wp2_with fail;go_roundw
              case rel=>exact⟨m+1,qb,qj,HO.o,z0,z2,be⟩
              case measure=>simp[intOf];omega
          · have HO:Hd (¬ Js n ts rs):=U6.o hx
            have og:Hd (∀ W:World,Bw wr W->Calls prog 46 #[.agg #[.slice ca xc.length cc,.slice la xl.length lc,.string xo],I n] W fun e w'=>Bw W w'/\e=.returned (.bool false)):=fun W hW=>(oh.o W hW).mono (fun e w' ⟨h1,b,h2,h3⟩=>⟨h1,by rw[h2];rcases Un h3 with ⟨hg,rfl⟩|⟨hg,rfl⟩<;>first|rfl|exact absurd hx hg|exact absurd hg hx⟩);clear oh;have bu:Bw wr wr.drew:=(Below.refl _ _).drew;go_wp2_with fail
            go_region_held3 (fun w'=>(w'.cell? ⟨w.heap.size,0,none⟩=some (I n)/\w'.cell? ⟨w.heap.size,2,none⟩=some (.slice (some ⟨b,off,none⟩) rs.length rc))/\(w'.cell? ⟨b,off+m*3,none⟩=some (.slice ca xc.length cc)/\w'.cell? ⟨b,off+m*3+1,none⟩=some (.slice la xl.length lc)/\w'.cell? ⟨b,off+m*3+2,none⟩=some (.string xo)))
              (first|assumption|(simp[*];done)|exact⟨⟨Aa ag qo,Aa ag qo⟩,Aa ag qo,Aa ag qo,Aa ag qo⟩)
              (first|(go_at_call 46;refine(og.o _ bu).mono ?_;rintro e w2 ⟨ag,rfl⟩))
            all_goals
              have z0:=Aa ag (Aa bu y0);have z2:=Aa ag (Aa bu y2);have be:=bt bc (bt bu ag);clear y0 y2 c1 c2 c3;go_wp2_with fail;go_ret;exact⟨be,false,rfl,Dy HO.o⟩
        · have HO:Hd (Js n ts rs):=⟨tj.o,Io,fun i hi=>HK.o i qb⟩
          go_wp2_with fail;exact qfs
structure Zq (w:World) (ta:Option Addr) (ts:List By) (ra:Option Addr) (rs:List T3):Prop where
  st:Cv w ta ts
  lt:ts.length<=maxLen
  xt:∀ s∈ts,s.size<=maxLen
  rq:Lx w ra rs
  ok:QsOk rs
theorem Zq.bl {ta ra:Option Addr} (h:Zq w ta ts ra rs) (hb:Bw w w'):Zq w' ta ts ra rs:=⟨h.st.bl hb,h.lt,h.xt,h.rq.bl hb,h.ok⟩
theorem Jh (n:Int) (ta ra:Option Addr) (tc rc:Nat) (ts:List By) (rs:List T3) (w:World) (h:Oq w ta ts ra rs) :
    Calls prog 21 #[.agg #[I n,.slice ta ts.length tc,.slice ra rs.length rc]] w fun e w'=>Bw w w'/\∃ b,e=.returned (.bool b)/\(b=true↔Kx n ts rs):=by
  by_cases hc:(1<=n/\n<=8)/\ts.length<=5000/\rs.length<=2000
  · obtain⟨m,rfl⟩:=Int.eq_ofNat_of_zero_le (show 0<=n from qb)
    refine(Oe m ta ra tc rc ts rs w qb qb hc.2.1 hc.2.2 h).mono fun e w' ⟨h1,b,h2,h3⟩=>⟨h1,b,h2,?_⟩;rw[h3];exact⟨fun k=>⟨hc.1.1,hc.1.2,k⟩,fun k=>k.2.2⟩
  · refine(Pa n ta ra tc rc ts rs w h.lt h.qs.sm.1 qb).mono fun e w' ⟨h1,h2⟩=>⟨h1,false,h2,Dy (fun k=>hc ⟨⟨k.1,k.2.1⟩,k.2.2.1.1,k.2.2.2.1⟩)⟩
theorem sto_cp (h:Js n T R):T.length<=1048576/\R.length<=2000/\∀ i,i<R.length→1 ≤ (qx R i).code.length∧(qx R i).code.length ≤ 1048576∧(qx R i).looks.length ≤ 1048576:=
  ⟨by have:=h.1.1;omega,h.2.1,fun i hi=>by obtain⟨a,_,b,_⟩:=h.2.2 i hi;have:=Dh a;omega⟩
theorem copy_own {tx:Value} {V:World} (hs:Fs V B tx qv T R) (ho:Js n T R):Calls prog 24 #[.agg #[I n,tx,qv]] V fun e w'=>Bw V w'/\∃ g p qa qc,e=.returned (.agg #[I n,.slice (p_ g) T.length p,.slice qa R.length qc])/\Fs w' V.heap.size (.slice (p_ g) T.length p) (.slice qa R.length qc) T R:=by
  obtain⟨g,p,rfl⟩:=hs.txa;obtain⟨qa,qc,e⟩:∃ a cap,qv=.slice a R.length cap:=by obtain⟨ys,cv,lv,r⟩:=hs.rcs;exact Aw r.row
  subst e;have h3:=sto_cp ho
  have cz:Cv V (p_ g) T:=by
    obtain⟨a,cap,q,r⟩:=Dq.sl (w:=V) (lo:=B) (hi:=V.heap.size) (ts:=T) ⟨hs.txt,fun b q=>(hs.txt.lt b q).2⟩;cases q;exact r
  refine(Oj n g 0 p qa qc T R V cz (hs.rcs.rowW (fun i hi=>(h3.2.2 i hi).1)) h3.1 (zo h3.2.1) (fun i hi=>(h3.2.2 i hi).2)).mono ?_;rintro e w' ⟨a1,g1,p1,v2,rfl,a2,a3⟩;have hr:=a3.recO;obtain⟨qa,qc,e⟩:∃ a cap,v2=.slice a R.length cap:=by obtain⟨ys,cv,lv,r⟩:=hr;exact Aw r.row
  subst e;exact⟨a1,_,_,_,_,rfl,a2.own,⟨g1,p1,rfl⟩,hr⟩
def Ot (B n:Nat) (ss:List S2) (ts:List T2) (T:List By) (R:List T3) (nm:By) (e:Ending) (w':World):Prop:=
  ∃ ms' s' a,Bc ss ts n [] ⟨T,R,[],[]⟩ [] (.make nm) ms' s' a/\
   ((∃ d tx qv nv ev,a=.ok d/\e=.returned (.agg #[I d.c,.string d.t,nS,I n,tx,qv,nv,ev,ze,ze])/\Fs w' B tx qv s'.T s'.R/\w'.ownsRow B 9 1 nv s'.ran.length (Ax s'.ran)/\w'.ownsRow B 9 1 ev s'.held.length (Ax s'.held))\/
    (∃ b x y cv tx qv A B',a=.bad b/\Jb B w' b [x,y,cv,I 0,nS,nS,nS,nS,A,B']/\e=.returned (.agg #[x,y,cv,I n,tx,qv,nS,nS,A,B'])/\Fs w' B tx qv T R))
theorem Fq {pre ee:List Value} (dy:pre.length=10) (hk:w.heap[h]?=some (.cells ((pre++ee).toArray) 61 (0,0))) (hj:ee[j]?=some v):w.cell? ⟨h,10+j,none⟩=some v:=by
  rw[cH hk,List.getElem?_toArray,List.getElem?_append_right qb,dy,Nat.add_sub_cancel_left];exact hj
def EndG (B h n:Nat) (w4:World) (P:Ending->World->Prop):Prop:=∃(xc:Int) (yt:By) (ca:Option Addr) (cn cc g p:Nat) (qa:Option Addr) (qc:Nat) (na:Option Addr) (nl nc:Nat) (ea:Option Addr) (el ec:Nat) (At Bt:By) (T':List By) (R':List T3) (pre:List Value),
  pre.length=10/\w4.heap[h]?=some (.cells ((pre++([I xc,.string yt,.slice ca cn cc,I n,.slice (p_ g) T'.length p,.slice qa R'.length qc,.slice na nl nc,.slice ea el ec,.string At,.string Bt]:List Value)).toArray) 61 (0,0))/\Fs w4 B (.slice (p_ g) T'.length p) (.slice qa R'.length qc) T' R'/\Js n T' R'/\
  ∀(w':World) (tx qv:Value),Bw w4 w'->Fs w' B tx qv T' R'->P (.returned (.agg #[I xc,.string yt,.slice ca cn cc,I n,tx,qv,.slice na nl nc,.slice ea el ec,.string At,.string Bt])) w'
theorem Ot.gen {ts:List T2} {w4:World} (hv:SpV ss ts) (ft:Js n T R) (cr:Am nm) (Q2:WorkE B h n ss ts T R nm w4):EndG B h n w4 (Ot B n ss ts T R nm):=by
  obtain⟨ms',s',a,bi,pre,ee,dy,hk,⟨d,tx,qv,nv,ev,rfl,rfl,hs,hn,he,_,_⟩|⟨b,x,y,cv,tx,qv,A,B',rfl,he,rfl,hs,_⟩⟩:=Q2
  · obtain⟨g,p,e1⟩:=hs.txa
    subst e1;(obtain⟨qa,qc,e2⟩:∃ a cap,qv=.slice a s'.R.length cap:=by obtain⟨ys,cv,lv,r⟩:=hs.rcs;exact Aw r.row);subst e2;obtain⟨na,nc,e3⟩:=Aw hn;subst e3;obtain⟨ea,ec,e4⟩:=Aw he;subst e4;obtain⟨_,i2,_,_⟩:=Bc.inv hv bi (Fv.nil ss ts) ft cr (fun b q=>qw);exact⟨_,_,_,_,_,g,p,qa,qc,na,_,nc,ea,_,ec,_,_,s'.T,s'.R,pre,dy,hk,hs,i2,fun w' tx qv hb h2=>⟨ms',s',_,bi,Or.inl ⟨d,tx,qv,_,_,rfl,rfl,h2,Ac hn hb,Ac he hb⟩⟩⟩
  · obtain⟨g,p,e1⟩:=hs.txa
    subst e1;(obtain⟨qa,qc,e2⟩:∃ a cap,qv=.slice a R.length cap:=by obtain⟨ys,cv,lv,r⟩:=hs.rcs;exact Aw r.row);subst e2
    have heb:∀ w',Bw w4 w'->Jb B w' b [x,y,cv,I 0,nS,nS,nS,nS,A,B']:=fun w' hb=>by
      cases b with
      | circle ch=>obtain⟨cv,a,b⟩:=he;exact⟨cv,Ac a hb,b⟩
      | deep nm=>exact he
      | clash A B=>exact he
      | full=>exact he
    have hform:∃ xc yt ca cn cc At Bt,x=I xc/\y=.string yt/\cv=.slice ca cn cc/\A=.string At/\B'=.string Bt:=by
      cases b with
      | circle ch=>
        obtain⟨cv2,k,q⟩:=he;obtain⟨ca,cc,e3⟩:=Aw k;simp only[List.cons.injEq] at q;obtain⟨q1,q2,q3,_,_,_,_,_,q4,q5,_⟩:=q;exact⟨_,_,ca,_,cc,_,_,q1,q2,q3.trans e3,q4,q5⟩
      | deep nm=>have q:_=_:=he;simp only[List.cons.injEq] at q;obtain⟨q1,q2,q3,_,_,_,_,_,q4,q5,_⟩:=q;exact⟨_,_,_,_,_,_,_,q1,q2,q3,q4,q5⟩
      | clash A B=>have q:_=_:=he;simp only[List.cons.injEq] at q;obtain⟨q1,q2,q3,_,_,_,_,_,q4,q5,_⟩:=q;exact⟨_,_,_,_,_,_,_,q1,q2,q3,q4,q5⟩
      | full=>have q:_=_:=he;simp only[List.cons.injEq] at q;obtain⟨q1,q2,q3,_,_,_,_,_,q4,q5,_⟩:=q;exact⟨_,_,_,_,_,_,_,q1,q2,q3,q4,q5⟩
    obtain⟨xc,yt,ca,cn,cc,At,Bt,rfl,rfl,rfl,rfl,rfl⟩:=hform;exact⟨xc,yt,ca,cn,cc,g,p,qa,qc,none,0,0,none,0,0,At,Bt,T,R,pre,dy,hk,hs,ft,fun w' tx qv hb h2=>⟨ms',s',_,bi,Or.inr ⟨b,_,_,_,tx,qv,_,_,rfl,heb w' hb,rfl,h2⟩⟩⟩
theorem Dw {U:Nat} (ho:w.ownsRow B e sz u n xs) (hh:∀ x∈l,x.1=h) (hk:w.heap[h]?=some (.cells cs U (0,0))) (he:U≠e):(Cf w l).ownsRow B e sz u n xs:=Aj ho fun b q=>Gm l w fun x hx r=>Ad ho he hk (by rw[← hh x hx,← r];exact q)
theorem Fs.setU {tx:Value} (k:Fs w B tx qv T R) (hh:∀ x∈l,x.1=h) (hk:w.heap[h]?=some (.cells cs 36 (0,0))):Fs (Go.Proofs.YtfgoholldpeabaaGreatDoor.Cf w l) B tx qv T R:=by
  obtain⟨xs,cv,lv,r⟩:=k.rcs;exact⟨Dw k.txt hh hk qd,k.txa,xs,cv,lv,Dw r.row hh hk qd,r.fil,fun i hi=>by obtain⟨ys,a,b⟩:=r.code i hi;exact⟨ys,Dw a hh hk qd,b⟩,fun i hi=>by obtain⟨ys,a,b⟩:=r.look i hi;exact⟨ys,Dw a hh hk qd,b⟩,r.apc,r.apl⟩
theorem Ot.setU {B0:Nat} {ts:List T2} {e:Ending} (k:Ot B n ss ts T R nm e w) (hB:B0<=B) (hh:∀ x∈l,x.1=h) (hk:w.heap[h]?=some (.cells cs 36 (0,0))):Ot B0 n ss ts T R nm e (Cf w l):=by
  obtain⟨ms',s',a,bi,⟨d,tx,qv,nv,ev,rfl,rfl,hs,hn,he⟩|⟨b,x,y,cv,tx,qv,A,B',rfl,he,rfl,hs⟩⟩:=k
  · exact⟨ms',s',_,bi,Or.inl ⟨d,tx,qv,nv,ev,rfl,rfl,(hs.setU hh hk).base hB,Ah (Dw hn hh hk qd) hB,Ah (Dw he hh hk qd) hB⟩⟩
  · refine⟨ms',s',_,bi,Or.inr ⟨b,x,y,cv,tx,qv,A,B',rfl,?_,rfl,(hs.setU hh hk).base hB⟩⟩
    cases b with
    | circle ch=>obtain⟨cv,a,b⟩:=he;exact⟨cv,Ah (Dw a hh hk qd) hB,b⟩
    | deep nm=>exact he
    | clash A B=>exact he
    | full=>exact he
theorem Vm (n tb:Nat) (qa sa ta:Option Addr) (tc qc c1 c2:Nat) (T:List By) (R:List T3) (ss:List S2) (ts:List T2) (nm:By) (w:World) (hw:Kx n T R) (R9:Hn ss ts=0) (cr:Am nm) (cz:Oq w (p_ tb) T qa R) (hrp:Wh w qa R) (zc:Ll w sa ss ta ts) (mr:Fb ss ts) :
    Calls prog 6 #[.agg #[I n,.slice (p_ tb) T.length tc,.slice qa R.length qc],.agg #[.slice sa ss.length c1,.slice ta ts.length c2],.string nm] w fun e w'=>Bw w w'/\Ot w.heap.size n ss ts T R nm e w':=by
  have h1:1<=n:=zo hw.1;have h8:n<=8:=zo hw.2.1;have hok0:Js n T R:=by have:=hw.2.2;simpa using this
  have yp:=hid hok0;clear hok0;obtain⟨W,eW⟩:=Ai (((w.alloc (.cells #[I n,.slice (p_ tb) T.length tc,.slice qa R.length qc] 34)).alloc (.cells #[.slice sa ss.length c1,.slice ta ts.length c2] 42)).alloc (.cells #[I 0,ze,nS,I 0,nS,nS,nS,nS,ze,ze] 36));have HW:Hd (Bw w W):=by show Below _ _ _;rw[← eW];exact((aN _ _).alloc qg _).alloc qh _
  obtain⟨Q,eQ⟩:=Ai w.heap.size;have HQ:Hd (W.heap[Q]?=some (.cells #[I n,.slice (p_ tb) T.length tc,.slice qa R.length qc] 34 (0,0))):=by show _=_;rw[← eW,← eQ];exact Rt (Rt (Gq _ _))
  have HP:Hd (W.heap[Q+1]?=some (.cells #[.slice sa ss.length c1,.slice ta ts.length c2] 42 (0,0))):=by
    show _=_;rw[← eW,← eQ];have:=Gq (w.alloc (.cells #[I n,.slice (p_ tb) T.length tc,.slice qa R.length qc] 34)) (.cells #[.slice sa ss.length c1,.slice ta ts.length c2] 42);rw[show (w.alloc (.cells #[I n,.slice (p_ tb) T.length tc,.slice qa R.length qc] 34)).heap.size=w.heap.size+1 from qg] at this;exact Rt this
  have HZ:Hd (W.heap[Q+1+1]?=some (.cells #[I 0,ze,nS,I 0,nS,nS,nS,nS,ze,ze] 36 (0,0))):=by
    show _=_;rw[← eW,← eQ];have:=Gq ((w.alloc (.cells #[I n,.slice (p_ tb) T.length tc,.slice qa R.length qc] 34)).alloc (.cells #[.slice sa ss.length c1,.slice ta ts.length c2] 42)) (.cells #[I 0,ze,nS,I 0,nS,nS,nS,nS,ze,ze] 36)
    rwa [show ((w.alloc (.cells #[I n,.slice (p_ tb) T.length tc,.slice qa R.length qc] 34)).alloc (.cells #[.slice sa ss.length c1,.slice ta ts.length c2] 42)).heap.size=w.heap.size+2 from qg] at this
  have HWD:=hid hw;have HCH:=hid R9;have pq:=hid cr;have fj:=hid cz;have HRP:=hid hrp;have HSP:=hid zc;have gv:=hid mr;clear hw R9 cr cz hrp zc mr;obtain⟨q0,q1,q2⟩:=Bb HQ.o;obtain⟨p0,p1⟩:=Fr HP.o;go_enter func6,ntmps6;go_wp2_with fail
  try rw[eQ]
  clear eW q0 q1 q2;refine(Jh n _ _ _ _ T R W (fj.o.bl HW.o)).mono ?_;rintro e w1 ⟨af,b,rfl,hbi⟩;obtain rfl:b=true:=hbi.2 HWD.o;clear hbi;replace HQ:=hid (Ae HQ.o af);replace HP:=hid (Ae HP.o af);replace HZ:=hid (Ae HZ.o af);replace HW:=hid (bt HW.o af);clear af;clear p0 p1;obtain⟨p0,p1⟩:=Fr HP.o;go_wp2_with fail;clear p0 p1;refine(Nu sa ta c1 c2 ss ts w1 (HSP.o.bl HW.o) gv.o).mono ?_;rintro e w2 ⟨ag,rfl⟩;rw[HCH.o];replace HQ:=hid (Ae HQ.o ag);replace HP:=hid (Ae HP.o ag);replace HZ:=hid (Ae HZ.o ag);replace HW:=hid (bt HW.o ag);clear ag;go_wp2_with fail;refine(Bx nm w2 (zo pq.o.2.1)).mono ?_;rintro e w3 ⟨rfl,rfl⟩;rw[Cu pq.o];obtain⟨q0,q1,q2⟩:=Bb HQ.o;obtain⟨p0,p1⟩:=Fr HP.o;go_wp2_with fail;clear q0 q1 q2 p0 p1;refine(l5Work_any sa ta qa c1 c2 n tb tc qc ss ts T R nm w2 (Zn (HSP.o.bl HW.o) HCH.o) h1 h8 (fj.o.st.bl HW.o) (HRP.o.bl HW.o) yp.o pq.o (sto_cp yp.o)).mono ?_;rintro e w4 ⟨cj,h,hh,rfl,Q2⟩;have h24:=HW.o.size;have h24w:=cj.size;replace HQ:=hid (Ae HQ.o cj);replace HP:=hid (Ae HP.o cj);replace HZ:=hid (Ae HZ.o cj);replace HW:=hid (bt HW.o cj);clear cj;have HW4:=HW;have hZlt:=Af HZ.o;obtain⟨xc,yt,ca,cn,cc,g,p,X9,X8,na,nl,nc,ea,el,ec,At,Bt,T',R',pre,dy,hk,hs,ho,hfin⟩:=Ot.gen (Zn HSP.o HCH.o).v yp.o pq.o Q2;have Y0:w4.cell? ⟨h,10,none⟩=some (I xc):=Fq (j:=0) dy hk rfl;have P7:w4.cell? ⟨h,11,none⟩=some (.string yt):=Fq (j:=1) dy hk rfl;have P5:w4.cell? ⟨h,12,none⟩=some (.slice ca cn cc):=Fq (j:=2) dy hk rfl;have k13:w4.cell? ⟨h,13,none⟩=some (I n):=Fq (j:=3) dy hk rfl;have k14:w4.cell? ⟨h,14,none⟩=some ((.slice (p_ g) T'.length p)):=Fq (j:=4) dy hk rfl;have k15:w4.cell? ⟨h,15,none⟩=some ((.slice X9 R'.length X8)):=Fq (j:=5) dy hk rfl;have k16:w4.cell? ⟨h,16,none⟩=some (.slice na nl nc):=Fq (j:=6) dy hk rfl;have k17:w4.cell? ⟨h,17,none⟩=some (.slice ea el ec):=Fq (j:=7) dy hk rfl;have k18:w4.cell? ⟨h,18,none⟩=some (.string At):=Fq (j:=8) dy hk rfl;have k19:w4.cell? ⟨h,19,none⟩=some (.string Bt):=Fq (j:=9) dy hk rfl;have HS:=hid hs;have HO:=hid ho;have HFIN:=hid hfin;clear hs ho hfin Q2 hk dy
  go_upto_region 4 with fail
  clear Y0 P7 P5 k13 k14 k15 k16 k17 k18 k19;obtain⟨RR,eRR⟩:=Ai w4.heap.size;obtain⟨w6,e6⟩:=Ai (w4.alloc (.cells #[I xc,.string yt,.slice ca cn cc,I n,.slice (p_ g) T'.length p,.slice X9 R'.length X8,.slice na nl nc,.slice ea el ec,.string At,.string Bt] 36));have ci:Bw w4 w6:=qav;have iy:Hd (w6.heap[RR]?=some (.cells #[I xc,.string yt,.slice ca cn cc,I n,.slice (p_ g) T'.length p,.slice X9 R'.length X8,.slice na nl nc,.slice ea el ec,.string At,.string Bt] 36 (0,0))):=qbr;rw[e6]
  try rw[eRR]
  clear e6;have zx:=hid ci;replace HS:=hid (HS.o.bl ci);replace HZ:=hid (Ae HZ.o ci);replace HW:=hid (bt HW.o ci);clear ci HQ HP;obtain⟨-,-,-,k3,k4,k5⟩:=Zo iy.o;go_wp2_with fail;clear k3 k4 k5;refine(copy_own HS.o HO.o).mono ?_;rintro e w7 ⟨co,g7,p7,qa7,qc7,rfl,hs7⟩;have X6:=hid (bt zx.o co);replace iy:=hid (Ae iy.o co);replace HZ:=hid (Ae HZ.o co);have h26:=Nat.le_trans h24w zx.o.size;have F7:=hid (hs7.base h26);clear hs7 co;obtain⟨k0,k1,k2,k3,k4,k5,k6,k7,k8,k9⟩:=Fc iy.o;have kf:=fZ iy.o
  go_upto_region 5 with fail
  obtain⟨l,el⟩:∃ l:List (Nat × Nat × Value),l=[(RR,3,I n),(RR,4,.slice (p_ g7) T'.length p7),(RR,5,.slice qa7 R'.length qc7)]:=⟨_,rfl⟩;have dr:∀ x∈l,x.1=RR:=qab;have cm:=Ds l w7 _ dr iy.o;have fc:Bw w4 (Cf w7 l):=Br l w7 X6.o (fun x hx=>qag);have hVS:=F7.o.setU dr iy.o;have hVZ:(Cf w7 l).heap[Q+1+1]?=some (.cells #[I 0,ze,nS,I 0,nS,nS,nS,nS,ze,ze] 36 (0,0)):=(Gm l w7 (fun x hx q=>by rw[dr x hx] at q;omega)).trans HZ.o;obtain⟨A,eA⟩:=Ai (Cf w7 l);rw[eA] at cm fc hVS hVZ;rw[el] at cm eA;simp only[Cf,List.foldl] at eA;rw[eA];simp only[List.foldl,List.setIfInBounds_toArray,List.set_cons_zero,List.set_cons_succ] at cm;have HBR:=hid (HFIN.o A _ _ fc hVS);have HA:=hid cm;have S8:=hid hVZ;have HWA:=hid (HW4.o.trans (fc.mono HW4.o.size));clear cm fc hVS hVZ eA el dr kf k0 k1 k2 k3 k4 k5 k6 k7 k8 k9;have k0:=cK HA.o 0;have z0:=cK S8.o 0;have k1:=cK HA.o 1;have z1:=cK S8.o 1;have k2:=cK HA.o 2;have z2:=cK S8.o 2;have k3:=cK HA.o 3;have z3:=cK S8.o 3;have k4:=cK HA.o 4;have z4:=cK S8.o 4;have k5:=cK HA.o 5;have z5:=cK S8.o 5;have k6:=cK HA.o 6;have z6:=cK S8.o 6;have k7:=cK HA.o 7;have z7:=cK S8.o 7;have k8:=cK HA.o 8;have z8:=cK S8.o 8;have k9:=cK HA.o 9;have z9:=cK S8.o 9;have kf:=fZ S8.o;obtain⟨l,el⟩:∃ l:List (Nat × Nat × Value),l=[(Q+1+1,0,I xc),(Q+1+1,1,.string yt),(Q+1+1,2,.slice ca cn cc),(Q+1+1,3,I n),(Q+1+1,4,(.slice (p_ g7) T'.length p7)),(Q+1+1,5,(.slice qa7 R'.length qc7)),(Q+1+1,6,.slice na nl nc),(Q+1+1,7,.slice ea el ec),(Q+1+1,8,.string At),(Q+1+1,9,.string Bt)]:=⟨_,rfl⟩;have dr:∀ x∈l,x.1=Q+1+1:=qab;have cm:=Ds l A _ dr S8.o;have N5:=HBR.o.setU (show w.heap.size<=w2.heap.size from h24) dr S8.o;have fc:Bw w (Cf A l):=Br l A HWA.o (fun x hx=>qag);obtain⟨V,eV⟩:=Ai (Cf A l);rw[eV] at cm N5 fc;rw[el] at cm eV;simp only[Cf,List.foldl] at eV;simp only[List.foldl,List.setIfInBounds_toArray,List.set_cons_zero,List.set_cons_succ] at cm;have HV:=hid cm;have HBR2:=hid N5;have mn:=hid fc;clear cm N5 fc el dr;go_wp2_with fail
  try rw[eV]
  obtain⟨y0,y1,y2,y3,y4,y5,y6,y7,y8,y9⟩:=Fc HV.o;exact bR (v:=.agg #[I xc,.string yt,.slice ca cn cc,I n,(.slice (p_ g7) T'.length p7),(.slice qa7 R'.length qc7),.slice na nl nc,.slice ea el ec,.string At,.string Bt]) qfu rfl (by first|exact⟨mn.o,HBR2.o⟩|(rw[← eQ];exact⟨mn.o,HBR2.o⟩))
end Go.Proofs.YtfgoholldpeabaaGreatDoor
