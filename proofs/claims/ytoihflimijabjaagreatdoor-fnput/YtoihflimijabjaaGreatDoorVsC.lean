import Derived.Test.YtoihflimijabjaaGreatDoorBas
namespace Go.Proofs.YtoihflimijabjaaGreatDoor
open Value renaming slice->J,string->S,bool->F,agg->G
open Option renaming some->M,none->N
open Obj renaming cells->O
open Go renaming Value->Z,World->E
open Ending renaming returned->H
open _root_ renaming List->L,Nat->X
set_option maxHeartbeats 4000000
set_option maxRecDepth 100000
open _root_.Go.Proofs.Tryz Go.RowKit
set_option linter.unusedVariables false
set_option linter.unusedSimpArgs false
variable {B hi lo' hi' b j k T off:X} {v:Z} {xs zs ys:L Z} {w':E} {ts:L By} {rs is:L T3} {cv lv:X→Z}
theorem Db{w:E}{e sz n:X}(h:w.ownsRow B e sz v n xs)(h1:1≤n):∃g cp,v=J (p_ g) n cp:=by
 rcases Dc h with⟨_,h0⟩|h
 ·omega
 ·exact h
theorem Jo(a:Option Addr)(cap:X)(is:L I3)(w:E)(hc:Dl w a is)(h1:1≤is.length)(hl:is.length≤1048576):Calls prog 66 #[G #[J a is.length cap]] w λe w'=>Bw w w'∧∃g cp,e=H (G #[J (p_ g) is.length cp])∧w'.ownsRow w.heap.size 103 3 (J (p_ g) is.length cp) is.length (Cy is):=by
 obtain⟨i0,hi,bm,bg,bi⟩:=info_parts Tryz.info165b;obtain⟨b,off,rfl,_⟩:=hc 0 qg;have ba:Bw w ((w.alloc (O #[J (M ⟨b,off,N⟩) is.length cap] 53)).alloc (O #[nS] 53)):=(aN _ _).alloc qi _;have ah:Bw w (((w.alloc (O #[J (M ⟨b,off,N⟩) is.length cap] 53)).alloc (O #[nS] 53)).alloc (O #[] 103)):=ba.alloc qj _
 have de:(((w.alloc (O #[J (M ⟨b,off,N⟩) is.length cap] 53)).alloc (O #[nS] 53)).alloc (O #[] 103)).ownsRow (w.heap.size+1+1) 103 3 (J (p_ (w.heap.size+1+1)) 0 0) 0 []:=by
  exact qdw
 have hn:=Lw (hc.bl ah);have HL:Hd ((Cy is).length=is.length*3):=Gc is;have HO:Hd (∀u∈Cy is,u.oneCell'=true):=Nq is;generalize Cy is=xs at *;clear hc ba;go_enter func66,ntmps66
 go_wp2_with (at_builtin;refine wpList_append_own _ rfl (.tmp 3) (.tmp 5) 51 rfl (w.heap.size+1+1) 103 i0 (G #[I 0,ze,I 0]) 3 32 underlying51 hi bm bg bi rfl qh _ 0 [] rfl de ⟨b,off,N⟩ is.length cap xs rfl HL.o hn HO.o qn qg qi ?_;intro v' w2 af ae bn;clear bn;have il:Below (w.heap.size+1+1) (((w.alloc (O #[J (M ⟨b,off,N⟩) is.length cap] 53)).alloc (O #[nS] 53)).alloc (O #[] 103)) w2:=(Below.refl _ _).grown ae qi (λk hk=>(de.lt k hk).1);have c1:w2.cell? ⟨w.heap.size+1,0,N⟩=M nS:=(by rw[il.cell (p:=⟨w.heap.size+1,0,N⟩) qi];simp[go_sem]);have f1:w2.frozen? ⟨w.heap.size+1,0,N⟩=false:=(by rw[il.frozen (p:=⟨w.heap.size+1,0,N⟩) qi];simp[go_sem]);have hB:Bw w w2:=ah.trans (il.mono qg);rw[Nat.zero_add,List.nil_append]at af;obtain⟨g,cp,rfl⟩:=Db af h1;have hg:=(af.lt g rfl).1;have lp:Hd (w2.ownsRow w.heap.size 103 3 (J (p_ g) is.length cp) is.length xs):=Al af qg;clear ae de hn il af ah)
 exact qea
open Go.RowKit
set_option linter.unusedVariables false
def Cn(w:E)(lo hi:X)(v:Z)(ts:L By):Prop:=Ck w lo hi 9 1 v ts.length (ts.map Value.string)
theorem Qau(ss:L By):Fi ss ss.length ss.length=ss.map Value.string:=by simp[Fi]
theorem map_str(ss:L By)(i:X)(h:i<ss.length):(ss.map Value.string)[i]?=M (S (ss.getD i ByteArray.empty)):=by rw[←Qau];exact Qas ss i h
theorem Cn.bl{w:E}{lo:X}(h:Cn w lo hi v ts)(hb:Bw w w'):Cn w' lo hi v ts:=Ck.bl h hb
theorem Cn.keep{w:E}{lo:X}(h:Cn w lo hi v ts)(hk:Fe lo' hi' w w')(hd:hi≤lo'∨hi'≤lo):Cn w' lo hi v ts:=Ck.keep h hk hd
theorem Cn.wide{w:E}{lo:X}(h:Cn w lo hi v ts)(h1:lo'≤lo)(h2:hi≤hi'):Cn w lo' hi' v ts:=Ck.wide h h1 h2
theorem Cn.nil(w:E)(lo hi:X):Cn w lo hi nS []:=Ck.nil _ _ _ _ _
theorem Cn.sl{w:E}{lo:X}(h:Cn w lo hi v ts):∃a cap,v=J a ts.length cap∧Cs w a ts:=by
 rcases Dc (Ck.own h)with⟨rfl,h0⟩|⟨g,cap,rfl⟩
 ·exact qcb
 ·refine⟨_,cap,rfl,λi hi=>⟨g,0,rfl,?_⟩⟩
  rw[Nat.zero_add,(Ck.own h).cellAt _ qg];exact map_str ts i hi
theorem Cn.set{w:E}{lo:X}(h:Cn w lo hi v ts)(hb:b<lo)(u:Z):Cn (w.setCell ⟨b,j,N⟩ u) lo hi v ts:=h.keep (Fe.set (lo:=b) (hi:=b+1) (Nat.le_refl _) (Nat.lt_succ_self _) j u) (Or.inr hb)
structure Mj (w:E) (lo hi:X) (v:Z) (rs:L T3) (xs:L Z) (cv lv:X→Z):Prop where
 row:Ck w lo hi 56 3 v rs.length xs
 fil:∀i,i<rs.length→xs[i*3]?=M (cv i)∧xs[i*3+1]?=M (lv i)∧xs[i*3+2]?=M (S (qx rs i).out)
 code:∀i,i<rs.length→∃ys,Ck w lo hi 103 3 (cv i) (qx rs i).code.length ys∧Cf (qx rs i).code (qx rs i).code.length ys
 look:∀i,i<rs.length→∃ys,Ck w lo hi 79 3 (lv i) (qx rs i).looks.length ys∧Be (qx rs i).looks (qx rs i).looks.length ys
 apc:∀i j,i<j→j<rs.length→∀b,(cv i).ownBlock=M b→(cv j).ownBlock≠M b
 apl:∀i j,i<j→j<rs.length→∀b,(lv i).ownBlock=M b→(lv j).ownBlock≠M b
 som:∀i,i<rs.length→∃g cap,cv i=J (p_ g) (qx rs i).code.length cap
def Ct(w:E)(lo hi:X)(v:Z)(rs:L T3):Prop:=∃xs cv lv,Mj w lo hi v rs xs cv lv
theorem Mj.bl{w:E}{lo:X}(h:Mj w lo hi v rs xs cv lv)(hb:Bw w w'):Mj w' lo hi v rs xs cv lv:=
 ⟨h.row.bl hb,h.fil,λi hi=>by obtain⟨ys,h1,h2⟩:=h.code i hi;exact⟨ys,h1.bl hb,h2⟩,λi hi=>by obtain⟨ys,h1,h2⟩:=h.look i hi;exact⟨ys,h1.bl hb,h2⟩,h.apc,h.apl,h.som⟩
theorem Mj.keep{w:E}{lo:X}(h:Mj w lo hi v rs xs cv lv)(hk:Fe lo' hi' w w')(hd:hi≤lo'∨hi'≤lo):Mj w' lo hi v rs xs cv lv:=
 ⟨h.row.keep hk hd,h.fil,λi hi=>by obtain⟨ys,h1,h2⟩:=h.code i hi;exact⟨ys,h1.keep hk hd,h2⟩,λi hi=>by obtain⟨ys,h1,h2⟩:=h.look i hi;exact⟨ys,h1.keep hk hd,h2⟩,h.apc,h.apl,h.som⟩
theorem Mj.wide{w:E}{lo:X}(h:Mj w lo hi v rs xs cv lv)(h1:lo'≤lo)(h2:hi≤hi'):Mj w lo' hi' v rs xs cv lv:=
 ⟨h.row.wide h1 h2,h.fil,λi hi=>by obtain⟨ys,k1,k2⟩:=h.code i hi;exact⟨ys,k1.wide h1 h2,k2⟩,λi hi=>by obtain⟨ys,k1,k2⟩:=h.look i hi;exact⟨ys,k1.wide h1 h2,k2⟩,h.apc,h.apl,h.som⟩
theorem Ct.bl{w:E}{lo:X}(h:Ct w lo hi v rs)(hb:Bw w w'):Ct w' lo hi v rs:=by
 obtain⟨xs,cv,lv,h⟩:=h;exact⟨xs,cv,lv,h.bl hb⟩
theorem Ct.keep{w:E}{lo:X}(h:Ct w lo hi v rs)(hk:Fe lo' hi' w w')(hd:hi≤lo'∨hi'≤lo):Ct w' lo hi v rs:=by
 obtain⟨xs,cv,lv,h⟩:=h;exact⟨xs,cv,lv,h.keep hk hd⟩
theorem Ct.wide{w:E}{lo:X}(h:Ct w lo hi v rs)(h1:lo'≤lo)(h2:hi≤hi'):Ct w lo' hi' v rs:=by
 obtain⟨xs,cv,lv,h⟩:=h;exact⟨xs,cv,lv,h.wide h1 h2⟩
theorem Ct.nil(w:E)(lo hi:X):Ct w lo hi nS []:=⟨[],λ_=>nS,λ_=>nS,Ck.nil _ _ _ _ _,λi hi=>Zk,λi hi=>Zk,λi hi=>Zk,λi j _ hj=>by simp at hj,λi j _ hj=>by simp at hj,λi hi=>Zk⟩
theorem Ct.set{w:E}{lo:X}(h:Ct w lo hi v rs)(hb:b<lo)(u:Z):Ct (w.setCell ⟨b,j,N⟩ u) lo hi v rs:=h.keep (Fe.set (lo:=b) (hi:=b+1) (Nat.le_refl _) (Nat.lt_succ_self _) j u) (Or.inr hb)
theorem Ct.keepO{w:E}{lo e sz n:X}{u:Z}(h:Ct w lo hi v rs)(ho:w.ownsRow B e sz u n zs)(hk:Ih u.ownBlock w w')(h1:56≠e)(h2:103≠e)(h3:79≠e):Ct w' lo hi v rs:=by
 obtain⟨xs,cv,lv,h⟩:=h
 exact⟨xs,cv,lv,h.row.same λb eb=>hk b (h.row.own.lt b eb).2 (λe'=>neT h.row.own ho h1 b eb e'.symm),h.fil,λi hi=>by
  obtain⟨ys,k1,k2⟩:=h.code i hi
  exact⟨ys,k1.same λb eb=>hk b (k1.own.lt b eb).2 (λe'=>neT k1.own ho h2 b eb e'.symm),k2⟩,λi hi=>by
  obtain⟨ys,k1,k2⟩:=h.look i hi;exact⟨ys,k1.same λb eb=>hk b (k1.own.lt b eb).2 (λe'=>neT k1.own ho h3 b eb e'.symm),k2⟩,h.apc,h.apl,h.som⟩
theorem rowG_RowO{w:E}{lo:X}{is:L G3}(h:Ck w lo hi 79 3 v is.length ys)(hf:Be is is.length ys):∃a cap,v=J a is.length cap∧Kb w a is:=by
 rcases Dc h.own with⟨rfl,h0⟩|⟨g,cap,rfl⟩
 ·exact qcb
 ·exact⟨_,cap,rfl,Wn rfl h.own hf⟩
theorem Ct.sl{w:E}{lo:X}(h:Ct w lo hi v rs):∃a cap,v=J a rs.length cap∧Yf w a rs:=by
 obtain⟨xs,cv,lv,h⟩:=h
 rcases Dc h.row.own with⟨rfl,h0⟩|⟨g,cap,rfl⟩
 ·exact qcb
 ·refine⟨_,cap,rfl,λi hi=>?_⟩
  obtain⟨h1,h2,h3⟩:=h.fil i hi;obtain⟨ys,k1,k2⟩:=h.code i hi;obtain⟨zs,j1,j2⟩:=h.look i hi;obtain⟨a',ai,e,r⟩:=Tn k1 k2;obtain⟨a2,mt,e2,r2⟩:=rowG_RowO j1 j2;refine⟨g,0,rfl,a',ai,a2,mt,?_,?_,?_,r,r2⟩
  ·rw[Nat.zero_add,h.row.own.cellAt _ qg,h1,e]
  ·rw[Nat.zero_add,h.row.own.cellAt _ qg,h2,e2]
  ·rw[Nat.zero_add,h.row.own.cellAt _ qg,h3]
structure Ep (w:E) (lo:X) (is:L T3) (k:X) (xs:L Z) (cv lv:X→Z):Prop where
 fil:∀i,i<k→xs[i*3]?=M (cv i)∧xs[i*3+1]?=M (lv i)∧xs[i*3+2]?=M (S (qx is i).out)
 code:∀i,i<k→∃ys,w.ownsRow lo 103 3 (cv i) (qx is i).code.length ys∧Cf (qx is i).code (qx is i).code.length ys
 look:∀i,i<k→∃ys,w.ownsRow lo 79 3 (lv i) (qx is i).looks.length ys∧Be (qx is i).looks (qx is i).looks.length ys
 apc:∀i j,i<j→j<k→∀b,(cv i).ownBlock=M b→(cv j).ownBlock≠M b
 apl:∀i j,i<j→j<k→∀b,(lv i).ownBlock=M b→(lv j).ownBlock≠M b
 som:∀i,i<k→∃g cap,cv i=J (p_ g) (qx is i).code.length cap
theorem Ep.same{w:E}{lo:X}(h:Ep w lo is k xs cv lv)(hk:∀b,lo≤b→b<w.heap.size→w'.heap[b]?=w.heap[b]?):Ep w' lo is k xs cv lv:=
 ⟨h.fil,λi hi=>by
  obtain⟨ys,h1,h2⟩:=h.code i hi
  exact⟨ys,Cc h1 (λb e=>hk b (h1.lt b e).1 (h1.lt b e).2),h2⟩,λi hi=>by
  obtain⟨ys,h1,h2⟩:=h.look i hi;exact⟨ys,Cc h1 (λb e=>hk b (h1.lt b e).1 (h1.lt b e).2),h2⟩,h.apc,h.apl,h.som⟩
theorem Ep.bl{w:E}{lo:X}(h:Ep w lo is k xs cv lv)(hb:Bw w w'):Ep w' lo is k xs cv lv:=h.same λb _ hl=>hb.block b hl
theorem Ep.set{w:E}{lo:X}(h:Ep w lo is k xs cv lv)(hb:b<lo)(u:Z):Ep (w.setCell ⟨b,j,N⟩ u) lo is k xs cv lv:=h.same λc hc _=>hC w ⟨b,j,N⟩ u c (by show c≠b;omega)
theorem Ep.zero(w:E)(lo:X)(is:L T3)(xs:L Z):Ep w lo is 0 xs (λ_=>nS) (λ_=>nS):=⟨λi hi=>qg,λi hi=>qg,λi hi=>qg,λi j _ hj=>qg,λi j _ hj=>qg,λi hi=>qg⟩
theorem Ep.add{w w2:E}{lo:X}{xs2:L Z}(h:Ep w lo is k xs cv lv)(hk:∀b,lo≤b→b<w.heap.size→w2.heap[b]?=w.heap[b]?∨∃n zs B v,w.ownsRow B 56 3 v n zs∧v.ownBlock=M b)(hl:lo≤w.heap.size){c d:Z}(ho:w2.ownsRow w.heap.size 103 3 c (qx is k).code.length ys)(hf:Cf (qx is k).code (qx is k).code.length ys)(ik:w2.ownsRow w.heap.size 79 3 d (qx is k).looks.length zs)(hf2:Be (qx is k).looks (qx is k).looks.length zs)(hd:∃g cap,c=J (p_ g) (qx is k).code.length cap)(h1:∀j,j<k*3→xs2[j]?=xs[j]?)(h2:xs2[k*3]?=M c)(h3:xs2[k*3+1]?=M d)(h4:xs2[k*3+2]?=M (S (qx is k).out)):Ep w2 lo is (k+1) xs2 (λi=>if i=k then c else cv i) (λi=>if i=k then d else lv i):=by
 have hsame:∀ {e sz n:X} {u:Z} {us:L Z},w.ownsRow lo e sz u n us→56≠e→w2.ownsRow lo e sz u n us:=fun {e sz n u us} k1 aq=>Cc k1 (λb eb=>by
  rcases hk b (k1.lt b eb).1 (k1.lt b eb).2 with h|⟨n',zs',B',v',o',e'⟩
  ·exact h
  ·exact absurd eb (neT o' k1 aq b e'))
 refine⟨λi hi=>?_,λi hi=>?_,λi hi=>?_,λi j l7 hj=>?_,λi j l7 hj=>?_,λi hi=>?_⟩
 ·rcases Nat.lt_or_ge i k with hl|hl
  ·obtain⟨k1,k2,k3⟩:=h.fil i hl
   rw[h1 _ qg,h1 _ qg,h1 _ qg,if_neg qg,if_neg qg];exact⟨k1,k2,k3⟩
  ·obtain rfl:i=k:=qg
   rw[if_pos rfl,if_pos rfl];exact⟨h2,h3,h4⟩
 ·rcases Nat.lt_or_ge i k with au|H0
  ·obtain⟨zs,k1,k2⟩:=h.code i au
   exact qll
  ·obtain rfl:i=k:=qg
   simp only[if_true];exact⟨ys,Al ho hl,hf⟩
 ·rcases Nat.lt_or_ge i k with au|H0
  ·obtain⟨zs,k1,k2⟩:=h.look i au
   exact qll
  ·obtain rfl:i=k:=qg
   simp only[if_true];exact⟨zs,Al ik hl,hf2⟩
 ·rcases Nat.lt_or_ge j k with au|H0
  ·simp only[if_neg (show ¬ i=k from qg),if_neg (show ¬ j=k from qg)]
   exact h.apc i j l7 au
  ·exact qjf
 ·rcases Nat.lt_or_ge j k with au|H0
  ·simp only[if_neg (show ¬ i=k from qg),if_neg (show ¬ j=k from qg)]
   exact h.apl i j l7 au
  ·obtain rfl:j=k:=qg
   simp only[if_neg (show ¬ i=j from qg),if_true];intro b e1 e2;obtain⟨zs,k1,_⟩:=h.look i l7;have:=(k1.lt b e1).2;have:=(ik.lt b e2).1;omega
 ·rcases Nat.lt_or_ge i k with au|H0
  ·simp only[if_neg (show ¬ i=k from qg)]
   exact h.som i au
  ·obtain rfl:i=k:=qg
   simp only[if_true];exact hd
theorem Ep.own{w:E}{lo:X}(h:Ep w lo' is is.length xs cv lv)(hr:w.ownsRow lo 56 3 v is.length xs)(hl:lo≤lo')(hh:w.heap.size≤hi):Ct w lo hi v is:=
 ⟨xs,cv,lv,⟨hr,λb e=>by have:=(hr.lt b e).2;omega⟩,h.fil,λi hi=>by
  obtain⟨ys,h1,h2⟩:=h.code i hi
  exact⟨ys,⟨Al h1 hl,λb e=>by have:=(h1.lt b e).2;omega⟩,h2⟩,λi hi=>by
  obtain⟨ys,h1,h2⟩:=h.look i hi;exact⟨ys,⟨Al h1 hl,λb e=>by have:=(h1.lt b e).2;omega⟩,h2⟩,h.apc,h.apl,h.som⟩
open Go.RowKit Go.Deep
set_option linter.unusedVariables false
theorem Kk(w:E)(o o2:Obj):((w.alloc o).alloc o2).heap[w.heap.size+1]?=M o2:=by
 have h:=Am (w.alloc o) o2;rw[show(w.alloc o).heap.size=w.heap.size+1 from qi]at h;exact h
theorem Kj(w:E)(o o2:Obj):((w.alloc o).alloc o2).heap[w.heap.size]?=M o:=by
 rw[Lib.alloc_old _ _ _ qi];exact Am _ _
theorem blk_keepR{w:E}{lo:X}{o:Obj}(h:w.heap[b]?=M o)(hk:Fe lo hi w w')(hb:b<lo∨hi≤b):w'.heap[b]?=M o:=by rw[hk b (An h) hb];exact h
theorem Ab{w:E}{v1 v2 v3:Z}(h:w.heap[b]?=M (O #[v1,v2,v3] T (0,0))):w.cell? ⟨b,0,N⟩=M v1∧w.cell? ⟨b,1,N⟩=M v2∧w.cell? ⟨b,2,N⟩=M v3:=
 ⟨qah,qah,qah⟩
theorem Ai.bl{w:E}(h:Ai w b T)(hb:Bw w w'):Ai w' b T:=by
 obtain⟨cs,h⟩:=h;exact⟨cs,Ac h hb⟩
theorem Cn.setT{w:E}{lo:X}(ho:Cn w lo hi v ts)(h:Ai w b T)(h9:T≠9)(u:Z):Cn (w.setCell ⟨b,j,N⟩ u) lo hi v ts:=⟨Ak (Ck.own ho) h h9 u,Ck.top ho⟩
theorem Ct.setT{w:E}{lo:X}(ho:Ct w lo hi v rs)(h:Ai w b T)(h66:T≠56)(h98:T≠103)(h88:T≠79)(u:Z):Ct (w.setCell ⟨b,j,N⟩ u) lo hi v rs:=by
 obtain⟨xs,cv,lv,k⟩:=ho
 exact⟨xs,cv,lv,⟨Ak k.row.own h h66 u,k.row.top⟩,k.fil,λi hi=>by
  obtain⟨ys,k1,k2⟩:=k.code i hi
  exact⟨ys,⟨Ak k1.own h h98 u,k1.top⟩,k2⟩,λi hi=>by
  obtain⟨ys,k1,k2⟩:=k.look i hi;exact⟨ys,⟨Ak k1.own h h88 u,k1.top⟩,k2⟩,k.apc,k.apl,k.som⟩
theorem Ep.setT{w:E}{lo:X}(h:Ep w lo is k xs cv lv)(ht:Ai w b T)(h98:T≠103)(h88:T≠79)(u:Z):Ep (w.setCell ⟨b,j,N⟩ u) lo is k xs cv lv:=
 ⟨h.fil,λi hi=>by
  obtain⟨ys,k1,k2⟩:=h.code i hi
  exact⟨ys,Ak k1 ht h98 u,k2⟩,λi hi=>by
  obtain⟨ys,k1,k2⟩:=h.look i hi;exact⟨ys,Ak k1 ht h88 u,k2⟩,h.apc,h.apl,h.som⟩
def gloC(gs:L G3)(j:X):Z:=if j % 3=0 then S (gx gs (j / 3)).name else if j % 3=1 then F (gx gs (j / 3)).ask else S (gx gs (j / 3)).sum
def Ix(gs:L G3):L Z:=(List.range (gs.length*3)).map (gloC gs)
theorem Ln(gs:L G3):(Ix gs).length=gs.length*3:=by simp[Ix]
theorem Nt(gs:L G3)(j:X)(h:j<gs.length*3):(Ix gs)[j]?=M (gloC gs j):=by
 unfold Ix;rw[List.getElem?_map,List.getElem?_range h];rfl
theorem Lo(gs:L G3):Be gs gs.length (Ix gs):=by
 intro i hi;rw[Nt gs _ qg,Nt gs _ qg,Nt gs _ qg];unfold gloC;exact qit
theorem Xs(gs:L G3):∀u∈Ix gs,u.oneCell'=true:=by
 intro u hu;obtain⟨j,_,rfl⟩:=List.mem_map.mp hu;unfold gloC;split
 ·rfl
 ·split<;>rfl
theorem Tz{w:E}{gs:L G3}(h:Kb w (M ⟨b,off,N⟩) gs):∀j u,(Ix gs)[j]?=M u→w.cell? ((⟨b,off,N⟩:Addr).add j)=M u:=by
 intro j u hu;rw[Addr.add_lit]
 have hj:j<gs.length*3:=by
  rcases Nat.lt_or_ge j (gs.length*3)with h|h
  ·exact h
  ·rw[List.getElem?_eq_none (by rw[Ln];exact h)]at hu;cases hu
 rw[Nt gs j hj]at hu;obtain rfl:=Option.some.inj hu;obtain⟨b',bq,ha,c1,c2,c3⟩:=h (j / 3) qg;cases ha;unfold gloC;split
 ·rename_i hm
  rw[show off+j=off+j / 3*3 from qg];exact c1
 ·split
  ·rename_i hm
   rw[show off+j=off+j / 3*3+1 from qg];exact c2
  ·rw[show off+j=off+j / 3*3+2 from qg];exact c3
theorem Gg(ss:L By):∀u∈ss.map Value.string,u.oneCell'=true:=by
 intro u hu;obtain⟨s,_,rfl⟩:=List.mem_map.mp hu;rfl
theorem Gh{w:E}{ss:L By}(h:Cs w (M ⟨b,off,N⟩) ss):∀j u,(ss.map Value.string)[j]?=M u→w.cell? ((⟨b,off,N⟩:Addr).add j)=M u:=by
 intro j u hu;rw[Addr.add_lit]
 have hj:j<ss.length:=by
  rcases Nat.lt_or_ge j ss.length with h|h
  ·exact h
  ·rw[List.getElem?_eq_none Zl]at hu;cases hu
 rw[map_str ss j hj]at hu;obtain rfl:=Option.some.inj hu;obtain⟨b',bq,ha,c1⟩:=h j hj;cases ha;exact c1
theorem Tryz.info88b:(prog.info? 79).map (λi=>(i.zero,i.size,i.bytes))=M (M (G #[ze,F false,ze]),3,40):=qk
theorem Tryz.info66b:(prog.info? 56).map (λi=>(i.zero,i.size,i.bytes))=M (M (G #[nS,nS,ze]),3,64):=qk
def Sk(lo:X)(w:E)(e:Ending)(is:L I3)(gs:L G3)(out:By):Prop:=∃g1 p1 g2 p2,e=H (G #[J (p_ g1) is.length p1,J (p_ g2) gs.length p2,S out])∧w.ownsRow lo 103 3 (J (p_ g1) is.length p1) is.length (Cy is)∧w.ownsRow lo 79 3 (J (p_ g2) gs.length p2) gs.length (Ix gs)
open Go.RowKit Go.Deep
set_option linter.unusedVariables false
open Go.RowKit Go.Deep
set_option linter.unusedVariables false
theorem Cv{w:E}{P:X}{x y z:Z}(hz:w.heap[P]?=M (O #[x,y,z] T (0,0)))(u1 u2 u3:Z):(((w.setCell ⟨P,0,N⟩ u1).setCell ⟨P,1,N⟩ u2).setCell ⟨P,2,N⟩ u3).heap[P]?=M (O #[u1,u2,u3] T (0,0)):=by
 have h1:(w.setCell ⟨P,0,N⟩ u1).heap[P]?=M (O #[u1,y,z] T (0,0)):=by rw[jB hz];rfl
 have h2:((w.setCell ⟨P,0,N⟩ u1).setCell ⟨P,1,N⟩ u2).heap[P]?=M (O #[u1,u2,z] T (0,0)):=qdl;rw[jB h2];rfl
open Go.RowKit Go.Deep
set_option linter.unusedVariables false
open Go.RowKit
set_option linter.unusedVariables false

theorem Qbb(b off cap:X)(is:L By)(w:E)(hc:Cs w (M ⟨b,off,N⟩) is)(hl:is.length≤1048576):Calls prog 60 #[J (M ⟨b,off,N⟩) is.length cap] w λe w'=>Bw w w'∧∃g cp,e=H (J (p_ g) is.length cp)∧w'.ownsRow w.heap.size 9 1 (J (p_ g) is.length cp) is.length (is.map Value.string):=by
 obtain⟨i0,hi,bm,bg,bi⟩:=info_parts Tryz.info9b;have de:(w.alloc (O #[] 9)).ownsRow w.heap.size 9 1 (J (p_ w.heap.size) 0 0) 0 []:=World.ownsRow_lit (base:=w.heap.size) (e:=9) (size:=1) w #[] 0 (Nat.le_refl _) qn qi;have hn:=Gh (hc.bl ((Below.refl w.heap.size w).alloc (Nat.le_refl _) (O #[] 9)));have HL:Hd ((is.map Value.string).length=is.length*1):=by show _=_;simp
 have HO:Hd (∀u∈is.map Value.string,u.oneCell'=true):=Gg is;generalize is.map Value.string=xs at *;clear hc;have hq:∀W:E,(binOp .eql 23 (J (M ⟨b,off,N⟩) is.length cap) nS).run prog W=.ok (F false) W:=λW=>Lib.run_eql_slice_nil W 23 9 _ _ _ 0 0 underlying23;go_enter func60,ntmps60
 go_wp2_with (at_builtin;refine wpList_append_own _ rfl (.tmp 5) (.tmp 6) 23 rfl w.heap.size 9 i0 ze 1 16 underlying23 hi bm bg bi rfl qh _ 0 [] rfl de ⟨b,off,N⟩ is.length cap xs rfl HL.o hn HO.o qn qg qi ?_;intro v' w2 af ae bn)
 exact qdz
open Go.RowKit Go.Deep
set_option linter.unusedVariables false
open Go.RowKit Go.Deep
set_option linter.unusedVariables false
open Go.RowKit Go.Deep
set_option linter.unusedVariables false
open Go.RowKit
set_option linter.unusedVariables false
theorem Hf(w:E)(dT sT ty elem:TypeId)(g o dLen dCap:X)(a:Addr)(sLen sCap:X)(cur:Array Z)(t:TypeId)(cs:L Z)(hu:prog.underlying dT=M (.slice elem))(hs:(prog.info? elem).map (·.size)=M 1)(hg:w.heap[g]?=M (O cur t (0,0)))(hn:cs.length=Nat.min sLen dLen)(hsrc:∀j v,cs[j]?=M v→w.cell? (a.add j)=M v)(hfit:o+cs.length≤cur.size)(h1:∀v∈cs,v.oneCell'=true):(Builtin.copy_ #[dT,sT] ty #[J (M ⟨g,o,N⟩) dLen dCap,J (M a) sLen sCap]).run prog w =
 .ok (goInt (Nat.min sLen dLen)) (w.setRow g (cur.toList.take o++cs++cur.toList.drop (o+cs.length)).toArray):=by
 have hl:=run_loadCells_list (P:=prog) w a cs hsrc;have du:=run_storeCells_at prog g o t cs 0 cur w hg (by simpa using hfit) h1
 cases hq:prog.info? elem with
 | none=>simp[hq]at hs
 | some i=>
   (have hi:i.size=1:=by simpa [hq] using hs);simp[Builtin.copy_,run_underlying hu,Builtin.lenOf,Builtin.firstCells,sizeOf,typeInfo,hq,hi,←hn,hl,du]
theorem Re{α:Type}(AM cs:L α)(o:X)(h:o≤AM.length):(AM.take o++cs++AM.drop (o+cs.length)).take (o+cs.length)=AM.take o++cs:=by
 rw[List.take_append_of_le_length qj,List.take_of_length_le qj]
theorem Zf{α:Type}(C xs vs:L α)(i n:X)(hi:i≤n)(hx:C.take (n)=xs)(hl:(n+1)≤C.length)(hv:vs.length=1)(C1 C2:L α)(h1:C1=C.take ((i+1))++xs.drop (i)++C.drop ((i+1)+(xs.drop (i)).length))(h2:C2=C1.take (i)++vs++C1.drop (i+vs.length)):C2.length=C.length∧C2.take ((n+1))=xs.take (i)++vs++xs.drop (i):=by
 have pi:xs.length=n:=by rw[←hx,List.length_take];omega
 have oe:(xs.drop (i)).length=n-i:=by rw[List.length_drop,pi]
 have o6:C1.length=C.length:=by rw[h1];simp[oe];omega
 have e1:C1.take ((n+1))=C.take ((i+1))++xs.drop (i):=by
  have:=Re C (xs.drop (i)) ((i+1)) qg;rw[←h1,oe,show(i+1)+(n-i)=(n+1) from qg]at this;exact this
 have e2:C1.take (i)=xs.take (i):=by
  have:=congrArg (λl=>l.take (i)) e1;simp only[List.take_take]at this;rw[Nat.min_eq_left qg,List.take_append_of_le_length qj,List.take_take,Nat.min_eq_left qg]at this;rw[this,←hx,List.take_take,Nat.min_eq_left qg]
 have e3:(C1.take ((n+1))).drop ((i+1))=xs.drop (i):=by
  rw[e1,List.drop_append_of_le_length qj,List.drop_of_length_le qj,List.nil_append]
 have xq:C2.length=C.length:=by rw[h2];simp[hv,o6];omega
 refine⟨xq,?_⟩;rw[h2,hv,show i+1=(i+1) from qg,List.take_append,List.take_of_length_le (by simp[hv,o6];omega)];rw[e2];congr 1;rw[←e3,List.drop_take];congr 1;simp[hv,pi];omega
theorem grow_take{α:Type}(R xs vs AF:L α)(i n:X)(hi:i≤n)(pi:xs.length=n)(hR:R=xs.take (i)++AF)(hZ:(n+1-i)≤AF.length)(hv:vs.length=1)(C1 C2:L α)(h1:C1=R.take (i)++vs++R.drop (i+vs.length))(h2:C2=C1.take ((i+1))++xs.drop (i)++C1.drop ((i+1)+(xs.drop (i)).length)):C2.length=R.length∧C2.take ((n+1))=xs.take (i)++vs++xs.drop (i):=by
 have oe:(xs.drop (i)).length=n-i:=by rw[List.length_drop,pi]
 have P7:R.length=i+AF.length:=by rw[hR];simp[pi];omega
 have o6:C1.length=R.length:=by rw[h1];simp[hv];omega
 have e1:C1.take ((i+1))=xs.take (i)++vs:=by
  have:=Re R vs (i) qg;rw[←h1,hv,show i+1=(i+1) from qg]at this;rw[this,hR,List.take_append_of_le_length (by simp[pi];omega),List.take_take,Nat.min_self]
 have e2:=Re C1 (xs.drop (i)) ((i+1)) qg;rw[←h2,oe,show(i+1)+(n-i)=(n+1) from qg,e1]at e2;refine⟨?_,e2⟩;rw[h2];simp[oe,o6];omega
theorem Wu(h:∀v∈xs,v.oneCell'=true)(k:X):∀v∈xs.drop k,v.oneCell'=true:=λv hv=>h v (List.mem_of_mem_drop hv)
/-! ### Text -/
theorem Tryz.size9:(prog.info? 9).map (·.size)=M 1:=qk
theorem Tryz.szrun9:∀w,(Go.sizeOf 9).run prog w=.ok 1 w:=λw=>by
 obtain⟨i0,hi,bm,bg,bi⟩:=info_parts Tryz.info9b;simp[sizeOf,typeInfo,hi,bg]
theorem Tb(g n c i vb:X)(cur:Array Z)(y:Z)(w:E)(hi:i<n)(Z5:n+1≤c)(O8:c≤maxLen)(hg:w.heap[g]?=M (O cur 9 (0,0)))(U5:cur.size=c)(hb:w.heap[vb]?=M (O #[y] 9 (0,0)))(hvb:vb≠g)(h1c:∀v∈cur.toList.take (n),v.oneCell'=true)(K8:∀v∈[y],v.oneCell'=true)(C1 C2:L Z)(e1:C1=cur.toList.take ((i+1))++(cur.toList.take (n)).drop (i)++cur.toList.drop ((i+1)+((cur.toList.take (n)).drop (i)).length))(e2:C2=C1.take (i)++[y]++C1.drop (i+[y].length)):Calls prog 39 #[J (p_ g) n c,I i,J (p_ vb) 1 1] w λe w'=>e=H (J (p_ g) (n+1) c)∧w'=(w.drew.setRow g C1.toArray).setRow g C2.toArray:=by
 unfold maxLen at O8;have oe:((cur.toList.take (n)).drop (i)).length=(n-i):=by rw[List.length_drop,List.length_take,Array.length_toList,U5];omega
 have o6:C1.length=cur.size:=by rw[e1];simp[oe,U5];omega
 have hov:∀lb cb,(callFunc 64 #[J (p_ vb) 1 1,J (M ⟨g,(i+1),N⟩) lb cb]).run prog w=.ok (.value (F false)) w:=λlb cb=>by
  rw[run_callFunc_extern func64 qk qk qk (e:=Extern.SlicesOverlaps.overlaps #[23,23] #[4]) qk,
   Lib.run_overlaps_apart w 23 4 9 underlying23 1 Tryz.szrun9 ⟨vb,0,N⟩ ⟨g,(i+1),N⟩ 1 1 lb cb hvb 9 9 1 cur.size (by simp[World.shape?,hb]) (by simp[World.shape?,hg]) qg (fH hb 0) (fH hb 1)]
  rfl
 have hcp1:∀ty dc sc,(Builtin.copy_ #[23,23] ty #[J (M ⟨g,(i+1),N⟩) (n-i) dc,J (M ⟨g,i,N⟩) (n+1-i) sc]).run prog w.drew=.ok (goInt ((n-i:X):Int)) (w.drew.setRow g C1.toArray):=λty dc sc=>by
  have h:=Hf w.drew 23 23 ty 9 g ((i+1)) (n-i) dc ⟨g,i,N⟩ (n+1-i) sc cur 9 ((cur.toList.take (n)).drop (i)) underlying23 Tryz.size9 hg (by rw[oe];simp only[Nat.min_def];split<;>omega)
   (λj v hj=>by
     rw[Addr.add_lit,cH (w:=w.drew) (cs:=cur) (T:=9) (fr:=(0,0)) hg];rw[List.getElem?_drop,List.getElem?_take]at hj
     split at hj
     ·rw[←Array.getElem?_toList];exact hj
     ·cases hj) (by rw[oe];omega) (Wu h1c _)
  rw[←e1,show Nat.min (n+1-i) (n-i)=n-i from qfs]at h;exact h
 obtain⟨W1,D9⟩:∃W1,W1=w.drew.setRow g C1.toArray:=⟨_,rfl⟩;have am:W1.heap[g]?=M (O C1.toArray 9 (0,0)):=by rw[D9];exact setRow_heap _ _ _ _ _ _ hg
 have ah:W1.heap[vb]?=M (O #[y] 9 (0,0)):=by rw[D9,setRow_other _ _ _ _ hvb];exact hb
 have K3:∀ty dc,(Builtin.copy_ #[23,23] ty #[J (M ⟨g,i,N⟩) (n+1-i) dc,J (p_ vb) 1 1]).run prog W1=.ok (goInt 1) (W1.setRow g C2.toArray):=λty dc=>by
  have h:=Hf W1 23 23 ty 9 g (i) (n+1-i) dc ⟨vb,0,N⟩ 1 1 C1.toArray 9 [y] underlying23 Tryz.size9 am (by show 1=_;simp only[Nat.min_def];split<;>omega)
   (λj v hj=>by
     rw[Addr.add_lit,cH ah,Nat.zero_add];simpa using hj) (by simp[o6,U5];omega) K8
  rw[←e2,show Nat.min 1 (n+1-i)=1 from qfs]at h;exact h
 rw[←D9]at hcp1 ⊢;have bi:¬ ((i:Int)=(n:Int)):=qg;have hzr:¬ ((c:Int)<(n:Int)+1):=qg;have Z3:IntKind.i64.wrap ((i:Int)+1)=(i:Int)+1:=qcs;have hw2:IntKind.i64.wrap ((n:Int)+1)=(n:Int)+1:=qcs;have hbb1:(0:Int)≤(i:Int)+1:=qg;have un:i≤n:=qg;have htn:((i:Int)+1).toNat=i+1:=qg;have htm:((n:Int)+1).toNat=n+1:=qg;have a9:¬ (c=i+1):=qg;have bh:(i:Int)≤(n:Int)+1:=qg;have bx:¬ (c=i):=qg;clear hg hb am ah e1 e2 h1c K8 o6 oe U5 D9;have mixed:prog.follows .mixedOrders=true:=qk;go_enter func39,ntmps39
 go_wp2_with (simp only[hov])
 go_region_law_o (refine step_copy_runI rfl _ _ 30 30 rfl _ _ qdo qdo (hcp1 _ _ _) ?_)
 go_wp2_with (at_builtin;refine wpList_copy_runI _ rfl _ _ 30 30 rfl _ _ rfl rfl (K3 _ _) ?_)
 go_ret;exact⟨rfl,rfl⟩
theorem Vl(g n c i vb:X)(cur:Array Z)(xs:L Z)(y:Z)(w:E)(hi:i<n)(hnc:n≤c)(Z5:c<n+1)(hn:n≤1048576)(hg:w.heap[g]?=M (O cur 9 (0,0)))(G2:cur.toList.take (n)=xs)(pi:xs.length=n)(hb:w.heap[vb]?=M (O #[y] 9 (0,0)))(h1c:∀v∈xs,v.oneCell'=true)(K8:∀v∈[y],v.oneCell'=true):Calls prog 39 #[J (p_ g) n c,I i,J (p_ vb) 1 1] w λe w'=>∃(AI:X)(C:L Z),e=H (J (p_ w.heap.size) (n+1) AI)∧n+1≤AI∧AI≤maxLen∧C.length=AI∧C.take ((n+1))=xs.take (i)++[y]++xs.drop (i)∧w'.heap[w.heap.size]?=M (O C.toArray 9 (0,0))∧w'.heap.size=w.heap.size+1∧(∀b,b<w.heap.size→w'.heap[b]?=w.heap[b]?)∧w'.os=w.os∧w'.tape=w.tape∧w'.output=w.output:=by
 obtain⟨i0,O5,bm,hzs,hzb⟩:=info_parts Tryz.info9b;have U3:(n:Int)+1-(i:Int)=((n+1-i:X):Int):=qg;have hik:i+(n+1-i)=n+1:=qg
 have tw:∀j v,xs[j]?=M v→∀W:E,W.heap[g]?=w.heap[g]?→W.cell? ⟨g,j,N⟩=M v:=λj v hj W hW=>by
  rw[cH (w:=W) (hW.trans hg),←Array.getElem?_toList];rw[←G2,List.getElem?_take]at hj
  split at hj
  ·exact hj
  ·cases hj
 have hold:(Builtin.firstCells i0.size i (J (p_ g) i c)).run prog w.drew=.ok (xs.take (i)).toArray w.drew:=by
  rw[hzs]
  exact run_firstCells_some w.drew 1 i ⟨g,0,N⟩ i c (xs.take (i)) qag (λj v hj=>by
   rw[Addr.add_lit,Nat.zero_add];rw[List.getElem?_take]at hj
   split at hj
   ·exact tw j v hj _ rfl
   ·cases hj)
 have hrz:∀ty,(Builtin.append_ #[23,3] ty #[J (p_ g) i c,I ((n:Int)+1-(i:Int))]).run prog w =
  .ok (J (p_ w.heap.size) (n+1) (grownCap w (n+1) c 9)) (w.drew.alloc (O ((xs.take (i)).toArray++Builtin.zeroCells ze.cells (n+1-i)++Builtin.zeroCells ze.cells (grownCap w (n+1) c 9-(n+1))) 9)):=λty=>by
  have h:=Lib.run_append_grow_zeros w 23 3 ty 9 i0 _ .i64 .i64 underlying23 underlying3 O5 bm (p_ g) i c (xs.take (i)) hold (n+1-i) qg qg qg qg (by rw[hzb];omega) (by rw[hzb,hik];exact growslice_fits Z5 qg);rw[hik]at h;rw[U3];exact h
 obtain⟨AI,hG⟩:∃AI,AI=grownCap w (n+1) c 9:=⟨_,rfl⟩;have hGn:n+1≤AI:=by rw[hG];exact grownCap_ge w _ _ _
 have hGm:AI≤maxLen:=by rw[hG];exact grownCap_le_maxLen w (n+1) c 9 qn
 obtain⟨AF,hZ⟩:∃AF:L Z,AF=(Builtin.zeroCells ze.cells (n+1-i)).toList++(Builtin.zeroCells ze.cells (AI-(n+1))).toList:=⟨_,rfl⟩
 have hZl:AF.length=(AI-i):=by
  rw[hZ];simp[Builtin.zeroCells,Value.cells];omega
 obtain⟨R,hR⟩:∃R:L Z,R=xs.take (i)++AF:=⟨_,rfl⟩;have P7:R.length=AI:=by rw[hR];simp[pi,hZl];omega
 have hROW:(xs.take (i)).toArray++Builtin.zeroCells ze.cells (n+1-i)++Builtin.zeroCells ze.cells (AI-(n+1))=R.toArray:=by
  apply Array.ext';rw[hR,hZ];simp
 rw[←hG,hROW]at hrz;obtain⟨C1,h1⟩:∃C1,C1=R.take (i)++[y]++R.drop (i+[y].length):=⟨_,rfl⟩;obtain⟨C2,h2⟩:∃C2,C2=C1.take ((i+1))++xs.drop (i)++C1.drop ((i+1)+(xs.drop (i)).length):=⟨_,rfl⟩;obtain⟨xq,J0⟩:=grow_take R xs [y] AF i n qg pi hR (by rw[hZl];omega) rfl C1 C2 h1 h2;have o6:C1.length=AI:=by rw[h1];simp[P7];omega
 have oe:(xs.drop (i)).length=(n-i):=by rw[List.length_drop,pi]
 have hvb:vb<w.heap.size:=An hb;have hgb:g<w.heap.size:=An hg;have hA:(w.alloc (O R.toArray 9)).heap[w.heap.size]?=M (O R.toArray 9 (0,0)):=Am _ _
 have hcpA:∀(W:E),W.heap=(w.alloc (O R.toArray 9)).heap→∀ty dc,(Builtin.copy_ #[23,23] ty #[J (M ⟨w.heap.size,i,N⟩) (n+1-i) dc,J (p_ vb) 1 1]).run prog W=.ok (goInt 1) (W.setRow w.heap.size C1.toArray):=λW hW ty dc=>by
  have h:=Hf W 23 23 ty 9 w.heap.size (i) (n+1-i) dc ⟨vb,0,N⟩ 1 1 R.toArray 9 [y] underlying23 Tryz.size9 (by rw[hW];exact hA) (by show 1=_;simp only[Nat.min_def];split<;>omega)
   (λj v hj=>by
     rw[Addr.add_lit,cH (w:=W) (cs:=#[y]) (T:=9) (fr:=(0,0)) (by rw[hW,Lib.alloc_old _ _ _ hvb];exact hb),Nat.zero_add];simpa using hj) (by simp[P7];omega) K8
  rw[←h1,show Nat.min 1 (n+1-i)=1 from qfs]at h;exact h
 have hcpB:∀(W:E),W.heap=((w.alloc (O R.toArray 9)).setRow w.heap.size C1.toArray).heap→∀ty dc sc,(Builtin.copy_ #[23,23] ty #[J (M ⟨w.heap.size,(i+1),N⟩) (n-i) dc,J (M ⟨g,i,N⟩) (n-i) sc]).run prog W=.ok (goInt ((n-i:X):Int)) (W.setRow w.heap.size C2.toArray):=λW hW ty dc sc=>by
  have h:=Hf W 23 23 ty 9 w.heap.size ((i+1)) (n-i) dc ⟨g,i,N⟩ (n-i) sc C1.toArray 9 (xs.drop (i)) underlying23 Tryz.size9 (by rw[hW];exact setRow_heap _ _ _ _ _ _ hA) (by rw[oe];simp)
   (λj v hj=>by
     rw[Addr.add_lit];rw[List.getElem?_drop]at hj;exact tw _ v hj W (by rw[hW,setRow_other _ _ _ _ qg,Lib.alloc_old _ _ _ hgb])) (by simp[o6,oe];omega) (Wu h1c _)
  rw[←h2,show Nat.min (n-i) (n-i)=n-i from qi]at h;exact h
 have hcpA':=hcpA (w.alloc (O R.toArray 9)).drew rfl;have hcpB':=hcpB ((w.alloc (O R.toArray 9)).drew.setRow w.heap.size C1.toArray).drew rfl;clear hcpA hcpB
 have HX:Hd ((((w.alloc (O R.toArray 9)).drew.setRow w.heap.size C1.toArray).drew.setRow w.heap.size C2.toArray).heap[w.heap.size]?=M (O C2.toArray 9 (0,0))∧(((w.alloc (O R.toArray 9)).drew.setRow w.heap.size C1.toArray).drew.setRow w.heap.size C2.toArray).heap.size=w.heap.size+1∧∀b,b<w.heap.size→(((w.alloc (O R.toArray 9)).drew.setRow w.heap.size C1.toArray).drew.setRow w.heap.size C2.toArray).heap[b]?=w.heap[b]?):=by
  refine⟨setRow_heap _ _ _ _ _ _ (setRow_heap (w.alloc (O R.toArray 9)).drew _ _ C1.toArray _ _ hA),qi,λb nk=>?_⟩;rw[setRow_other _ _ _ _ qg];show((w.alloc (O R.toArray 9)).drew.setRow w.heap.size C1.toArray).heap[b]?=_;rw[setRow_other _ _ _ _ qg];exact Lib.alloc_old _ _ _ nk
 have zu:Hd (C2.length=AI∧C2.take ((n+1))=xs.take (i)++[y]++xs.drop (i)):=⟨by rw[xq,P7],J0⟩;have bi:¬ ((i:Int)=(n:Int)):=qg;have hz3:(c:Int)<(n:Int)+1:=qg;have hG63:AI≤9223372036854775807:=by unfold maxLen at hGm;omega
 have hGi:¬ (AI=i):=qg;have hGim:¬ (AI=i+1):=qg;have hci:¬ (c=i):=qg;have Z3:IntKind.i64.wrap ((i:Int)+1)=(i:Int)+1:=qcs;have hw2:IntKind.i64.wrap ((n:Int)+1)=(n:Int)+1:=qcs;have hbb1:(0:Int)≤(i:Int)+1:=qg;have un:i≤n:=qg;have htn:((i:Int)+1).toNat=i+1:=qg;have bh:(i:Int)≤(n:Int):=qg;have mixed:prog.follows .mixedOrders=true:=qk;have HGM:Hd (AI≤maxLen):=hGm;clear U3 hik hold hROW hG P7 hGm o6 xq J0 h1 h2 hR hZ hZl hg hb G2 tw hA h1c K8 oe;go_enter func39,ntmps39
 go_wp2_with (first
  | (at_builtin;refine Lib.wpList_append_run _ rfl _ _ _ _ rfl _ _ rfl rfl _ _ (hrz _) ?_)
  | (at_builtin;refine wpList_copy_runI _ rfl _ _ 30 30 rfl _ _ rfl rfl (hcpA' _ _) ?_))
 go_region_law_o (refine step_copy_runI rfl _ _ 30 30 rfl _ _ qdo qdo (hcpB' _ _ _) ?_)
 go_wp2;go_ret;exact⟨AI,C2,rfl,hGn,HGM.o,zu.o.1,zu.o.2,HX.o.1,HX.o.2.1,HX.o.2.2,rfl,rfl,rfl⟩
theorem Xk(B n vb:X)(v:Z)(xs:L Z)(y:Z)(w:E)(ho:w.ownsRow B 9 1 v n xs)(hB:B≤w.heap.size)(hn:n≤5000)(hb:w.heap[vb]?=M (O #[y] 9 (0,0)))(K8:∀u∈[y],u.oneCell'=true):Calls prog 39 #[v,I n,J (p_ vb) 1 1] w λe w'=>∃g' cp,e=H (J (p_ g') (n+1) cp)∧w'.ownsRow B 9 1 (J (p_ g') (n+1) cp) (n+1) (xs++[y])∧Below B w w'∧Ih v.ownBlock w w'∧(v.ownBlock=M g'∨g'=w.heap.size):=by
 obtain⟨i0,hi,bm,bg,bi⟩:=info_parts Tryz.info9b;have HB:Hd (∀(g' cp:X)(w2:E),w2.ownsRow B 9 1 (J (p_ g') (n+1) cp) (n+1) (xs++[y])→w.grownBy w2 v.ownBlock→Below B w w2∧Ih v.ownBlock w w2):=λg' cp w2 k1 k2=>⟨(Below.refl _ _).grown k2 hB (λk hk=>(ho.lt k hk).1),λb hl aq=>k2.block b hl aq⟩;have HN:Hd (∀j u,[y][j]?=M u→w.cell? ((⟨vb,0,N⟩:Addr).add j)=M u):=World.news_of_block (cs:=#[y]) (t:=9) (fr:=(0,0)) hb;have HO:Hd (w.ownsRow B 9 1 v n xs):=ho
 rcases Dc ho with⟨rfl,rfl⟩|⟨g,c,rfl⟩
 ·clear hb ho
  exact qdv
 ·have O9:n≤c∧c≤maxLen:=by
   rcases ho.2 with⟨h,_⟩|⟨g',c',cur,hv,_,_,h1,h2,_⟩
   ·cases h
   ·cases hv;exact⟨h1,h2⟩
  obtain⟨yx,A6⟩:=O9;unfold maxLen at A6;clear hb ho
  by_cases A5:c=n
  ·subst A5
   exact qdv
  ·exact qdv
theorem Pv(B n i vb:X)(v:Z)(xs:L Z)(y:Z)(w:E)(ho:w.ownsRow B 9 1 v n xs)(hB:B≤w.heap.size)(hi:i≤n)(hn:n≤5000)(hb:w.heap[vb]?=M (O #[y] 9 (0,0)))(aq:v.ownBlock≠M vb)(h1c:∀u∈xs,u.oneCell'=true)(K8:∀u∈[y],u.oneCell'=true):Calls prog 39 #[v,I i,J (p_ vb) 1 1] w λe w'=>∃g' cp,e=H (J (p_ g') (n+1) cp)∧w'.ownsRow B 9 1 (J (p_ g') (n+1) cp) (n+1) (xs.take (i)++[y]++xs.drop (i))∧Below B w w'∧Ih v.ownBlock w w'∧(v.ownBlock=M g'∨g'=w.heap.size):=by
 have pi:xs.length=n:=zo ho.1
 rcases Nat.lt_or_ge i n with au|H0
 ·rcases ho.2 with⟨_,h0⟩|⟨g,c,cur,rfl,hg,hh,h1,h2,h3,h4⟩
  ·omega
  ·rw[Nat.mul_one]at h3 h4
   have hvb:vb≠g:=λe=>aq (by rw[e];rfl);have uo:g<w.heap.size:=An hh
   rcases Nat.lt_or_ge c (n+1)with hr|hr
   ·refine(Vl g n c i vb cur xs y w au h1 hr qg hh h4 pi hb h1c K8).mono ?_
    rintro e w' ⟨AI,C,rfl,k1,k2,k3,k4,k5,k6,k7,k8,k9,I6⟩;refine⟨_,AI,rfl,⟨by simp[pi];omega,Or.inr ⟨w.heap.size,AI,C.toArray,rfl,hB,k5,k1,k2,by simpa using k3,by simpa using k4⟩⟩,⟨k8,k9,I6,qg,λb hbb=>k7 b qg⟩,λb hl _=>k7 b hl,Or.inr rfl⟩
   ·refine(Tb g n c i vb cur y w au hr h2 hh h3 hb hvb (by rw[h4];exact h1c) K8 _ _ rfl rfl).mono ?_
    rintro e w' ⟨rfl,rfl⟩;rw[h4];obtain⟨l2,t2⟩:=Zf cur.toList xs [y] i n hi h4 (by rw[Array.length_toList,h3];omega) rfl _ _ rfl rfl;refine⟨g,c,rfl,⟨by simp[pi];omega,Or.inr ⟨g,c,_,rfl,hg,setRow_heap _ _ _ _ _ _ (setRow_heap w.drew _ _ _ _ _ hh),hr,h2,?_,by simpa using t2⟩⟩,?_,?_,Or.inl rfl⟩
    ·rw[List.size_toArray,l2,Array.length_toList,Nat.mul_one];exact h3
    ·exact below_setRow (below_setRow (Below.refl _ _).drew hg _) hg _
    ·intro b hl hne'
     have hbg:b≠g:=λe=>hne' (by rw[e];rfl);rw[setRow_other _ _ _ _ hbg,setRow_other _ _ _ _ hbg];rfl
 ·obtain rfl:i=n:=qg
  refine(Xk B i vb v xs y w ho hB hn hb K8).mono ?_;rintro e w' ⟨g',cp,rfl,k1,k2,k3,k4⟩;refine⟨g',cp,rfl,?_,k2,k3,k4⟩;rw[List.take_of_length_le qg,List.drop_of_length_le qg,List.append_nil];exact k1
end Go.Proofs.YtoihflimijabjaaGreatDoor
