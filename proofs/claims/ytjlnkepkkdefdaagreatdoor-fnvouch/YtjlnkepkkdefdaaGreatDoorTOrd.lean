import Derived.Test.YtjlnkepkkdefdaaGreatDoorTForm
import Derived.Test.YtjlnkepkkdefdaaGreatDoorTClF
import Derived.Test.YtjlnkepkkdefdaaGreatDoorTChkA
import Derived.Deep.RegionHeld3
import Derived.Test.YtjlnkepkkdefdaaGreatDoorProg
import Derived.WalkKit
import Derived.Deep.AppendLies
namespace Go.Proofs.YtjlnkepkkdefdaaGreatDoor
open Go.RowKit
set_option linter.unusedVariables false
set_option maxHeartbeats 8000000
set_option maxRecDepth 100000
set_option linter.unusedSimpArgs false
theorem Pz {w:World} {B B' e sz n:Nat} {v:Value} {xs:List Value} (h:w.ownsRow B e sz v n xs) (hB:B'<=B):w.ownsRow B' e sz v n xs:=by
 refine⟨h.1,?_⟩
 rcases h.2 with h|⟨g,cap,cur,hv,hg,r⟩
 ·exact Or.inl h
 ·exact Or.inr ⟨g,cap,cur,hv,Nat.le_trans hB hg,r⟩
theorem Nn {w:World} {B e sz n:Nat} {v:Value} {xs:List Value} (h:w.ownsRow B e sz v n xs):(v=.slice none 0 0/\n=0)\/∃ g cap,v=.slice (some ⟨g,0,none⟩) n cap:=by
 rcases h.2 with h|⟨g,cap,cur,hv,hg,r⟩
 ·exact Or.inl h
 ·exact Or.inr ⟨g,cap,hv⟩
def Nh (lo hi:Nat) (w w':World):Prop:=∀ b,b<w.heap.size->(b<lo\/hi<=b)->w'.heap[b]?=w.heap[b]?
theorem Nh.set {lo hi:Nat} {w:World} {g:Nat} (h1:lo<=g) (h2:g<hi) (j:Nat) (v:Value):Nh lo hi w (w.setCell ⟨g,j,none⟩ v):=fun b hb hr=>hC w ⟨g,j,none⟩ v b (by show b≠g;omega)
structure Dd (w:World) (lo hi e sz:Nat) (v:Value) (n:Nat) (xs:List Value):Prop where
 own:w.ownsRow lo e sz v n xs
 top:∀ b,v.ownBlock=some b->b<hi
theorem Py {w w':World} {B e sz n:Nat} {v:Value} {xs:List Value} (h:w.ownsRow B e sz v n xs) (hk:∀ b,v.ownBlock=some b->w'.heap[b]?=w.heap[b]?):w'.ownsRow B e sz v n xs:=by
 refine⟨h.1,?_⟩
 rcases h.2 with h2|⟨g,cap,cur,hv,hg,hh,r⟩
 ·exact Or.inl h2
 ·refine Or.inr ⟨g,cap,cur,hv,hg,?_,r⟩;subst hv;rw[hk g rfl];exact hh
theorem Dd.same {w w':World} {lo hi e sz n:Nat} {v:Value} {xs:List Value} (h:Dd w lo hi e sz v n xs) (hk:∀ b,v.ownBlock=some b->w'.heap[b]?=w.heap[b]?):Dd w' lo hi e sz v n xs:=⟨Py h.own hk,h.top⟩
theorem Dd.keep {w w':World} {lo hi lo' hi' e sz n:Nat} {v:Value} {xs:List Value} (h:Dd w lo hi e sz v n xs) (hk:Nh lo' hi' w w') (hd:hi<=lo'\/hi'<=lo):Dd w' lo hi e sz v n xs:=h.same fun b e=>hk b (h.own.lt b e).2 (by have h1:=(h.own.lt b e).1;have h2:=h.top b e;omega)
theorem Dd.wide {w:World} {lo hi lo' hi' e sz n:Nat} {v:Value} {xs:List Value} (h:Dd w lo hi e sz v n xs) (h1:lo'<=lo) (h2:hi<=hi'):Dd w lo' hi' e sz v n xs:=⟨Pz h.own h1,fun b e=>by have:=h.top b e;omega⟩
theorem neT {w:World} {B B' e e' sz sz' n n':Nat} {v v':Value} {xs xs':List Value} (h:w.ownsRow B e sz v n xs) (h':w.ownsRow B' e' sz' v' n' xs') (hne:e≠e'):∀ b,v.ownBlock=some b->v'.ownBlock≠some b:=by
 intro b hb eb
 rcases h.2 with ⟨rfl,_⟩|⟨g,cap,cur,rfl,hg,hh,_⟩
 ·simp[Value.ownBlock] at hb
 ·rcases h'.2 with ⟨rfl,_⟩|⟨g',cap',cur',rfl,hg',hh',_⟩
  ·simp[Value.ownBlock] at eb
  ·simp only[Value.ownBlock,Option.some.injEq] at hb eb;subst hb;rw[eb] at hh';rw[hh] at hh';simp at hh';exact hne hh'.2
def Lr (w:World) (lo hi:Nat) (v:Value) (ss:List S2):Prop:=∃ xs,Dd w lo hi 98 2 v ss.length xs/\Jb ss ss.length xs
theorem Lr.keep {w w':World} {lo hi lo' hi':Nat} {v:Value} {ss:List S2} (h:Lr w lo hi v ss) (hk:Nh lo' hi' w w') (hd:hi<=lo'\/hi'<=lo):Lr w' lo hi v ss:=by
 obtain⟨xs,h1,h2⟩:=h;exact⟨xs,h1.keep hk hd,h2⟩
theorem Lr.wide {w:World} {lo hi lo' hi':Nat} {v:Value} {ss:List S2} (h:Lr w lo hi v ss) (h1:lo'<=lo) (h2:hi<=hi'):Lr w lo' hi' v ss:=by
 obtain⟨xs,k1,k2⟩:=h;exact⟨xs,k1.wide h1 h2,k2⟩
theorem Lr.sl {w:World} {lo hi:Nat} {v:Value} {ss:List S2} (h:Lr w lo hi v ss):∃ a cap,v=.slice a ss.length cap/\Iz w a ss:=by
 obtain⟨xs,h1,h2⟩:=h
 rcases Nn h1.own with ⟨rfl,h0⟩|⟨g,cap,rfl⟩
 ·exact⟨none,0,by rw[h0],fun i hi=>by omega⟩
 ·exact⟨_,cap,rfl,rowS_own rfl h1.own h2⟩
structure Th (w:World) (lo hi:Nat) (v:Value) (ts:List T2) (xs:List Value) (cv:Nat->Value):Prop where
 row:Dd w lo hi 62 2 v ts.length xs
 fil:∀ i,i<ts.length->xs[i*2]?=some (.string (tx ts i).name)/\xs[i*2+1]?=some (cv i)
 code:∀ i,i<ts.length->∃ ys,Dd w lo hi 106 3 (cv i) (tx ts i).code.length ys/\Fw (tx ts i).code (tx ts i).code.length ys
 apart:∀ i j,i<j->j<ts.length->∀ b,(cv i).ownBlock=some b->(cv j).ownBlock≠some b
def Lf (w:World) (lo hi:Nat) (v:Value) (ts:List T2):Prop:=∃ xs cv,Th w lo hi v ts xs cv
theorem Th.keep {w w':World} {lo hi lo' hi':Nat} {v:Value} {ts:List T2} {xs:List Value} {cv:Nat->Value} (h:Th w lo hi v ts xs cv) (hk:Nh lo' hi' w w') (hd:hi<=lo'\/hi'<=lo):Th w' lo hi v ts xs cv:=
 ⟨h.row.keep hk hd,h.fil,fun i hi=>by obtain⟨ys,h1,h2⟩:=h.code i hi;exact⟨ys,h1.keep hk hd,h2⟩,h.apart⟩
theorem Th.wide {w:World} {lo hi lo' hi':Nat} {v:Value} {ts:List T2} {xs:List Value} {cv:Nat->Value} (h:Th w lo hi v ts xs cv) (h1:lo'<=lo) (h2:hi<=hi'):Th w lo' hi' v ts xs cv:=
 ⟨h.row.wide h1 h2,h.fil,fun i hi=>by obtain⟨ys,k1,k2⟩:=h.code i hi;exact⟨ys,k1.wide h1 h2,k2⟩,h.apart⟩
theorem Lf.keep {w w':World} {lo hi lo' hi':Nat} {v:Value} {ts:List T2} (h:Lf w lo hi v ts) (hk:Nh lo' hi' w w') (hd:hi<=lo'\/hi'<=lo):Lf w' lo hi v ts:=by
 obtain⟨xs,cv,h⟩:=h;exact⟨xs,cv,h.keep hk hd⟩
theorem Lf.wide {w:World} {lo hi lo' hi':Nat} {v:Value} {ts:List T2} (h:Lf w lo hi v ts) (h1:lo'<=lo) (h2:hi<=hi'):Lf w lo' hi' v ts:=by
 obtain⟨xs,cv,h⟩:=h;exact⟨xs,cv,h.wide h1 h2⟩
theorem Uv {w:World} {lo hi:Nat} {v:Value} {is:List I3} {ys:List Value} (h:Dd w lo hi 106 3 v is.length ys) (hf:Fw is is.length ys):∃ a cap,v=.slice a is.length cap/\Dr w a is:=by
 rcases Nn h.own with ⟨rfl,h0⟩|⟨g,cap,rfl⟩
 ·exact⟨none,0,by rw[h0],fun i hi=>by omega⟩
 ·refine⟨_,cap,rfl,fun i hi=>?_⟩;obtain⟨h1,h2,h3⟩:=hf i hi;refine⟨g,0,rfl,?_,?_,?_⟩
  ·rw[Nat.zero_add,h.own.cellAt _ (by omega)];exact h1
  ·rw[Nat.zero_add,h.own.cellAt _ (by omega)];exact h2
  ·rw[Nat.zero_add,h.own.cellAt _ (by omega)];exact h3
theorem Lf.sl {w:World} {lo hi:Nat} {v:Value} {ts:List T2} (h:Lf w lo hi v ts):∃ a cap,v=.slice a ts.length cap/\Iy w a ts:=by
 obtain⟨xs,cv,h⟩:=h
 rcases Nn h.row.own with ⟨rfl,h0⟩|⟨g,cap,rfl⟩
 ·exact⟨none,0,by rw[h0],fun i hi=>by omega⟩
 ·refine⟨_,cap,rfl,fun i hi=>?_⟩;obtain⟨h1,h2⟩:=h.fil i hi;obtain⟨ys,k1,k2⟩:=h.code i hi;obtain⟨a',cap',e,r⟩:=Uv k1 k2;refine⟨g,0,rfl,?_,a',cap',?_,r⟩
  ·rw[Nat.zero_add,h.row.own.cellAt _ (by omega)];exact h1
  ·rw[Nat.zero_add,h.row.own.cellAt _ (by omega),h2,e]
theorem Lr.set {w:World} {lo hi b j:Nat} {v:Value} {ss:List S2} (h:Lr w lo hi v ss) (hb:b<lo) (u:Value):Lr (w.setCell ⟨b,j,none⟩ u) lo hi v ss:=h.keep (Nh.set (lo:=b) (hi:=b+1) (Nat.le_refl _) (Nat.lt_succ_self _) j u) (Or.inr hb)
theorem Lf.set {w:World} {lo hi b j:Nat} {v:Value} {ts:List T2} (h:Lf w lo hi v ts) (hb:b<lo) (u:Value):Lf (w.setCell ⟨b,j,none⟩ u) lo hi v ts:=h.keep (Nh.set (lo:=b) (hi:=b+1) (Nat.le_refl _) (Nat.lt_succ_self _) j u) (Or.inr hb)
structure Er (w:World) (lo:Nat) (is:List T2) (k:Nat) (xs:List Value) (cv:Nat->Value):Prop where
 fil:∀ i,i<k->xs[i*2]?=some (.string (tx is i).name)/\xs[i*2+1]?=some (cv i)
 code:∀ i,i<k->∃ ys,w.ownsRow lo 106 3 (cv i) (tx is i).code.length ys/\Fw (tx is i).code (tx is i).code.length ys
 apart:∀ i j,i<j->j<k->∀ b,(cv i).ownBlock=some b->(cv j).ownBlock≠some b
theorem Er.same {w w':World} {lo:Nat} {is:List T2} {k:Nat} {xs:List Value} {cv:Nat->Value} (h:Er w lo is k xs cv) (hk:∀ b,lo<=b->b<w.heap.size->w'.heap[b]?=w.heap[b]?):Er w' lo is k xs cv:=
 ⟨h.fil,fun i hi=>by
  obtain⟨ys,h1,h2⟩:=h.code i hi;exact⟨ys,Py h1 (fun b e=>hk b (h1.lt b e).1 (h1.lt b e).2),h2⟩,h.apart⟩
theorem Er.set {w:World} {lo b j:Nat} {is:List T2} {k:Nat} {xs:List Value} {cv:Nat->Value} (h:Er w lo is k xs cv) (hb:b<lo) (u:Value):Er (w.setCell ⟨b,j,none⟩ u) lo is k xs cv:=h.same fun c hc _=>hC w ⟨b,j,none⟩ u c (by show c≠b;omega)
theorem Er.zero (w:World) (lo:Nat) (is:List T2) (xs:List Value):Er w lo is 0 xs (fun _=>.slice none 0 0):=⟨fun i hi=>by omega,fun i hi=>by omega,fun i j _ hj=>by omega⟩
theorem Er.add {w w2:World} {lo:Nat} {is:List T2} {k:Nat} {xs xs2:List Value} {cv:Nat->Value} (h:Er w lo is k xs cv) (hb:Below w.heap.size w w2) (hl:lo<=w.heap.size) {c:Value} {ys:List Value} (ho:w2.ownsRow w.heap.size 106 3 c (tx is k).code.length ys) (hf:Fw (tx is k).code (tx is k).code.length ys)
  (h1:∀ j,j<k*2->xs2[j]?=xs[j]?) (h2:xs2[k*2]?=some (.string (tx is k).name)) (h3:xs2[k*2+1]?=some c):Er w2 lo is (k+1) xs2 (fun i=>if i=k then c else cv i):=by
 refine⟨fun i hi=>?_,fun i hi=>?_,fun i j hij hj=>?_⟩
 ·rcases Nat.lt_or_ge i k with hl|hl
  ·obtain⟨k1,k2⟩:=h.fil i hl;rw[h1 _ (by omega),h1 _ (by omega),if_neg (by omega)];exact⟨k1,k2⟩
  ·obtain rfl:i=k:=by omega
   rw[if_pos rfl];exact⟨h2,h3⟩
 ·rcases Nat.lt_or_ge i k with hlt|hge
  ·obtain⟨zs,k1,k2⟩:=h.code i hlt;simp only[if_neg (show ¬ i=k by omega)];exact⟨zs,Py k1 (fun b e=>hb.block b (k1.lt b e).2),k2⟩
  ·obtain rfl:i=k:=by omega
   simp only[if_true];exact⟨ys,Pz ho hl,hf⟩
 ·rcases Nat.lt_or_ge j k with hlt|hge
  ·simp only[if_neg (show ¬ i=k by omega),if_neg (show ¬ j=k by omega)];exact h.apart i j hij hlt
  ·obtain rfl:j=k:=by omega
   simp only[if_neg (show ¬ i=j by omega),if_true];intro b e1 e2;obtain⟨zs,k1,_⟩:=h.code i hij;have:=(k1.lt b e1).2;have:=(ho.lt b e2).1;omega
theorem Er.own {w:World} {lo lo' hi:Nat} {v:Value} {is:List T2} {xs:List Value} {cv:Nat->Value} (h:Er w lo' is is.length xs cv) (hr:w.ownsRow lo 62 2 v is.length xs) (hl:lo<=lo') (hh:w.heap.size<=hi):Lf w lo hi v is:=
 ⟨xs,cv,⟨hr,fun b e=>by have:=(hr.lt b e).2;omega⟩,h.fil,fun i hi=>by
  obtain⟨ys,h1,h2⟩:=h.code i hi;exact⟨ys,⟨Pz h1 hl,fun b e=>by have:=(h1.lt b e).2;omega⟩,h2⟩,h.apart⟩
structure RowsT (w:World) (lo hi:Nat) (v:Value) (n:Nat) (cl:Nat->Nat) (xs:List Value) (cv:Nat->Value):Prop where
 row:Dd w lo hi 62 2 v n xs
 sec:∀ i,i<n->xs[i*2+1]?=some (cv i)
 code:∀ i,i<n->∃ ys,Dd w lo hi 106 3 (cv i) (cl i) ys
 apart:∀ i j,i<n->j<n->i≠j->∀ b,(cv i).ownBlock=some b->(cv j).ownBlock≠some b
theorem Dj {w:World} {b:Nat} {o:Obj} (h:w.heap[b]?=some o):b<w.heap.size:=by
 rcases Nat.lt_or_ge b w.heap.size with h'|h'
 ·exact h'
 ·rw[Array.getElem?_eq_none h'] at h;cases h
theorem Al (w:World) (o:Obj):(w.alloc o).heap[w.heap.size]?=some o:=by unfold World.alloc;simp
structure Sp (w:World) (b lo hi:Nat) (v1 v2:Value) (ss:List S2) (ts:List T2):Prop where
 blk:w.heap[b]?=some (.cells #[v1,v2] 26 (0,0))
 s:Lr w lo hi v1 ss
 t:Lf w lo hi v2 ts
theorem Am {w:World} {b T:Nat} {v1 v2:Value} (h:w.heap[b]?=some (.cells #[v1,v2] T (0,0))):w.cell? ⟨b,0,none⟩=some v1/\w.cell? ⟨b,1,none⟩=some v2:=
 ⟨by rw[cH h];rfl,by rw[cH h];rfl⟩
theorem Aa {w w':World} {b:Nat} {o:Obj} (h:w.heap[b]?=some o) (hb:Below w.heap.size w w'):w'.heap[b]?=some o:=by rw[hb.block _ (Dj h)];exact h
section
open Go.Deep
structure Rs (w:World) (b lo hi:Nat) (c:Int) (t:ByteArray) (v:Value) (ch:List ByteArray):Prop where
 blk:w.heap[b]?=some (.cells #[.int .i64 c,.string t,v] 32 (0,0))
 row:Dd w lo hi 9 1 v ch.length (Bf ch)
end
section
open Go.Deep
theorem Nm {f:Nat} {xi:Nat} {ty:TypeId} {W:World} {ops:Array Oper} {o:Oper} {a:Act} {K:Act->World->Prop} {Q:Exit->Act->World->Prop} {E:Prop} (hgd:o.guard=none)
  (ho:o.op=.call { callee:=.value (.func f),args:=#[.tmp xi],argTypes:=#[ty] }) (v1:Value) (hx:a.eval (.tmp xi)=v1) {P:Value->World->Prop} (hc:Calls Tryz.prog f #[v1] W fun e w'=>∃ v,e=.returned v/\P v w') (hfn:∀ W:World,(callFunc f #[v1]).run Tryz.prog W=.ok (.enter f #[v1]) W) (h:∀ v w',P v w'->K (a.put o.dst v) w') :
  if Region.wanted o (yielded ops a.tmps)=true then Oper.wp Tryz.prog o a W K Q else E:=by
 have hw:Region.wanted o (yielded ops a.tmps)=true:=by simp[Region.wanted,hgd]
 have hrun:(execOp a.eval o).run Tryz.prog W=.ok (.enter f #[v1]) W:=by
  unfold execOp;rw[ho];simp[Act.eval] at hx;simp[go_sem,Act.eval,hx];exact hfn W
 rw[if_pos hw]
 unfold Oper.wp
 rw[hrun,Oper.upon_enter]
 refine hc.mono ?_
 rintro e w' ⟨v,rfl,hp⟩
 exact h v w' hp
theorem Nl {f:Nat} {xi yi:Nat} {ty ty':TypeId} {W:World} {ops:Array Oper} {o:Oper} {a:Act} {K:Act->World->Prop} {Q:Exit->Act->World->Prop} {E:Prop} (hgd:o.guard=none)
  (ho:o.op=.call { callee:=.value (.func f),args:=#[.tmp xi,.tmp yi],argTypes:=#[ty,ty'] }) (v1 v2:Value) (hx:a.eval (.tmp xi)=v1) (hy:a.eval (.tmp yi)=v2) {P:Value->World->Prop} (hc:Calls Tryz.prog f #[v1,v2] W fun e w'=>∃ v,e=.returned v/\P v w') (hfn:∀ W:World,(callFunc f #[v1,v2]).run Tryz.prog W=.ok (.enter f #[v1,v2]) W) (h:∀ v w',P v w'->K (a.put o.dst v) w') :
  if Region.wanted o (yielded ops a.tmps)=true then Oper.wp Tryz.prog o a W K Q else E:=by
 have hw:Region.wanted o (yielded ops a.tmps)=true:=by simp[Region.wanted,hgd]
 have hrun:(execOp a.eval o).run Tryz.prog W=.ok (.enter f #[v1,v2]) W:=by
  unfold execOp;rw[ho];simp[Act.eval] at hx hy;simp[go_sem,Act.eval,hx,hy];exact hfn W
 rw[if_pos hw]
 unfold Oper.wp
 rw[hrun,Oper.upon_enter]
 refine hc.mono ?_
 rintro e w' ⟨v,rfl,hp⟩
 exact h v w' hp
theorem step_appR {s x:Operand} {W:World} {ops:Array Oper} {o:Oper} {a:Act} {K:Act->World->Prop} {Q:Exit->Act->World->Prop} {E:Prop} (hgd:o.guard=none)
  (ho:o.op=.call { callee:=.builtin .append,args:=#[s,x],argTypes:=#[29,29] }) (B g0:Nat) (hs:a.eval s=.slice (some ⟨g0,0,none⟩) 0 0) (hown:W.ownsRow B 45 3 (.slice (some ⟨g0,0,none⟩) 0 0) 0 []) (d n cap:Nat) (xs:List Value) (hn:0<n) (hn2:n<=200) (hx:a.eval x=.slice (some ⟨d,0,none⟩) n cap) (hc:W.ownsRow B 45 3 (.slice (some ⟨d,0,none⟩) n cap) n xs) (h1:∀ u∈xs,u.oneCell'=true) (hB:B<=W.heap.size)
  (h:∀ g' cap' w',w'.ownsRow B 45 3 (.slice (some ⟨g',0,none⟩) n cap') n xs->W.grownBy w' (some g0)->K (a.put o.dst (.slice (some ⟨g',0,none⟩) n cap')) w') :
  if Region.wanted o (yielded ops a.tmps)=true then Oper.wp Tryz.prog o a W K Q else E:=by
 obtain⟨i0,hi,hz0,hz1,hz2⟩:=info_parts Tryz.info45
 refine step_append_lies (w:=W) hgd s x 29 ho B 45 i0 (.agg #[.string ⟨#[]⟩,.bool false,.string ⟨#[]⟩]) 3 40 Tryz.underlying29 hi hz0 hz1 hz2 rfl (by decide) _ 0 [] hs hown ⟨d,0,none⟩ n cap xs hx hc.1
  (fun j u hu=>hc.cells (g:=d) (by simp[Value.ownBlock]) j u hu) h1 hn (by unfold maxLen;omega) (by omega) hB W.heap.size rfl ?_
 intro g' cap' w' k1 k2 k3 k4
 rw[Nat.zero_add,List.nil_append] at k1
 rw[Nat.zero_add]
 exact h g' cap' w' k1 k2
theorem row_at {B:Nat} {w:World} {ms:Ms} {mv:Value} {vs:Nat->Value} (hr:w.ownsRow B 72 6 mv ms.length (Ox ms vs)):∃ a cap,mv=.slice a ms.length cap/\∀ i,i<ms.length->∃ g,a=some ⟨g,0,none⟩/\∀ j,j<6->w.cell? ⟨g,i*6+j,none⟩=(Vz (mx ms i) (vs i))[j]?:=by
 rcases hr.2 with ⟨e,h0⟩|⟨g,cap,cur,rfl,_⟩
 ·exact⟨none,0,by rw[e,h0],fun i hi=>by omega⟩
 ·exact⟨some ⟨g,0,none⟩,cap,rfl,fun i hi=>⟨g,rfl,fun j hj=>by rw[hr.cellAt (i*6+j) (by omega),Ov ms vs i j hi hj]⟩⟩
theorem find_done (B h:Nat) (ms:Ms) (mv:Value) (vs:Nat->Value) (nm:ByteArray) (w:World) (c2:w.cell? ⟨h,2,none⟩=some mv) (row:w.ownsRow B 72 6 mv ms.length (Ox ms vs)) (hl:ms.length<=1048576) :
  Calls Tryz.prog 22 #[.pointer (some ⟨h,0,none⟩),.string nm] w fun e w'=>w'=w/\((∃ i:Nat,e=.returned (.int .i64 i)/\i<ms.length/\(mx ms i).1=nm/\∀ j,j<i->(mx ms j).1≠nm)\/(e=.returned (.int .i64 (-1))/\∀ j,j<ms.length->(mx ms j).1≠nm)):=by
 obtain⟨a,cap,rfl,hat⟩:=row_at row
 have HAT:Hd (∀ i,i<ms.length->∃ g,a=some ⟨g,0,none⟩/\∀ j,j<6->w.cell? ⟨g,i*6+j,none⟩=(Vz (mx ms i) (vs i))[j]?):=hat
 clear hat row
 go_enter Tryz.func22,Tryz.ntmps22
 go_wp2
 go_loop [5] (fun i=>∃ k:Nat,k<=ms.length/\i=.int .i64 k/\Hd (∀ j,j<k->(mx ms j).1≠nm)) (fun i=>ms.length-(intOf i).toNat)
 case atStart=>exact⟨0,Nat.zero_le _,rfl,(fun j hj=>by omega:∀ j,j<0->(mx ms j).1≠nm)⟩
 case round=>
  obtain⟨k,hk,rfl,HK⟩:=hrel
  by_cases hlt:k<ms.length
  ·have hkI:(k:Int)<(ms.length:Int):=by omega
   obtain⟨g,rfl,hc⟩:=HAT.o k hlt;have e0:=hc 0 (by omega)
   have e1:w.cell? ⟨g,k*6,none⟩=some (.string (mx ms k).1):=by
    rw[Nat.add_zero] at e0;rw[e0];unfold Vz
    split<;>rfl
   clear e0 hc;have HQ:Hd ((mx ms k).1=nm->∃ i:Nat,(Ending.returned (.int .i64 k):Ending)=.returned (.int .i64 i)/\i<ms.length/\(mx ms i).1=nm/\∀ j,j<i->(mx ms j).1≠nm):=fun q=>⟨k,rfl,hlt,q,HK.o⟩;have HN:Hd ((mx ms k).1≠nm->∀ j,j<k+1->(mx ms j).1≠nm):=fun q=>Dc HK.o q;generalize (mx ms k).1=x at e1 HQ HN
   by_cases q:x=nm
   ·have dq:=Eh q;have HO:Hd _:=HQ.o q;clear q HQ HN;go_wp2_with fail;go_ret;exact⟨rfl,Or.inl HO.o⟩
   ·have dq:=Es q;have HO:Hd (∀ j,j<k+1->(mx ms j).1≠nm):=HN.o q;clear q HQ HN;go_wp2_with fail
    go_round
    case rel=>exact⟨k+1,by omega,by go_num,HO.o⟩
    case measure=>simp[intOf];omega
  ·have hkI:¬ (k:Int)<(ms.length:Int):=by omega
   have HO:Hd (∀ j,j<ms.length->(mx ms j).1≠nm):=fun j hj=>HK.o j (by omega);go_wp2_with fail;go_ret;exact⟨rfl,Or.inr ⟨rfl,HO.o⟩⟩
end
section
section
variable {P:Program} {ops:Array Oper} {Q:Exit->Act->World->Prop} {S:World->Prop} {z:Nat}
def Lt (P:Program) (ops:Array Oper) (Q:Exit->Act->World->Prop) (S:World->Prop) (z:Nat):Nat->Array Bool->Act->World->Prop
 | 0,l,a,w=>Region.ready .any ops l=[]/\Q .normal a w
 | n+1,l,a,w=>(Region.ready .any ops l=[]->Q .normal a w)/\∀ i∈Region.ready .any ops l,wpOp P ops Q i (fun a' w'=>(i≠z->S w')/\Lt P ops Q S z n (l.setIfInBounds i true) a' w') a w
theorem Lt.any:∀(n:Nat) (l:Array Bool) (a:Act) (w:World),Lt P ops Q S z n l a w->wpAny P .any ops Q n l a w
 | 0,_,_,_,h=>h
 | n+1,_,_,_,h=>⟨h.1,fun i hi=>wpOp_mono (fun a' w' h'=>Lt.any n _ a' w' h'.2) (h.2 i hi)⟩
theorem Lt.begin {id:Nat} {a:Act} {w:World} (z:Nat) (S:World->Prop) (hm:P.follows .mixedOrders=true) (h:Lt P ops Q S z ops.size (Array.replicate ops.size false) a w.drew):(Code.region id ops true).wp P Q a w:=wp_region_any hm (Lt.any _ _ _ _ h)
theorem Lt.done {l:Array Bool} {a:Act} {w:World} (hr:Region.ready .any ops l=[]) (h:Q .normal a w):∀ n,Lt P ops Q S z n l a w
 | 0=>⟨hr,h⟩
 | _+1=>⟨fun _=>h,by rw[hr];simp⟩
theorem Lt.step {i:Nat} {o:Oper} {n:Nat} {l:Array Bool} {a:Act} {w:World} (hr:Region.ready .any ops l=[i]) (ho:ops[i]?=some o)
  (h:∀ K:Act->World->Prop,Shut (∀ a w,(i≠z->S w)->((i≠z->S w)->Lt P ops Q S z n (l.setIfInBounds i true) a w)->K a w)->if Region.wanted o (yielded ops a.tmps)=true then Oper.wp P o a w K Q else K (a.put o.dst undef) w):Lt P ops Q S z (n+1) l a w:=by
 refine⟨fun h0=>(by rw[hr] at h0;cases h0),fun j hj=>?_⟩
 rw[hr] at hj
 obtain rfl:j=i:=by simpa using hj
 exact wpOp_step ho (fun K hK=>h K (fun a w hS hW=>hK a w ⟨hS,hW hS⟩))
theorem Lt.take1 {i:Nat} {oi:Oper} {v:Value} (hi:ops[i]?=some oi) (hsel:∀(j:Nat) (o:Oper) cs b,ops[j]?=some o->o.op≠.select cs b)
  (hQ:∀ c a w,Q (.panic c) (a.put oi.dst v) w->Q (.panic c) a w) (hz:∀ oz,ops[z]?=some oz->∃ e∈oz.after,Region.binds .any e=true/\e.on=i) :
  ∀(n:Nat) (l:Array Bool) (a:Act) (w:World),
   (∀ j oj,ops[j]?=some oj->j≠i->l.getD j true=false->(∀ e∈oj.after,Region.binds .any e=true->e.on≠i)->oi.apart ops oj=true)→
   i∈Region.ready .any ops l->YieldsIf P ops S oi v a->S w->Lt P ops Q S z n (l.setIfInBounds i true) (a.put oi.dst v) w->Lt P ops Q S z (n+1) l a w:=by
 intro n
 induction n with
 | zero=>
  intro l a w _ hr hy hS H;refine⟨fun h=>(by rw[h] at hr;cases hr),fun j hj=>?_⟩
  rcases Decidable.em (j=i) with rfl|hji
  ·exact hy.wpOp hi hS ⟨fun _=>hS,H⟩
  ·exact absurd (H.1▸ready_mono hj hji) (by simp)
 | succ n ih=>
  intro l a w hf hr hy hS H;refine⟨fun h=>(by rw[h] at hr;cases hr),fun j hj=>?_⟩
  rcases Decidable.em (j=i) with rfl|hji
  ·exact hy.wpOp hi hS ⟨fun _=>hS,H⟩
  obtain⟨hj0,oj,hoj,hall⟩:=mem_ready.1 hj
  have hno:∀ e∈oj.after,Region.binds .any e=true->e.on≠i:=fun e he hb heq=>by
   have h1:=hall e he hb;have h0:=(mem_ready.1 hr).1;rw[heq] at h1
   rcases Nat.lt_or_ge i l.size with h'|h'
   ·simp[h'] at h0 h1;rw[h0] at h1;cases h1
   ·simp[Array.getElem?_eq_none h'] at h1
  have hjz:j≠z:=fun e=>by
   subst e;obtain⟨ed,h1,h2,h3⟩:=hz oj hoj;exact hno ed h1 h2 h3
  have hf2:∀ k ok,ops[k]?=some ok->k≠i->(l.setIfInBounds j true).getD k true=false->(∀ e∈ok.after,Region.binds .any e=true->e.on≠i)->oi.apart ops ok=true:=fun k ok hk hki hun hn=>by
   refine hf k ok hk hki ?_ hn
   rcases Decidable.em (j=k) with rfl|hjk
   ·exact hj0
   ·rw[getD_set_ne true hjk] at hun;exact hun
  refine wpOp_mono (fun a' w' h3=>⟨h3.2.1,ih (l.setIfInBounds j true) a' w' hf2 (ready_mono hr (Ne.symm hji)) h3.1 (h3.2.1 hjz) ?_⟩) (wpOp_putIf hoj (hf j oj hoj hji hj0 hno) (fun cs b=>hsel i oi cs b hi) (fun cs b=>hsel j oj cs b hoj) hQ hy (H.2 j (ready_mono hj hji)));rw[Array.setIfInBounds_comm _ _ hji];exact h3.2.2
def Wx (ops:Array Oper) (z i:Nat):Bool:=match ops[z]? with
 | some o=>o.after.any fun e=>Region.binds .any e && e.on == i
 | none=>true
theorem waits_spec {i:Nat} (h:Wx ops z i=true):∀ oz,ops[z]?=some oz->∃ e∈oz.after,Region.binds .any e=true/\e.on=i:=by
 intro oz hoz
 unfold Wx at h
 rw[hoz] at h
 obtain⟨k,hk,he⟩:=Array.any_eq_true.1 h
 simp at he
 exact⟨_,Array.getElem_mem hk,he.1,he.2⟩
theorem Lt.take {i:Nat} {oi:Oper} {v:Value} {n:Nat} {l:Array Bool} {a:Act} {w:World} (hi:ops[i]?=some oi) (hs:Region.noSelect ops=true) (hf:Region.free .any ops l i=true) (hr:(Region.ready .any ops l).contains i=true) (hz:Wx ops z i=true)
  (hQ:∀ c a w,Q (.panic c) (a.put oi.dst v) w->Q (.panic c) a w) (hS:S w) (hy:YieldsIf P ops S oi v a) (h:Lt P ops Q S z n (l.setIfInBounds i true) (a.put oi.dst v) w):Lt P ops Q S z (n+1) l a w:=
 Lt.take1 hi (Region.noSelect_spec hs) hQ (waits_spec hz) n l a w (Region.free_spec hi hf) (by simpa using hr) hy hS h
theorem Lt.tk {i:Nat} {oi:Oper} {v:Value} {n:Nat} {l:Array Bool} {a:Act} {w:World} (hi:ops[i]?=some oi) (hc:(Region.noSelect ops && Region.free .any ops l i && (Region.ready .any ops l).contains i && Wx ops z i)=true)
  (hQ:∀ c a w,Q (.panic c) (a.put oi.dst v) w->Q (.panic c) a w) (hS:S w) (hy:YieldsIf P ops S oi v a) (h:Lt P ops Q S z n (l.setIfInBounds i true) (a.put oi.dst v) w):Lt P ops Q S z (n+1) l a w:=by
 simp only[Bool.and_eq_true] at hc
 exact Lt.take hi hc.1.1.1 hc.1.1.2 hc.1.2 hc.2 hQ hS hy h
theorem gX:(∀(a:Act) (d:Option Tmp) (v:Value),a.put d v=match d with|some d=>{ a with tmps:=a.tmps.setIfInBounds d v }|none=>a)/\(∀ {α:Type} (l:List α) (i:Nat) (a:α),l.toArray.setIfInBounds i a=(l.set i a).toArray)/\(∀ {α:Type} (a b:α) (l:List α),(a :: l).set 0 b=b :: l)/\∀ {α:Type} (a b:α) (l:List α) (n:Nat),(a :: l).set (n+1) b=a :: l.set n b:=⟨fun _ _ _=>rfl,fun _ _ _=>by simp,fun _ _ _=>rfl,fun _ _ _ _=>rfl⟩
abbrev K (_:Nat) (p:Prop):Prop:=p
theorem Lt.ti {i:Nat} {oi:Oper} {v:Value} {n:Nat} {l:Array Bool} {a:Act} {w:World} (hS:S w) (hy:∀ w,S w->(execOp a.eval oi).run P w=.ok (.value v) w) (h:K (i+1) (Lt P ops Q S z n (l.setIfInBounds i true) (a.put oi.dst v) w)) (hi:ops.toList[i]?=some oi:=by rfl) (hc:(Region.noSelect ops && Region.free .any ops l i && (Region.ready .any ops l).contains i && Wx ops z i)=true:=by kernel_rfl)
  (hQ:∀ c a w,Q (.panic c) (a.put oi.dst v) w->Q (.panic c) a w:=by exact fun _ _ _ h=>h) (hg:Region.wanted oi (yielded ops a.tmps)=true:=by rfl):K i (Lt P ops Q S z (n+1) l a w):=Lt.tk (Array.getElem?_toList.symm.trans hi) hc hQ hS (Or.inl ⟨hg,hy⟩) h
theorem Lt.sp {i:Nat} {o:Oper} {n:Nat} {l:Array Bool} {a:Act} {w:World}
  (h:∀ K:Act->World->Prop,Shut (∀ a w,(i≠z->S w)->((i≠z->S w)->Lt P ops Q S z n (l.setIfInBounds i true) a w)->K a w)->if Region.wanted o (yielded ops a.tmps)=true then Oper.wp P o a w K Q else K (a.put o.dst undef) w) (ho:ops.toList[i]?=some o:=by rfl) (hr:Region.ready .any ops l=[i]:=by kernel_rfl):Lt P ops Q S z (n+1) l a w:=Lt.step hr (Array.getElem?_toList.symm.trans ho) h
end
end
end Go.Proofs.YtjlnkepkkdefdaaGreatDoor
