import Derived.Test.YtfgoholldpeabaaGreatDoorTImE
namespace Go.Proofs.YtfgoholldpeabaaGreatDoor
open _root_.Go.Proofs.Tryz Go.RowKit
set_option linter.unusedVariables false
set_option maxHeartbeats 8000000
set_option maxRecDepth 100000
set_option linter.unusedSimpArgs false
variable {w w':World} {B B' e sz n lo hi lo' hi' b j k i:Nat} {v:Value} {xs ys:List Value} {ss:List S2} {ts is:List T2} {cv:Nat->Value} {a:Act} {l:Array Bool} {oi:Oper}
theorem Jc (h:w.ownsRow B e sz v n xs) (hB:B'<=B):w.ownsRow B' e sz v n xs:=by
 exact qkk
theorem Gb (h:w.ownsRow B e sz v n xs):(v=nS/\n=0)\/∃ g cap,v=.slice (p_ g) n cap:=by
 rcases h.2 with h|⟨g,cap,cur,hv,hg,r⟩
 ·exact Or.inl h
 ·exact Or.inr ⟨g,cap,hv⟩
def Dj (lo hi:Nat) (w w':World):Prop:=∀ b,b<w.heap.size->(b<lo\/hi<=b)->w'.heap[b]?=w.heap[b]?
theorem Dj.set {g:Nat} (h1:lo<=g) (h2:g<hi) (j:Nat) (v:Value):Dj lo hi w (w.setCell ⟨g,j,none⟩ v):=fun b hb hr=>hC w ⟨g,j,none⟩ v b (by show b≠g;omega)
structure Bg (w:World) (lo hi e sz:Nat) (v:Value) (n:Nat) (xs:List Value):Prop where
 own:w.ownsRow lo e sz v n xs
 top:∀ b,v.ownBlock=some b->b<hi
theorem Qh (h:w.ownsRow B e sz v n xs) (hk:∀ b,v.ownBlock=some b->w'.heap[b]?=w.heap[b]?):w'.ownsRow B e sz v n xs:=by
 refine⟨h.1,?_⟩
 rcases h.2 with h2|⟨g,cap,cur,hv,hg,hh,r⟩
 ·exact Or.inl h2
 ·refine Or.inr ⟨g,cap,cur,hv,hg,?_,r⟩;subst hv;rw[hk g rfl];exact hh
theorem Bg.same (h:Bg w lo hi e sz v n xs) (hk:∀ b,v.ownBlock=some b->w'.heap[b]?=w.heap[b]?):Bg w' lo hi e sz v n xs:=⟨Qh h.own hk,h.top⟩
theorem Bg.keep (h:Bg w lo hi e sz v n xs) (hk:Dj lo' hi' w w') (hd:hi<=lo'\/hi'<=lo):Bg w' lo hi e sz v n xs:=h.same fun b e=>hk b (h.own.lt b e).2 (by have h1:=(h.own.lt b e).1;have h2:=h.top b e;omega)
theorem Bg.wide (h:Bg w lo hi e sz v n xs) (h1:lo'<=lo) (h2:hi<=hi'):Bg w lo' hi' e sz v n xs:=⟨Jc h.own h1,fun b e=>by have:=h.top b e;omega⟩
theorem Qk {e' sz' n':Nat} {v':Value} {xs':List Value} (h:w.ownsRow B e sz v n xs) (h':w.ownsRow B' e' sz' v' n' xs') (hne:e≠e'):∀ b,v.ownBlock=some b->v'.ownBlock≠some b:=by
 intro b hb eb
 rcases h.2 with ⟨rfl,_⟩|⟨g,cap,cur,rfl,hg,hh,_⟩
 ·simp[Value.ownBlock] at hb
 ·rcases h'.2 with ⟨rfl,_⟩|⟨g',ai,cur',rfl,hg',hh',_⟩
  ·simp[Value.ownBlock] at eb
  ·simp only[Value.ownBlock,Option.some.injEq] at hb eb;subst hb;rw[eb] at hh';rw[hh] at hh';simp at hh';exact hne hh'.2
def Hs (w:World) (lo hi:Nat) (v:Value) (ss:List S2):Prop:=∃ xs,Bg w lo hi 98 2 v ss.length xs/\Nn ss ss.length xs
theorem Hs.keep (h:Hs w lo hi v ss) (hk:Dj lo' hi' w w') (hd:hi<=lo'\/hi'<=lo):Hs w' lo hi v ss:=by
 obtain⟨xs,h1,h2⟩:=h;exact⟨xs,h1.keep hk hd,h2⟩
theorem Hs.wide (h:Hs w lo hi v ss) (h1:lo'<=lo) (h2:hi<=hi'):Hs w lo' hi' v ss:=by
 obtain⟨xs,k1,k2⟩:=h;exact⟨xs,k1.wide h1 h2,k2⟩
theorem Hs.sl (h:Hs w lo hi v ss):∃ a cap,v=.slice a ss.length cap/\Jv w a ss:=by
 obtain⟨xs,h1,h2⟩:=h
 rcases Gb h1.own with ⟨rfl,h0⟩|⟨g,cap,rfl⟩
 ·exact qbk
 ·exact⟨_,cap,rfl,rowS_own rfl h1.own h2⟩
structure Ls (w:World) (lo hi:Nat) (v:Value) (ts:List T2) (xs:List Value) (cv:Nat->Value):Prop where
 row:Bg w lo hi 100 2 v ts.length xs
 fil:∀ i,i<ts.length->xs[i*2]?=some (.string (tx ts i).name)/\xs[i*2+1]?=some (cv i)
 code:∀ i,i<ts.length->∃ ys,Bg w lo hi 128 3 (cv i) (tx ts i).code.length ys/\Cl (tx ts i).code (tx ts i).code.length ys
 apart:∀ i j,i<j->j<ts.length->∀ b,(cv i).ownBlock=some b->(cv j).ownBlock≠some b
def Ha (w:World) (lo hi:Nat) (v:Value) (ts:List T2):Prop:=∃ xs cv,Ls w lo hi v ts xs cv
theorem Ls.keep (h:Ls w lo hi v ts xs cv) (hk:Dj lo' hi' w w') (hd:hi<=lo'\/hi'<=lo):Ls w' lo hi v ts xs cv:=
 ⟨h.row.keep hk hd,h.fil,fun i hi=>by obtain⟨ys,h1,h2⟩:=h.code i hi;exact⟨ys,h1.keep hk hd,h2⟩,h.apart⟩
theorem Ls.wide (h:Ls w lo hi v ts xs cv) (h1:lo'<=lo) (h2:hi<=hi'):Ls w lo' hi' v ts xs cv:=
 ⟨h.row.wide h1 h2,h.fil,fun i hi=>by obtain⟨ys,k1,k2⟩:=h.code i hi;exact⟨ys,k1.wide h1 h2,k2⟩,h.apart⟩
theorem Ha.keep (h:Ha w lo hi v ts) (hk:Dj lo' hi' w w') (hd:hi<=lo'\/hi'<=lo):Ha w' lo hi v ts:=by
 obtain⟨xs,cv,h⟩:=h;exact⟨xs,cv,h.keep hk hd⟩
theorem Ha.wide (h:Ha w lo hi v ts) (h1:lo'<=lo) (h2:hi<=hi'):Ha w lo' hi' v ts:=by
 obtain⟨xs,cv,h⟩:=h;exact⟨xs,cv,h.wide h1 h2⟩
theorem Qg {is:List I3} (h:Bg w lo hi 128 3 v is.length ys) (hf:Cl is is.length ys):∃ a cap,v=.slice a is.length cap/\Cj w a is:=by
 rcases Gb h.own with ⟨rfl,h0⟩|⟨g,cap,rfl⟩
 ·exact qbk
 ·refine⟨_,cap,rfl,fun i hi=>?_⟩;obtain⟨h1,h2,h3⟩:=hf i hi;refine⟨g,0,rfl,?_,?_,?_⟩
  ·rw[Nat.zero_add,h.own.cellAt _ qb];exact h1
  ·rw[Nat.zero_add,h.own.cellAt _ qb];exact h2
  ·rw[Nat.zero_add,h.own.cellAt _ qb];exact h3
theorem Ha.sl (h:Ha w lo hi v ts):∃ a cap,v=.slice a ts.length cap/\Ju w a ts:=by
 obtain⟨xs,cv,h⟩:=h
 rcases Gb h.row.own with ⟨rfl,h0⟩|⟨g,cap,rfl⟩
 ·exact qbk
 ·refine⟨_,cap,rfl,fun i hi=>?_⟩;obtain⟨h1,h2⟩:=h.fil i hi;obtain⟨ys,k1,k2⟩:=h.code i hi;obtain⟨a',ai,e,r⟩:=Qg k1 k2;refine⟨g,0,rfl,?_,a',ai,?_,r⟩
  ·rw[Nat.zero_add,h.row.own.cellAt _ qb];exact h1
  ·rw[Nat.zero_add,h.row.own.cellAt _ qb,h2,e]
theorem Hs.set (h:Hs w lo hi v ss) (hb:b<lo) (u:Value):Hs (w.setCell ⟨b,j,none⟩ u) lo hi v ss:=h.keep (Dj.set (lo:=b) (hi:=b+1) (Nat.le_refl _) (Nat.lt_succ_self _) j u) (Or.inr hb)
theorem Ha.set (h:Ha w lo hi v ts) (hb:b<lo) (u:Value):Ha (w.setCell ⟨b,j,none⟩ u) lo hi v ts:=h.keep (Dj.set (lo:=b) (hi:=b+1) (Nat.le_refl _) (Nat.lt_succ_self _) j u) (Or.inr hb)
structure Iw (w:World) (lo:Nat) (is:List T2) (k:Nat) (xs:List Value) (cv:Nat->Value):Prop where
 fil:∀ i,i<k->xs[i*2]?=some (.string (tx is i).name)/\xs[i*2+1]?=some (cv i)
 code:∀ i,i<k->∃ ys,w.ownsRow lo 128 3 (cv i) (tx is i).code.length ys/\Cl (tx is i).code (tx is i).code.length ys
 apart:∀ i j,i<j->j<k->∀ b,(cv i).ownBlock=some b->(cv j).ownBlock≠some b
theorem Iw.same (h:Iw w lo is k xs cv) (hk:∀ b,lo<=b->b<w.heap.size->w'.heap[b]?=w.heap[b]?):Iw w' lo is k xs cv:=
 ⟨h.fil,fun i hi=>by
  obtain⟨ys,h1,h2⟩:=h.code i hi;exact⟨ys,Qh h1 (fun b e=>hk b (h1.lt b e).1 (h1.lt b e).2),h2⟩,h.apart⟩
theorem Iw.set (h:Iw w lo is k xs cv) (hb:b<lo) (u:Value):Iw (w.setCell ⟨b,j,none⟩ u) lo is k xs cv:=h.same fun c hc _=>hC w ⟨b,j,none⟩ u c (by show c≠b;omega)
theorem Iw.zero (w:World) (lo:Nat) (is:List T2) (xs:List Value):Iw w lo is 0 xs (fun _=>nS):=⟨fun i hi=>qb,fun i hi=>qb,fun i j _ hj=>qb⟩
theorem Iw.add {w2:World} {xs2:List Value} (h:Iw w lo is k xs cv) (hb:Bw w w2) (hl:lo<=w.heap.size) {c:Value} (ho:w2.ownsRow w.heap.size 128 3 c (tx is k).code.length ys) (hf:Cl (tx is k).code (tx is k).code.length ys)
  (h1:∀ j,j<k*2->xs2[j]?=xs[j]?) (h2:xs2[k*2]?=some (.string (tx is k).name)) (h3:xs2[k*2+1]?=some c):Iw w2 lo is (k+1) xs2 (fun i=>if i=k then c else cv i):=by
 refine⟨fun i hi=>?_,fun i hi=>?_,fun i j td hj=>?_⟩
 ·rcases Nat.lt_or_ge i k with hl|hl
  ·obtain⟨k1,k2⟩:=h.fil i hl;rw[h1 _ qb,h1 _ qb,if_neg qb];exact⟨k1,k2⟩
  ·obtain rfl:i=k:=qb;rw[if_pos rfl];exact⟨h2,h3⟩
 ·rcases Nat.lt_or_ge i k with aj|W3
  ·obtain⟨zs,k1,k2⟩:=h.code i aj;simp only[if_neg (show ¬ i=k from qb)];exact⟨zs,Qh k1 (fun b e=>hb.block b (k1.lt b e).2),k2⟩
  ·obtain rfl:i=k:=qb;simp only[if_true];exact⟨ys,Jc ho hl,hf⟩
 ·rcases Nat.lt_or_ge j k with aj|W3
  ·simp only[if_neg (show ¬ i=k from qb),if_neg (show ¬ j=k from qb)];exact h.apart i j td aj
  ·exact qji
theorem Iw.own (h:Iw w lo' is is.length xs cv) (hr:w.ownsRow lo 100 2 v is.length xs) (hl:lo<=lo') (hh:w.heap.size<=hi):Ha w lo hi v is:=
 ⟨xs,cv,⟨hr,fun b e=>by have:=(hr.lt b e).2;omega⟩,h.fil,fun i hi=>by
  obtain⟨ys,h1,h2⟩:=h.code i hi;exact⟨ys,⟨Jc h1 hl,fun b e=>by have:=(h1.lt b e).2;omega⟩,h2⟩,h.apart⟩
structure Eh (w:World) (lo hi:Nat) (v:Value) (n:Nat) (cl:Nat->Nat) (xs:List Value) (cv:Nat->Value):Prop where
 row:Bg w lo hi 100 2 v n xs
 sec:∀ i,i<n->xs[i*2+1]?=some (cv i)
 code:∀ i,i<n->∃ ys,Bg w lo hi 128 3 (cv i) (cl i) ys
 apart:∀ i j,i<n->j<n->i≠j->∀ b,(cv i).ownBlock=some b->(cv j).ownBlock≠some b
theorem Fa {o:Obj} (h:w.heap[b]?=some o):b<w.heap.size:=by
 exact qlz
theorem Cm (w:World) (o:Obj):(w.alloc o).heap[w.heap.size]?=some o:=qei
theorem Fr {T:Nat} {v1 v2:Value} (h:w.heap[b]?=some (.cells #[v1,v2] T (0,0))):w.cell? ⟨b,0,none⟩=some v1/\w.cell? ⟨b,1,none⟩=some v2:=
 ⟨qaj,qaj⟩
theorem Ae {o:Obj} (h:w.heap[b]?=some o) (hb:Bw w w'):w'.heap[b]?=some o:=by rw[hb.block _ (Fa h)];exact h
section
open Go.Deep
end
section
open Go.Deep
end
section
section
variable {P:Program} {ops:Array Oper} {Q:Exit->Act->World->Prop} {S:World->Prop} {z:Nat}
def Lt (P:Program) (ops:Array Oper) (Q:Exit->Act->World->Prop) (S:World->Prop) (z:Nat):Nat->Array Bool->Act->World->Prop
 | 0,l,a,w=>Region.ready .any ops l=[]/\Q .normal a w
 | n+1,l,a,w=>(Region.ready .any ops l=[]->Q .normal a w)/\∀ i∈Region.ready .any ops l,wpOp P ops Q i (fun a' w'=>(i≠z->S w')/\Lt P ops Q S z n (l.setIfInBounds i true) a' w') a w
theorem Lt.any:∀(n:Nat) (l:Array Bool) (a:Act) (w:World),Lt P ops Q S z n l a w->wpAny P .any ops Q n l a w
 | 0,_,_,_,h=>h
 | n+1,_,_,_,h=>⟨h.1,fun i hi=>wpOp_mono (fun a' w' h'=>Lt.any n _ a' w' h'.2) (h.2 i hi)⟩
theorem Lt.begin {id:Nat} (z:Nat) (S:World->Prop) (hm:P.follows .mixedOrders=true) (h:Lt P ops Q S z ops.size (Array.replicate ops.size false) a w.drew):(Code.region id ops true).wp P Q a w:=wp_region_any hm (Lt.any _ _ _ _ h)
theorem Lt.done (hr:Region.ready .any ops l=[]) (h:Q .normal a w):∀ n,Lt P ops Q S z n l a w
 | 0=>⟨hr,h⟩
 | _+1=>⟨fun _=>h,by rw[hr];simp⟩
theorem Lt.step {o:Oper} (hr:Region.ready .any ops l=[i]) (ho:ops[i]?=some o)
  (h:∀ K:Act->World->Prop,Shut (∀ a w,(i≠z->S w)->((i≠z->S w)->Lt P ops Q S z n (l.setIfInBounds i true) a w)->K a w)->if Region.wanted o (yielded ops a.tmps)=true then Oper.wp P o a w K Q else K (a.put o.dst undef) w):Lt P ops Q S z (n+1) l a w:=by
 refine⟨fun h0=>(by rw[hr] at h0;cases h0),fun j hj=>?_⟩
 rw[hr] at hj
 obtain rfl:j=i:=qcf
 exact wpOp_step ho (fun K hK=>h K (fun a w hS hW=>hK a w ⟨hS,hW hS⟩))
theorem Lt.take1 (hi:ops[i]?=some oi) (hsel:∀(j:Nat) (o:Oper) cs b,ops[j]?=some o->o.op≠.select cs b)
  (hQ:∀ c a w,Q (.panic c) (a.put oi.dst v) w->Q (.panic c) a w) (hz:∀ oz,ops[z]?=some oz->∃ e∈oz.after,Region.binds .any e=true/\e.on=i) :
  ∀(n:Nat) (l:Array Bool) (a:Act) (w:World),
   (∀ j oj,ops[j]?=some oj->j≠i->l.getD j true=false->(∀ e∈oj.after,Region.binds .any e=true->e.on≠i)->oi.apart ops oj=true)→
   i∈Region.ready .any ops l->YieldsIf P ops S oi v a->S w->Lt P ops Q S z n (l.setIfInBounds i true) (a.put oi.dst v) w->Lt P ops Q S z (n+1) l a w:=by
 intro n
 induction n with
 | zero=>
  intro l a w _ hr hy hS H;refine⟨fun h=>(by rw[h] at hr;cases hr),fun j hj=>?_⟩
  rcases Decidable.em (j=i) with rfl|V9
  ·exact hy.wpOp hi hS ⟨fun _=>hS,H⟩
  ·exact absurd (H.1▸ready_mono hj V9) qg
 | succ n ih=>
  intro l a w hf hr hy hS H;refine⟨fun h=>(by rw[h] at hr;cases hr),fun j hj=>?_⟩
  rcases Decidable.em (j=i) with rfl|V9
  ·exact hy.wpOp hi hS ⟨fun _=>hS,H⟩
  obtain⟨hj0,oj,hoj,o8⟩:=mem_ready.1 hj
  have gk:∀ e∈oj.after,Region.binds .any e=true->e.on≠i:=fun e he hb oy=>by
   have h1:=o8 e he hb;have h0:=(mem_ready.1 hr).1;rw[oy] at h1
   rcases Nat.lt_or_ge i l.size with h'|h'
   ·simp[h'] at h0 h1;rw[h0] at h1;cases h1
   ·simp[Array.getElem?_eq_none h'] at h1
  have hjz:j≠z:=fun e=>by
   subst e;obtain⟨ed,h1,h2,h3⟩:=hz oj hoj;exact gk ed h1 h2 h3
  have uh:∀ k ok,ops[k]?=some ok->k≠i->(l.setIfInBounds j true).getD k true=false->(∀ e∈ok.after,Region.binds .any e=true->e.on≠i)->oi.apart ops ok=true:=fun k ok hk hki hun hn=>by
   refine hf k ok hk hki ?_ hn
   rcases Decidable.em (j=k) with rfl|hjk
   ·exact hj0
   ·rw[getD_set_ne true hjk] at hun;exact hun
  refine wpOp_mono (fun a' w' h3=>⟨h3.2.1,ih (l.setIfInBounds j true) a' w' uh (ready_mono hr (Ne.symm V9)) h3.1 (h3.2.1 hjz) ?_⟩) (wpOp_putIf hoj (hf j oj hoj V9 hj0 gk) (fun cs b=>hsel i oi cs b hi) (fun cs b=>hsel j oj cs b hoj) hQ hy (H.2 j (ready_mono hj V9)));rw[Array.setIfInBounds_comm _ _ V9];exact h3.2.2
def Qad (ops:Array Oper) (z i:Nat):Bool:=match ops[z]? with
 | some o=>o.after.any fun e=>Region.binds .any e && e.on == i
 | none=>true
theorem waits_spec (h:Qad ops z i=true):∀ oz,ops[z]?=some oz->∃ e∈oz.after,Region.binds .any e=true/\e.on=i:=by
 intro oz hoz
 unfold Qad at h
 rw[hoz] at h
 obtain⟨k,hk,he⟩:=Array.any_eq_true.1 h
 simp at he
 exact⟨_,Array.getElem_mem hk,he.1,he.2⟩
theorem Lt.take (hi:ops[i]?=some oi) (hs:Region.noSelect ops=true) (hf:Region.free .any ops l i=true) (hr:(Region.ready .any ops l).contains i=true) (hz:Qad ops z i=true)
  (hQ:∀ c a w,Q (.panic c) (a.put oi.dst v) w->Q (.panic c) a w) (hS:S w) (hy:YieldsIf P ops S oi v a) (h:Lt P ops Q S z n (l.setIfInBounds i true) (a.put oi.dst v) w):Lt P ops Q S z (n+1) l a w:=
 Lt.take1 hi (Region.noSelect_spec hs) hQ (waits_spec hz) n l a w (Region.free_spec hi hf) (by simpa using hr) hy hS h
theorem Lt.tk (hi:ops[i]?=some oi) (hc:(Region.noSelect ops && Region.free .any ops l i && (Region.ready .any ops l).contains i && Qad ops z i)=true)
  (hQ:∀ c a w,Q (.panic c) (a.put oi.dst v) w->Q (.panic c) a w) (hS:S w) (hy:YieldsIf P ops S oi v a) (h:Lt P ops Q S z n (l.setIfInBounds i true) (a.put oi.dst v) w):Lt P ops Q S z (n+1) l a w:=by
 simp only[Bool.and_eq_true] at hc
 exact Lt.take hi hc.1.1.1 hc.1.1.2 hc.1.2 hc.2 hQ hS hy h
theorem gX:(∀(a:Act) (d:Option Tmp) (v:Value),a.put d v=match d with|some d=>{ a with tmps:=a.tmps.setIfInBounds d v }|none=>a)/\(∀ {α:Type} (l:List α) (i:Nat) (a:α),l.toArray.setIfInBounds i a=(l.set i a).toArray)/\(∀ {α:Type} (a b:α) (l:List α),(a :: l).set 0 b=b :: l)/\∀ {α:Type} (a b:α) (l:List α) (n:Nat),(a :: l).set (n+1) b=a :: l.set n b:=⟨fun _ _ _=>rfl,fun _ _ _=>qg,fun _ _ _=>rfl,fun _ _ _ _=>rfl⟩
abbrev K (_:Nat) (p:Prop):Prop:=p
theorem Lt.ti (hS:S w) (hy:∀ w,S w->(execOp a.eval oi).run P w=.ok (.value v) w) (h:K (i+1) (Lt P ops Q S z n (l.setIfInBounds i true) (a.put oi.dst v) w)) (hi:ops.toList[i]?=some oi:=by rfl) (hc:(Region.noSelect ops && Region.free .any ops l i && (Region.ready .any ops l).contains i && Qad ops z i)=true:=by kernel_rfl)
  (hQ:∀ c a w,Q (.panic c) (a.put oi.dst v) w->Q (.panic c) a w:=by exact fun _ _ _ h=>h) (hg:Region.wanted oi (yielded ops a.tmps)=true:=by rfl):K i (Lt P ops Q S z (n+1) l a w):=Lt.tk (Array.getElem?_toList.symm.trans hi) hc hQ hS (Or.inl ⟨hg,hy⟩) h
theorem Lt.sp {o:Oper} 
  (h:∀ K:Act->World->Prop,Shut (∀ a w,(i≠z->S w)->((i≠z->S w)->Lt P ops Q S z n (l.setIfInBounds i true) a w)->K a w)->if Region.wanted o (yielded ops a.tmps)=true then Oper.wp P o a w K Q else K (a.put o.dst undef) w) (ho:ops.toList[i]?=some o:=by rfl) (hr:Region.ready .any ops l=[i]:=by kernel_rfl):Lt P ops Q S z (n+1) l a w:=Lt.step hr (Array.getElem?_toList.symm.trans ho) h
end
end
end Go.Proofs.YtfgoholldpeabaaGreatDoor
