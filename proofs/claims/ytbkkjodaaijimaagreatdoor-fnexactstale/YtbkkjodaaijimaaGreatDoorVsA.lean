import Derived.Test.YtbkkjodaaijimaaGreatDoorTClB
namespace Go.Proofs.YtbkkjodaaijimaaGreatDoor
open _root_.Go.Proofs.Tryz Go.RowKit
open Value renaming slice->J,string->S
open Option renaming some->M,none->N
open Go renaming Value->Z,World->E
open _root_ renaming List->L,Nat->X
set_option linter.unusedVariables false
set_option maxHeartbeats 8000000
set_option maxRecDepth 100000
set_option linter.unusedSimpArgs false
variable {w w':E} {B B' e sz n lo hi g lo' hi' b j k T i:X} {xs ys:L Z} {ss:L S2} {ts:L T2} {cv:X->Z} {is:L I3} {a:Act} {l:Array Bool} {oi:Oper} {ob:Option X}
theorem Jj{v:Z}(h:w.ownsRow B e sz v n xs)(hB:B'<=B):w.ownsRow B' e sz v n xs:=by
 exact qjz
theorem Gj{v:Z}(h:w.ownsRow B e sz v n xs):(v=nS/\n=0)\/∃g cap,v=J (p_ g) n cap:=by
 rcases h.2 with h|⟨g,cap,cur,hv,hg,r⟩
 ·exact Or.inl h
 ·exact Or.inr ⟨g,cap,hv⟩
def De(lo hi:X)(w w':E):Prop:=∀b,b<w.heap.size->(b<lo\/hi<=b)->w'.heap[b]?=w.heap[b]?
theorem De.set(h1:lo<=g)(h2:g<hi)(j:X)(v:Z):De lo hi w (w.setCell ⟨g,j,N⟩ v):=λb hb hr=>hC w ⟨g,j,N⟩ v b (by show b≠g;omega)
structure Bg (w:E) (lo hi e sz:X) (v:Z) (n:X) (xs:L Z):Prop where
 own:w.ownsRow lo e sz v n xs
 top:∀b,v.ownBlock=M b->b<hi
theorem Qh{v:Z}(h:w.ownsRow B e sz v n xs)(hk:∀b,v.ownBlock=M b->w'.heap[b]?=w.heap[b]?):w'.ownsRow B e sz v n xs:=by
 refine⟨h.1,?_⟩
 rcases h.2 with h2|⟨g,cap,cur,hv,hg,hh,r⟩
 ·exact Or.inl h2
 ·refine Or.inr ⟨g,cap,cur,hv,hg,?_,r⟩;subst hv;rw[hk g rfl];exact hh
theorem Bg.same{v:Z}(h:Bg w lo hi e sz v n xs)(hk:∀b,v.ownBlock=M b->w'.heap[b]?=w.heap[b]?):Bg w' lo hi e sz v n xs:=⟨Qh h.own hk,h.top⟩
theorem Bg.keep{v:Z}(h:Bg w lo hi e sz v n xs)(hk:De lo' hi' w w')(hd:hi<=lo'\/hi'<=lo):Bg w' lo hi e sz v n xs:=h.same λb e=>hk b (h.own.lt b e).2 (by have h1:=(h.own.lt b e).1;have h2:=h.top b e;omega)
theorem Bg.wide{v:Z}(h:Bg w lo hi e sz v n xs)(h1:lo'<=lo)(h2:hi<=hi'):Bg w lo' hi' e sz v n xs:=⟨Jj h.own h1,λb e=>by have:=h.top b e;omega⟩
theorem Px{e' P2 n':X}{v v':Z}{xs':L Z}(h:w.ownsRow B e sz v n xs)(h':w.ownsRow B' e' P2 v' n' xs')(hne:e≠e'):∀b,v.ownBlock=M b->v'.ownBlock≠M b:=by
 intro b hb eb
 rcases h.2 with⟨rfl,_⟩|⟨g,cap,cur,rfl,hg,hh,_⟩
 ·simp[Value.ownBlock]at hb
 ·rcases h'.2 with⟨rfl,_⟩|⟨g',ai,cur',rfl,hg',M7,_⟩
  ·simp[Value.ownBlock]at eb
  ·simp only[Value.ownBlock,Option.some.injEq]at hb eb;subst hb;rw[eb]at M7;rw[hh]at M7;simp at M7;exact hne M7.2
def Gm(w:E)(lo hi:X)(v:Z)(ss:L S2):Prop:=∃xs,Bg w lo hi 96 2 v ss.length xs/\Kq ss ss.length xs
theorem Gm.keep{v:Z}(h:Gm w lo hi v ss)(hk:De lo' hi' w w')(hd:hi<=lo'\/hi'<=lo):Gm w' lo hi v ss:=by
 obtain⟨xs,h1,h2⟩:=h;exact⟨xs,h1.keep hk hd,h2⟩
theorem Gm.wide{v:Z}(h:Gm w lo hi v ss)(h1:lo'<=lo)(h2:hi<=hi'):Gm w lo' hi' v ss:=by
 obtain⟨xs,k1,k2⟩:=h;exact⟨xs,k1.wide h1 h2,k2⟩
theorem Gm.sl{v:Z}(h:Gm w lo hi v ss):∃a cap,v=J a ss.length cap/\Ho w a ss:=by
 obtain⟨xs,h1,h2⟩:=h
 rcases Gj h1.own with⟨rfl,h0⟩|⟨g,cap,rfl⟩
 ·exact qbj
 ·exact⟨_,cap,rfl,rowS_own rfl h1.own h2⟩
structure Mf (w:E) (lo hi:X) (v:Z) (ts:L T2) (xs:L Z) (cv:X->Z):Prop where
 row:Bg w lo hi 99 2 v ts.length xs
 fil:∀i,i<ts.length->xs[i*2]?=M (S (tx ts i).name)/\xs[i*2+1]?=M (cv i)
 code:∀i,i<ts.length->∃ys,Bg w lo hi 143 3 (cv i) (tx ts i).code.length ys/\Ck (tx ts i).code (tx ts i).code.length ys
 apart:∀i j,i<j->j<ts.length->∀b,(cv i).ownBlock=M b->(cv j).ownBlock≠M b
def Gv(w:E)(lo hi:X)(v:Z)(ts:L T2):Prop:=∃xs cv,Mf w lo hi v ts xs cv
theorem Mf.keep{v:Z}(h:Mf w lo hi v ts xs cv)(hk:De lo' hi' w w')(hd:hi<=lo'\/hi'<=lo):Mf w' lo hi v ts xs cv:=
 ⟨h.row.keep hk hd,h.fil,λi hi=>by obtain⟨ys,h1,h2⟩:=h.code i hi;exact⟨ys,h1.keep hk hd,h2⟩,h.apart⟩
theorem Mf.wide{v:Z}(h:Mf w lo hi v ts xs cv)(h1:lo'<=lo)(h2:hi<=hi'):Mf w lo' hi' v ts xs cv:=
 ⟨h.row.wide h1 h2,h.fil,λi hi=>by obtain⟨ys,k1,k2⟩:=h.code i hi;exact⟨ys,k1.wide h1 h2,k2⟩,h.apart⟩
theorem Gv.keep{v:Z}(h:Gv w lo hi v ts)(hk:De lo' hi' w w')(hd:hi<=lo'\/hi'<=lo):Gv w' lo hi v ts:=by
 obtain⟨xs,cv,h⟩:=h;exact⟨xs,cv,h.keep hk hd⟩
theorem Gv.wide{v:Z}(h:Gv w lo hi v ts)(h1:lo'<=lo)(h2:hi<=hi'):Gv w lo' hi' v ts:=by
 obtain⟨xs,cv,h⟩:=h;exact⟨xs,cv,h.wide h1 h2⟩
theorem Qg{v:Z}(h:Bg w lo hi 143 3 v is.length ys)(hf:Ck is is.length ys):∃a cap,v=J a is.length cap/\Bu w a is:=by
 rcases Gj h.own with⟨rfl,h0⟩|⟨g,cap,rfl⟩
 ·exact qbj
 ·refine⟨_,cap,rfl,λi hi=>?_⟩;obtain⟨h1,h2,h3⟩:=hf i hi;refine⟨g,0,rfl,?_,?_,?_⟩
  ·rw[Nat.zero_add,h.own.cellAt _ qb];exact h1
  ·rw[Nat.zero_add,h.own.cellAt _ qb];exact h2
  ·rw[Nat.zero_add,h.own.cellAt _ qb];exact h3
theorem Gv.sl{v:Z}(h:Gv w lo hi v ts):∃a cap,v=J a ts.length cap/\Gu w a ts:=by
 obtain⟨xs,cv,h⟩:=h
 rcases Gj h.row.own with⟨rfl,h0⟩|⟨g,cap,rfl⟩
 ·exact qbj
 ·refine⟨_,cap,rfl,λi hi=>?_⟩;obtain⟨h1,h2⟩:=h.fil i hi;obtain⟨ys,k1,k2⟩:=h.code i hi;obtain⟨a',ai,e,r⟩:=Qg k1 k2;refine⟨g,0,rfl,?_,a',ai,?_,r⟩
  ·rw[Nat.zero_add,h.row.own.cellAt _ qb];exact h1
  ·rw[Nat.zero_add,h.row.own.cellAt _ qb,h2,e]
theorem Gm.set{v:Z}(h:Gm w lo hi v ss)(hb:b<lo)(u:Z):Gm (w.setCell ⟨b,j,N⟩ u) lo hi v ss:=h.keep (De.set (lo:=b) (hi:=b+1) (Nat.le_refl _) (Nat.lt_succ_self _) j u) (Or.inr hb)
theorem Gv.set{v:Z}(h:Gv w lo hi v ts)(hb:b<lo)(u:Z):Gv (w.setCell ⟨b,j,N⟩ u) lo hi v ts:=h.keep (De.set (lo:=b) (hi:=b+1) (Nat.le_refl _) (Nat.lt_succ_self _) j u) (Or.inr hb)
structure Ey (w:E) (lo:X) (is:L T2) (k:X) (xs:L Z) (cv:X->Z):Prop where
 fil:∀i,i<k->xs[i*2]?=M (S (tx is i).name)/\xs[i*2+1]?=M (cv i)
 code:∀i,i<k->∃ys,w.ownsRow lo 143 3 (cv i) (tx is i).code.length ys/\Ck (tx is i).code (tx is i).code.length ys
 apart:∀i j,i<j->j<k->∀b,(cv i).ownBlock=M b->(cv j).ownBlock≠M b
theorem Ey.same{is:L T2}(h:Ey w lo is k xs cv)(hk:∀b,lo<=b->b<w.heap.size->w'.heap[b]?=w.heap[b]?):Ey w' lo is k xs cv:=
 ⟨h.fil,λi hi=>by
  obtain⟨ys,h1,h2⟩:=h.code i hi;exact⟨ys,Qh h1 (λb e=>hk b (h1.lt b e).1 (h1.lt b e).2),h2⟩,h.apart⟩
theorem Ey.set{is:L T2}(h:Ey w lo is k xs cv)(hb:b<lo)(u:Z):Ey (w.setCell ⟨b,j,N⟩ u) lo is k xs cv:=h.same λc hc _=>hC w ⟨b,j,N⟩ u c (by show c≠b;omega)
theorem Ey.zero(w:E)(lo:X)(is:L T2)(xs:L Z):Ey w lo is 0 xs (λ_=>nS):=⟨λi hi=>qb,λi hi=>qb,λi j _ hj=>qb⟩
theorem Ey.add{w2:E}{is:L T2}{xs2:L Z}(h:Ey w lo is k xs cv)(hb:Bw w w2)(hl:lo<=w.heap.size){c:Z}(ho:w2.ownsRow w.heap.size 143 3 c (tx is k).code.length ys)(hf:Ck (tx is k).code (tx is k).code.length ys)(h1:∀j,j<k*2->xs2[j]?=xs[j]?)(h2:xs2[k*2]?=M (S (tx is k).name))(h3:xs2[k*2+1]?=M c):Ey w2 lo is (k+1) xs2 (λi=>if i=k then c else cv i):=by
 refine⟨λi hi=>?_,λi hi=>?_,λi j rh hj=>?_⟩
 ·rcases Nat.lt_or_ge i k with hl|hl
  ·obtain⟨k1,k2⟩:=h.fil i hl;rw[h1 _ qb,h1 _ qb,if_neg qb];exact⟨k1,k2⟩
  ·obtain rfl:i=k:=qb;rw[if_pos rfl];exact⟨h2,h3⟩
 ·rcases Nat.lt_or_ge i k with aj|Q4
  ·obtain⟨zs,k1,k2⟩:=h.code i aj;simp only[if_neg (show ¬ i=k from qb)];exact⟨zs,Qh k1 (λb e=>hb.block b (k1.lt b e).2),k2⟩
  ·obtain rfl:i=k:=qb;simp only[if_true];exact⟨ys,Jj ho hl,hf⟩
 ·rcases Nat.lt_or_ge j k with aj|Q4
  ·simp only[if_neg (show ¬ i=k from qb),if_neg (show ¬ j=k from qb)];exact h.apart i j rh aj
  ·exact qjc
theorem Ey.own{v:Z}{is:L T2}(h:Ey w lo' is is.length xs cv)(hr:w.ownsRow lo 99 2 v is.length xs)(hl:lo<=lo')(hh:w.heap.size<=hi):Gv w lo hi v is:=
 ⟨xs,cv,⟨hr,λb e=>by have:=(hr.lt b e).2;omega⟩,h.fil,λi hi=>by
  obtain⟨ys,h1,h2⟩:=h.code i hi;exact⟨ys,⟨Jj h1 hl,λb e=>by have:=(h1.lt b e).2;omega⟩,h2⟩,h.apart⟩
structure Ee (w:E) (lo hi:X) (v:Z) (n:X) (cl:X->X) (xs:L Z) (cv:X->Z):Prop where
 row:Bg w lo hi 99 2 v n xs
 sec:∀i,i<n->xs[i*2+1]?=M (cv i)
 code:∀i,i<n->∃ys,Bg w lo hi 143 3 (cv i) (cl i) ys
 apart:∀i j,i<n->j<n->i≠j->∀b,(cv i).ownBlock=M b->(cv j).ownBlock≠M b
theorem El{o:Obj}(h:w.heap[b]?=M o):b<w.heap.size:=by
 exact qll
theorem Ch(w:E)(o:Obj):(w.alloc o).heap[w.heap.size]?=M o:=qeb
theorem Fq{v1 v2:Z}(h:w.heap[b]?=M (.cells #[v1,v2] T (0,0))):w.cell? ⟨b,0,N⟩=M v1/\w.cell? ⟨b,1,N⟩=M v2:=
 ⟨qag,qag⟩
theorem Af{o:Obj}(h:w.heap[b]?=M o)(hb:Bw w w'):w'.heap[b]?=M o:=by rw[hb.block _ (El h)];exact h
section
open Go.Deep
end
section
open Go.Deep
end
section
section
variable {P:Program} {ops:Array Oper} {Q:Exit->Act->E->Prop} {AC:E->Prop} {z:X}
def Lt(P:Program)(ops:Array Oper)(Q:Exit->Act->E->Prop)(AC:E->Prop)(z:X):X->Array Bool->Act->E->Prop
 | 0,l,a,w=>Region.ready .any ops l=[]/\Q .normal a w
 | n+1,l,a,w=>(Region.ready .any ops l=[]->Q .normal a w)/\∀i∈Region.ready .any ops l,wpOp P ops Q i (λa' w'=>(i≠z->AC w')/\Lt P ops Q AC z n (l.setIfInBounds i true) a' w') a w
theorem Lt.any:∀(n:X)(l:Array Bool)(a:Act)(w:E),Lt P ops Q AC z n l a w->wpAny P .any ops Q n l a w
 | 0,_,_,_,h=>h
 | n+1,_,_,_,h=>⟨h.1,λi hi=>wpOp_mono (λa' w' h'=>Lt.any n _ a' w' h'.2) (h.2 i hi)⟩
theorem Lt.begin{id:X}(z:X)(AC:E->Prop)(hm:P.follows .mixedOrders=true)(h:Lt P ops Q AC z ops.size (Array.replicate ops.size false) a w.drew):(Code.region id ops true).wp P Q a w:=wp_region_any hm (Lt.any _ _ _ _ h)
theorem Lt.done(hr:Region.ready .any ops l=[])(h:Q .normal a w):∀n,Lt P ops Q AC z n l a w
 | 0=>⟨hr,h⟩
 | _+1=>⟨λ_=>h,by rw[hr];simp⟩
theorem Lt.step{o:Oper}(hr:Region.ready .any ops l=[i])(ho:ops[i]?=M o)(h:∀K:Act->E->Prop,Shut (∀a w,(i≠z->AC w)->((i≠z->AC w)->Lt P ops Q AC z n (l.setIfInBounds i true) a w)->K a w)->if Region.wanted o (yielded ops a.tmps)=true then Oper.wp P o a w K Q else K (a.put o.dst undef) w):Lt P ops Q AC z (n+1) l a w:=by
 refine⟨λh0=>(by rw[hr]at h0;cases h0),λj hj=>?_⟩
 rw[hr]at hj
 obtain rfl:j=i:=qce
 exact wpOp_step ho (λK hK=>h K (λa w hS hW=>hK a w ⟨hS,hW hS⟩))
theorem Lt.take1{v:Z}(hi:ops[i]?=M oi)(hsel:∀(j:X)(o:Oper) cs b,ops[j]?=M o->o.op≠.select cs b)(hQ:∀c a w,Q (.panic c) (a.put oi.dst v) w->Q (.panic c) a w)(hz:∀oz,ops[z]?=M oz->∃e∈oz.after,Region.binds .any e=true/\e.on=i):∀(n:X)(l:Array Bool)(a:Act)(w:E),
 (∀j oj,ops[j]?=M oj->j≠i->l.getD j true=false->(∀e∈oj.after,Region.binds .any e=true->e.on≠i)->oi.apart ops oj=true)→
 i∈Region.ready .any ops l->YieldsIf P ops AC oi v a->AC w->Lt P ops Q AC z n (l.setIfInBounds i true) (a.put oi.dst v) w->Lt P ops Q AC z (n+1) l a w:=by
 intro n
 induction n with
 | zero=>
  intro l a w _ hr hy hS AI;refine⟨λh=>(by rw[h]at hr;cases hr),λj hj=>?_⟩
  rcases Decidable.em (j=i)with rfl|Q2
  ·exact hy.wpOp hi hS ⟨λ_=>hS,AI⟩
  ·exact absurd (AI.1▸ready_mono hj Q2) qg
 | succ n ih=>
  intro l a w hf hr hy hS AI;refine⟨λh=>(by rw[h]at hr;cases hr),λj hj=>?_⟩
  rcases Decidable.em (j=i)with rfl|Q2
  ·exact hy.wpOp hi hS ⟨λ_=>hS,AI⟩
  obtain⟨hj0,oj,hoj,n7⟩:=mem_ready.1 hj
  have gg:∀e∈oj.after,Region.binds .any e=true->e.on≠i:=λe he hb n6=>by
   have h1:=n7 e he hb;have h0:=(mem_ready.1 hr).1;rw[n6]at h1
   rcases Nat.lt_or_ge i l.size with h'|h'
   ·simp[h']at h0 h1;rw[h0]at h1;cases h1
   ·simp[Array.getElem?_eq_none h']at h1
  have hjz:j≠z:=λe=>by
   subst e;obtain⟨ed,h1,h2,h3⟩:=hz oj hoj;exact gg ed h1 h2 h3
  have sr:∀k ok,ops[k]?=M ok->k≠i->(l.setIfInBounds j true).getD k true=false->(∀e∈ok.after,Region.binds .any e=true->e.on≠i)->oi.apart ops ok=true:=λk ok hk hki hun hn=>by
   refine hf k ok hk hki ?_ hn
   rcases Decidable.em (j=k)with rfl|hjk
   ·exact hj0
   ·rw[getD_set_ne true hjk]at hun;exact hun
  refine wpOp_mono (λa' w' h3=>⟨h3.2.1,ih (l.setIfInBounds j true) a' w' sr (ready_mono hr (Ne.symm Q2)) h3.1 (h3.2.1 hjz) ?_⟩) (wpOp_putIf hoj (hf j oj hoj Q2 hj0 gg) (λcs b=>hsel i oi cs b hi) (λcs b=>hsel j oj cs b hoj) hQ hy (AI.2 j (ready_mono hj Q2)));rw[Array.setIfInBounds_comm _ _ Q2];exact h3.2.2
def Zv(ops:Array Oper)(z i:X):Bool:=match ops[z]? with
 | some o=>o.after.any λe=>Region.binds .any e&&e.on == i
 | none=>true
theorem waits_spec(h:Zv ops z i=true):∀oz,ops[z]?=M oz->∃e∈oz.after,Region.binds .any e=true/\e.on=i:=by
 intro oz hoz
 unfold Zv at h
 rw[hoz]at h
 obtain⟨k,hk,he⟩:=Array.any_eq_true.1 h
 simp at he
 exact⟨_,Array.getElem_mem hk,he.1,he.2⟩
theorem Lt.take{v:Z}(hi:ops[i]?=M oi)(hs:Region.noSelect ops=true)(hf:Region.free .any ops l i=true)(hr:(Region.ready .any ops l).contains i=true)(hz:Zv ops z i=true)(hQ:∀c a w,Q (.panic c) (a.put oi.dst v) w->Q (.panic c) a w)(hS:AC w)(hy:YieldsIf P ops AC oi v a)(h:Lt P ops Q AC z n (l.setIfInBounds i true) (a.put oi.dst v) w):Lt P ops Q AC z (n+1) l a w:=
 Lt.take1 hi (Region.noSelect_spec hs) hQ (waits_spec hz) n l a w (Region.free_spec hi hf) (by simpa using hr) hy hS h
theorem Lt.tk{v:Z}(hi:ops[i]?=M oi)(hc:(Region.noSelect ops&&Region.free .any ops l i&&(Region.ready .any ops l).contains i&&Zv ops z i)=true)(hQ:∀c a w,Q (.panic c) (a.put oi.dst v) w->Q (.panic c) a w)(hS:AC w)(hy:YieldsIf P ops AC oi v a)(h:Lt P ops Q AC z n (l.setIfInBounds i true) (a.put oi.dst v) w):Lt P ops Q AC z (n+1) l a w:=by
 simp only[Bool.and_eq_true]at hc
 exact Lt.take hi hc.1.1.1 hc.1.1.2 hc.1.2 hc.2 hQ hS hy h
theorem gX:(∀(a:Act)(d:Option Tmp)(v:Z),a.put d v=match d with|some d=>{ a with tmps:=a.tmps.setIfInBounds d v }|none=>a)/\(∀ {α:Type} (l:L α) (i:X) (a:α),l.toArray.setIfInBounds i a=(l.set i a).toArray)/\(∀ {α:Type} (a b:α) (l:L α),(a::l).set 0 b=b::l)/\∀ {α:Type} (a b:α) (l:L α) (n:X),(a::l).set (n+1) b=a::l.set n b:=⟨λ_ _ _=>rfl,λ_ _ _=>qg,λ_ _ _=>rfl,λ_ _ _ _=>rfl⟩
abbrev K(_:X)(p:Prop):Prop:=p
theorem Lt.ti{v:Z}(hS:AC w)(hy:∀w,AC w->(execOp a.eval oi).run P w=.ok (.value v) w)(h:K (i+1) (Lt P ops Q AC z n (l.setIfInBounds i true) (a.put oi.dst v) w))(hi:ops.toList[i]?=M oi:=by rfl)(hc:(Region.noSelect ops&&Region.free .any ops l i&&(Region.ready .any ops l).contains i&&Zv ops z i)=true:=by kernel_rfl)(hQ:∀c a w,Q (.panic c) (a.put oi.dst v) w->Q (.panic c) a w:=by exact λ_ _ _ h=>h)(hg:Region.wanted oi (yielded ops a.tmps)=true:=by rfl):K i (Lt P ops Q AC z (n+1) l a w):=Lt.tk (Array.getElem?_toList.symm.trans hi) hc hQ hS (Or.inl ⟨hg,hy⟩) h
theorem Lt.sp{o:Oper}(h:∀K:Act->E->Prop,Shut (∀a w,(i≠z->AC w)->((i≠z->AC w)->Lt P ops Q AC z n (l.setIfInBounds i true) a w)->K a w)->if Region.wanted o (yielded ops a.tmps)=true then Oper.wp P o a w K Q else K (a.put o.dst undef) w)(ho:ops.toList[i]?=M o:=by rfl)(hr:Region.ready .any ops l=[i]:=by kernel_rfl):Lt P ops Q AC z (n+1) l a w:=Lt.step hr (Array.getElem?_toList.symm.trans ho) h
end
end
theorem filled3_set(h:Ck is k xs)(hx:k*3+2<xs.length):Ck is (k+1) (((xs.set (k*3) (I (ix is k).op)).set (k*3+1) (S (ix is k).text)).set (k*3+2) (I (ix is k).n)):=by
 exact qhx
theorem row3_own{cap:X}(hn:n=is.length)(h:w.ownsRow B 143 3 (J (p_ g) n cap) n xs)(hf:Ck is n xs):Bu w (p_ g) is:=by
 exact qin
theorem Tryz.info143:(prog.info? 143).map (λi=>(i.zero,i.size,i.bytes))=M (M (.agg #[I 0,S ByteArray.empty,I 0]),3,32):=qi
theorem Jx{cap:X}(h:w.ownsRow B 143 3 (J (p_ g) n cap) n xs)(hj:j<n*3):∃v,w.cell? ⟨g,j,N⟩=M v:=by
 exact qeu
theorem Bu.setCell(h:Bu w (p_ g) is)(hb:b≠g)(v:Z):Bu (w.setCell ⟨b,j,N⟩ v) (p_ g) is:=by
 exact qib
theorem Oc{w1:E}(h:Bw w w1)(hb:w.heap.size≤b)(v:Z):Bw w (w1.setCell ⟨b,j,N⟩ v):=h.setCell hb v
theorem Cc.setCell{ss:L By}(h:Cc w (p_ g) ss)(hb:b≠g)(v:Z):Cc (w.setCell ⟨b,j,N⟩ v) (p_ g) ss:=by
 intro i hi;obtain⟨b',off,ha,h1⟩:=h i hi;cases ha;have e:∀o,(w.setCell ⟨b,j,N⟩ v).cell? ⟨g,o,N⟩=w.cell? ⟨g,o,N⟩:=λo=>World.cell?_of_block (w:=w) (hC w ⟨b,j,N⟩ v g (λe=>hb e.symm));exact⟨g,0,rfl,by rw[e];exact h1⟩
def Mn(ss:L By):X:=(ss.map ByteArray.size).sum
theorem Rr(ss:L By)(k:X)(h:k<ss.length):Mn (ss.take (k+1))=Mn (ss.take k)+(ss.getD k ByteArray.empty).size:=by
 have e:ss.take (k+1)=ss.take k++[ss[k]]:=List.take_succ_eq_append_getElem h;unfold Mn;rw[e,List.map_append,List.sum_append,gG,Ix h];simp
theorem getD_le{ss:L By}(h:∀s∈ss,s.size≤maxLen)(k:X):(ss.getD k ByteArray.empty).size≤maxLen:=by
 rw[gG]
 cases hk:ss[k]? with
 | none=>simp[maxLen]
 | some s=>exact h s (List.mem_of_getElem? hk)
theorem Tryz.info9:(prog.info? 9).map (λi=>(i.zero,i.size,i.bytes))=M (M (S ByteArray.empty),1,16):=qi
def Ej(ss:L By)(k n:X):L Z:=(ss.take k).map Value.string++List.replicate (n-k) (Value.string ByteArray.empty)
theorem Im(ss:L By)(k:X)(h:k≤ss.length):(Ej ss k ss.length).length=ss.length:=by
 simp[Ej];omega
theorem Ub(ss:L By)(k:X)(h:k<ss.length):(Ej ss k ss.length).set k (S (ss.getD k ByteArray.empty))=Ej ss (k+1) ss.length:=by
 unfold Ej;have e:ss.take (k+1)=ss.take k++[ss[k]]:=List.take_succ_eq_append_getElem h
 have hr:List.replicate (ss.length-k) (Value.string ByteArray.empty)=Value.string ByteArray.empty::List.replicate (ss.length-(k+1)) (Value.string ByteArray.empty):=by
  rw[show ss.length-k=(ss.length-(k+1))+1 from qb,List.replicate_succ]
 rw[e,hr,List.set_append_right _ _ qh];have hk:k-((ss.take k).map Value.string).length=0:=qh;rw[hk,gG,Ix h,List.map_append,List.append_assoc];rfl
theorem filled_get(ss:L By)(i:X)(h:i<ss.length):(Ej ss ss.length ss.length)[i]?=M (S (ss.getD i ByteArray.empty)):=by
 simp[Ej,gG,Ix h]
theorem Pm(n:X):(madeCells (Value.string ByteArray.empty).cells (n*1)).toList=List.replicate n (S ByteArray.empty):=by
 exact qls
theorem Fr.setCell{is:L G3}(h:Fr w (p_ g) is)(hb:b≠g)(v:Z):Fr (w.setCell ⟨b,j,N⟩ v) (p_ g) is:=by
 exact qib
theorem filledG_set{is:L G3}(h:Bk is k xs)(hx:k*3+2<xs.length):Bk is (k+1) (((xs.set (k*3) (S (gx is k).name)).set (k*3+1) (.bool (gx is k).ask)).set (k*3+2) (S (gx is k).sum)):=by
 exact qhx
theorem Qan{cap:X}{is:L G3}(hn:n=is.length)(h:w.ownsRow B T 3 (J (p_ g) n cap) n xs)(hf:Bk is n xs):Fr w (p_ g) is:=by
 exact qin
theorem Bo{cap:X}(h:w.ownsRow B T 3 (J (p_ g) n cap) n xs)(hj:j<n*3):∃v,w.cell? ⟨g,j,N⟩=M v:=by
 exact qeu
theorem Tryz.info145:(prog.info? 145).map (λi=>(i.zero,i.size,i.bytes))=M (M (.agg #[S ByteArray.empty,.bool false,S ByteArray.empty]),3,40):=qi
structure Xg (w:E) (a:Option Addr) (is:L I3) (la:Option Addr) (gs:L G3) (out:By):Prop where
 rc:Bu w a is
 rg:Fr w la gs
 lc:is.length≤maxLen
 lg:gs.length≤maxLen
 xc:∀i,(ix is i).text.size≤maxLen
 ng:∀i,(gx gs i).name.size≤maxLen
 sg:∀i,(gx gs i).sum.size≤maxLen
 so:out.size≤maxLen
structure T3 where
 code:L I3
 looks:L G3
 out:By
def q00:T3:=⟨[],[],ByteArray.empty⟩
def qx(is:L T3)(i:X):T3:=is.getD i q00
def Lw(w:E)(a:Option Addr)(is:L T3):Prop:=
 ∀i,i<is.length→∃b off,a=M ⟨b,off,N⟩∧∃ca cc la lc,w.cell? ⟨b,off+i*3,N⟩=M (J ca (qx is i).code.length cc)∧w.cell? ⟨b,off+i*3+1,N⟩=M (J la (qx is i).looks.length lc)∧w.cell? ⟨b,off+i*3+2,N⟩=M (S (qx is i).out)∧Bu w ca (qx is i).code∧Fr w la (qx is i).looks
theorem Lw.bl{a:Option Addr}{is:L T3}(h:Lw w a is)(hb:Bw w w'):Lw w' a is:=by
 intro i hi;obtain⟨b,off,ha,ca,cc,la,lc,h1,h2,h3,h4,h5⟩:=h i hi;exact⟨b,off,ha,ca,cc,la,lc,Aa hb h1,Aa hb h2,Aa hb h3,h4.bl hb,h5.bl hb⟩
structure QsOk (rs:L T3):Prop where
 lr:rs.length≤maxLen
 lc:∀i,(qx rs i).code.length≤maxLen
 lg:∀i,(qx rs i).looks.length≤maxLen
 xc:∀i j,(ix (qx rs i).code j).text.size≤maxLen
 ng:∀i j,(gx (qx rs i).looks j).name.size≤maxLen
 sg:∀i j,(gx (qx rs i).looks j).sum.size≤maxLen
 so:∀i,(qx rs i).out.size≤maxLen
def Fk(rs:L T3):Prop:=rs.length≤1048576∧∀i,i<rs.length→(qx rs i).code.length≤1048576∧(qx rs i).looks.length≤1048576
theorem Tryz.info94:(prog.info? 94).map (λi=>(i.zero,i.size,i.bytes))=M (M (.agg #[nS,nS,S ByteArray.empty]),3,64):=qi

section
variable {P:Program} {ops:Array Oper} {Q:Exit→Act→E→Prop} {AC:E→Prop} {z:X}
end

def Dc(ob:Option X)(w w':E):Prop:=∀b,b<w.heap.size→M b≠ob→w'.heap[b]?=w.heap[b]?
theorem own_keep{v:Z}(h:w.ownsRow B e sz v n xs)(hk:Dc ob w w')(hne:∀b,v.ownBlock=M b→M b≠ob):w'.ownsRow B e sz v n xs:=by
 refine⟨h.1,?_⟩
 rcases h.2 with h2|⟨g,cap,cur,hv,hg,hh,r⟩
 ·exact Or.inl h2
 ·refine Or.inr ⟨g,cap,cur,hv,hg,?_,r⟩
  subst hv;rw[hk g (h.lt g rfl).2 (hne g rfl)];exact hh
theorem Dm{v:Z}(h:w.ownsRow B e sz v n xs):(v=nS∧n=0)∨∃g cap,v=J (p_ g) n cap:=by
 rcases h.2 with h|⟨g,cap,cur,hv,hg,r⟩
 ·exact Or.inl h
 ·exact Or.inr ⟨g,cap,hv⟩
theorem De.refl(w:E):De lo hi w w:=λ_ _ _=>rfl
theorem De.trans{a b c:E}(h:De lo hi a b)(hs:a.heap.size≤b.heap.size)(k:De lo hi b c):De lo hi a c:=λi hi hr=>(k i qb hr).trans (h i hi hr)
theorem De.of_below(h:Bw w w'):De lo hi w w':=λb hb _=>h.block b hb
theorem Dc.keepR(h:Dc ob w w')(l7:∀b,ob=M b→lo≤b∧b<hi):De lo hi w w':=λb hb hr=>h b hb (λe=>by have:=l7 b e.symm;omega)
theorem Bg.bl{v:Z}(h:Bg w lo hi e sz v n xs)(hb:Bw w w'):Bg w' lo hi e sz v n xs:=h.same λb e=>hb.block b (h.own.lt b e).2
theorem Bg.nil(w:E)(lo hi e sz:X):Bg w lo hi e sz nS 0 []:=⟨World.ownsRow_nil _ _ _ _,λb e=>qbg⟩
theorem Bg.new{v:Z}(h:w.ownsRow lo e sz v n xs):Bg w lo w.heap.size e sz v n xs:=⟨h,λb e=>(h.lt b e).2⟩
theorem Ji{v:Z}(h:Bg w lo hi e sz v n ys):∃va vc,v=J va n vc:=by
 rcases Dm h.own with⟨hv,rfl⟩|⟨g',c',hv⟩
 ·exact⟨_,_,hv⟩
 ·exact⟨_,_,hv⟩
end Go.Proofs.YtbkkjodaaijimaaGreatDoor
