import Derived.Test.YtnflkpmmfpfhlaaGreatDoorTClB
namespace Go.Proofs.YtnflkpmmfpfhlaaGreatDoor
open Value renaming slice->J,string->S,bool->F,agg->G
open Option renaming some->M,none->N
open Obj renaming cells->O
open Go renaming Value->Z,World->E
open Ending renaming returned->H
open _root_ renaming List->L,Nat->X
set_option maxHeartbeats 8000000
set_option maxRecDepth 100000
open _root_.Go.Proofs.Tryz Go.RowKit Go.Deep
set_option linter.unusedVariables false
set_option linter.unusedSimpArgs false
variable {w w' w1:E} {B B' e sz n lo hi g lo' hi' b j k T i cap:X} {v v':Z} {xs ys:L Z} {ss:L S2} {ts:L T2} {cv:X->Z} {is:L I3} {a:Act} {l:Array Bool} {oi:Oper} {ob:Option X}
theorem Jv(h:w.ownsRow B e sz v n xs)(hB:B'<=B):w.ownsRow B' e sz v n xs:=by
 exact qlb
theorem Gy(h:w.ownsRow B e sz v n xs):(v=nS/\n=0)\/∃g cap,v=J (p_ g) n cap:=by
 rcases h.2 with h|⟨g,cap,cur,hv,hg,r⟩
 ·exact Or.inl h
 ·exact Or.inr ⟨g,cap,hv⟩
def Dw(lo hi:X)(w w':E):Prop:=∀b,b<w.heap.size->(b<lo\/hi<=b)->w'.heap[b]?=w.heap[b]?
theorem Dw.set(h1:lo<=g)(h2:g<hi)(j:X)(v:Z):Dw lo hi w (w.setCell ⟨g,j,N⟩ v):=λb hb hr=>Dm w ⟨g,j,N⟩ v b (by show b≠g;omega)
structure Bu (w:E) (lo hi e sz:X) (v:Z) (n:X) (xs:L Z):Prop where
 own:w.ownsRow lo e sz v n xs
 top:∀b,v.ownBlock=M b->b<hi
theorem Rl(h:w.ownsRow B e sz v n xs)(hk:∀b,v.ownBlock=M b->w'.heap[b]?=w.heap[b]?):w'.ownsRow B e sz v n xs:=by
 refine⟨h.1,?_⟩
 rcases h.2 with h2|⟨g,cap,cur,hv,hg,hh,r⟩
 ·exact Or.inl h2
 ·refine Or.inr ⟨g,cap,cur,hv,hg,?_,r⟩;subst hv;rw[hk g rfl];exact hh
theorem Bu.same(h:Bu w lo hi e sz v n xs)(hk:∀b,v.ownBlock=M b->w'.heap[b]?=w.heap[b]?):Bu w' lo hi e sz v n xs:=⟨Rl h.own hk,h.top⟩
theorem Bu.keep(h:Bu w lo hi e sz v n xs)(hk:Dw lo' hi' w w')(hd:hi<=lo'\/hi'<=lo):Bu w' lo hi e sz v n xs:=h.same λb e=>hk b (h.own.lt b e).2 (by have h1:=(h.own.lt b e).1;have h2:=h.top b e;omega)
theorem Bu.wide(h:Bu w lo hi e sz v n xs)(h1:lo'<=lo)(h2:hi<=hi'):Bu w lo' hi' e sz v n xs:=⟨Jv h.own h1,λb e=>by have:=h.top b e;omega⟩
theorem Tc{e' sz' n':X}{xs':L Z}(h:w.ownsRow B e sz v n xs)(h':w.ownsRow B' e' sz' v' n' xs')(hne:e≠e'):∀b,v.ownBlock=M b->v'.ownBlock≠M b:=by
 intro b hb eb
 rcases h.2 with⟨rfl,_⟩|⟨g,cap,cur,rfl,hg,hh,_⟩
 ·simp[Value.ownBlock]at hb
 ·rcases h'.2 with⟨rfl,_⟩|⟨g',aj,cur',rfl,hg',hh',_⟩
  ·simp[Value.ownBlock]at eb
  ·simp only[Value.ownBlock,Option.some.injEq]at hb eb;subst hb;rw[eb]at hh';rw[hh]at hh';simp at hh';exact hne hh'.2
def Jj(w:E)(lo hi:X)(v:Z)(ss:L S2):Prop:=∃xs,Bu w lo hi 120 2 v ss.length xs/\Ok ss ss.length xs
theorem Jj.keep(h:Jj w lo hi v ss)(hk:Dw lo' hi' w w')(hd:hi<=lo'\/hi'<=lo):Jj w' lo hi v ss:=by
 obtain⟨xs,h1,h2⟩:=h;exact⟨xs,h1.keep hk hd,h2⟩
theorem Jj.wide(h:Jj w lo hi v ss)(h1:lo'<=lo)(h2:hi<=hi'):Jj w lo' hi' v ss:=by
 obtain⟨xs,k1,k2⟩:=h;exact⟨xs,k1.wide h1 h2,k2⟩
theorem Jj.sl(h:Jj w lo hi v ss):∃a cap,v=J a ss.length cap/\Kn w a ss:=by
 obtain⟨xs,h1,h2⟩:=h
 rcases Gy h1.own with⟨rfl,h0⟩|⟨g,cap,rfl⟩
 ·exact qbs
 ·exact⟨_,cap,rfl,rowS_own rfl h1.own h2⟩
structure Mr (w:E) (lo hi:X) (v:Z) (ts:L T2) (xs:L Z) (cv:X->Z):Prop where
 row:Bu w lo hi 123 2 v ts.length xs
 fil:∀i,i<ts.length->xs[i*2]?=M (S (tx ts i).name)/\xs[i*2+1]?=M (cv i)
 code:∀i,i<ts.length->∃ys,Bu w lo hi 174 3 (cv i) (tx ts i).code.length ys/\Cs (tx ts i).code (tx ts i).code.length ys
 apart:∀i j,i<j->j<ts.length->∀b,(cv i).ownBlock=M b->(cv j).ownBlock≠M b
def Je(w:E)(lo hi:X)(v:Z)(ts:L T2):Prop:=∃xs cv,Mr w lo hi v ts xs cv
theorem Mr.keep(h:Mr w lo hi v ts xs cv)(hk:Dw lo' hi' w w')(hd:hi<=lo'\/hi'<=lo):Mr w' lo hi v ts xs cv:=
 ⟨h.row.keep hk hd,h.fil,λi hi=>by obtain⟨ys,h1,h2⟩:=h.code i hi;exact⟨ys,h1.keep hk hd,h2⟩,h.apart⟩
theorem Mr.wide(h:Mr w lo hi v ts xs cv)(h1:lo'<=lo)(h2:hi<=hi'):Mr w lo' hi' v ts xs cv:=
 ⟨h.row.wide h1 h2,h.fil,λi hi=>by obtain⟨ys,k1,k2⟩:=h.code i hi;exact⟨ys,k1.wide h1 h2,k2⟩,h.apart⟩
theorem Je.keep(h:Je w lo hi v ts)(hk:Dw lo' hi' w w')(hd:hi<=lo'\/hi'<=lo):Je w' lo hi v ts:=by
 obtain⟨xs,cv,h⟩:=h;exact⟨xs,cv,h.keep hk hd⟩
theorem Je.wide(h:Je w lo hi v ts)(h1:lo'<=lo)(h2:hi<=hi'):Je w lo' hi' v ts:=by
 obtain⟨xs,cv,h⟩:=h;exact⟨xs,cv,h.wide h1 h2⟩
theorem Rk(h:Bu w lo hi 174 3 v is.length ys)(hf:Cs is is.length ys):∃a cap,v=J a is.length cap/\Cn w a is:=by
 rcases Gy h.own with⟨rfl,h0⟩|⟨g,cap,rfl⟩
 ·exact qbs
 ·refine⟨_,cap,rfl,λi hi=>?_⟩;obtain⟨h1,h2,h3⟩:=hf i hi;refine⟨g,0,rfl,?_,?_,?_⟩
  ·rw[Nat.zero_add,h.own.cellAt _ qg];exact h1
  ·rw[Nat.zero_add,h.own.cellAt _ qg];exact h2
  ·rw[Nat.zero_add,h.own.cellAt _ qg];exact h3
theorem Je.sl(h:Je w lo hi v ts):∃a cap,v=J a ts.length cap/\Km w a ts:=by
 obtain⟨xs,cv,h⟩:=h
 rcases Gy h.row.own with⟨rfl,h0⟩|⟨g,cap,rfl⟩
 ·exact qbs
 ·refine⟨_,cap,rfl,λi hi=>?_⟩;obtain⟨h1,h2⟩:=h.fil i hi;obtain⟨ys,k1,k2⟩:=h.code i hi;obtain⟨a',aj,e,r⟩:=Rk k1 k2;refine⟨g,0,rfl,?_,a',aj,?_,r⟩
  ·rw[Nat.zero_add,h.row.own.cellAt _ qg];exact h1
  ·rw[Nat.zero_add,h.row.own.cellAt _ qg,h2,e]
theorem Jj.set(h:Jj w lo hi v ss)(hb:b<lo)(u:Z):Jj (w.setCell ⟨b,j,N⟩ u) lo hi v ss:=h.keep (Dw.set (lo:=b) (hi:=b+1) (Nat.le_refl _) (Nat.lt_succ_self _) j u) (Or.inr hb)
theorem Je.set(h:Je w lo hi v ts)(hb:b<lo)(u:Z):Je (w.setCell ⟨b,j,N⟩ u) lo hi v ts:=h.keep (Dw.set (lo:=b) (hi:=b+1) (Nat.le_refl _) (Nat.lt_succ_self _) j u) (Or.inr hb)
structure Jo (w:E) (lo:X) (is:L T2) (k:X) (xs:L Z) (cv:X->Z):Prop where
 fil:∀i,i<k->xs[i*2]?=M (S (tx is i).name)/\xs[i*2+1]?=M (cv i)
 code:∀i,i<k->∃ys,w.ownsRow lo 174 3 (cv i) (tx is i).code.length ys/\Cs (tx is i).code (tx is i).code.length ys
 apart:∀i j,i<j->j<k->∀b,(cv i).ownBlock=M b->(cv j).ownBlock≠M b
theorem Jo.same{is:L T2}(h:Jo w lo is k xs cv)(hk:∀b,lo<=b->b<w.heap.size->w'.heap[b]?=w.heap[b]?):Jo w' lo is k xs cv:=
 ⟨h.fil,λi hi=>by
  obtain⟨ys,h1,h2⟩:=h.code i hi;exact⟨ys,Rl h1 (λb e=>hk b (h1.lt b e).1 (h1.lt b e).2),h2⟩,h.apart⟩
theorem Jo.set{is:L T2}(h:Jo w lo is k xs cv)(hb:b<lo)(u:Z):Jo (w.setCell ⟨b,j,N⟩ u) lo is k xs cv:=h.same λc hc _=>Dm w ⟨b,j,N⟩ u c (by show c≠b;omega)
theorem Jo.zero(w:E)(lo:X)(is:L T2)(xs:L Z):Jo w lo is 0 xs (λ_=>nS):=⟨λi hi=>qg,λi hi=>qg,λi j _ hj=>qg⟩
theorem Jo.add{w2:E}{is:L T2}{xs2:L Z}(h:Jo w lo is k xs cv)(hb:Bw w w2)(hl:lo<=w.heap.size){c:Z}(ho:w2.ownsRow w.heap.size 174 3 c (tx is k).code.length ys)(hf:Cs (tx is k).code (tx is k).code.length ys)(h1:∀j,j<k*2->xs2[j]?=xs[j]?)(h2:xs2[k*2]?=M (S (tx is k).name))(h3:xs2[k*2+1]?=M c):Jo w2 lo is (k+1) xs2 (λi=>if i=k then c else cv i):=by
 refine⟨λi hi=>?_,λi hi=>?_,λi j n9 hj=>?_⟩
 ·rcases Nat.lt_or_ge i k with hl|hl
  ·obtain⟨k1,k2⟩:=h.fil i hl;rw[h1 _ qg,h1 _ qg,if_neg qg];exact⟨k1,k2⟩
  ·obtain rfl:i=k:=qg;rw[if_pos rfl];exact⟨h2,h3⟩
 ·rcases Nat.lt_or_ge i k with ai|hge
  ·obtain⟨zs,k1,k2⟩:=h.code i ai;simp only[if_neg (show ¬ i=k from qg)];exact⟨zs,Rl k1 (λb e=>hb.block b (k1.lt b e).2),k2⟩
  ·obtain rfl:i=k:=qg;simp only[if_true];exact⟨ys,Jv ho hl,hf⟩
 ·rcases Nat.lt_or_ge j k with ai|hge
  ·simp only[if_neg (show ¬ i=k from qg),if_neg (show ¬ j=k from qg)];exact h.apart i j n9 ai
  ·exact qke
theorem Jo.own{is:L T2}(h:Jo w lo' is is.length xs cv)(hr:w.ownsRow lo 123 2 v is.length xs)(hl:lo<=lo')(hh:w.heap.size<=hi):Je w lo hi v is:=
 ⟨xs,cv,⟨hr,λb e=>by have:=(hr.lt b e).2;omega⟩,h.fil,λi hi=>by
  obtain⟨ys,h1,h2⟩:=h.code i hi;exact⟨ys,⟨Jv h1 hl,λb e=>by have:=(h1.lt b e).2;omega⟩,h2⟩,h.apart⟩
structure Ey (w:E) (lo hi:X) (v:Z) (n:X) (cl:X->X) (xs:L Z) (cv:X->Z):Prop where
 row:Bu w lo hi 123 2 v n xs
 sec:∀i,i<n->xs[i*2+1]?=M (cv i)
 code:∀i,i<n->∃ys,Bu w lo hi 174 3 (cv i) (cl i) ys
 apart:∀i j,i<n->j<n->i≠j->∀b,(cv i).ownBlock=M b->(cv j).ownBlock≠M b
theorem Fp{o:Obj}(h:w.heap[b]?=M o):b<w.heap.size:=by
 exact qmn
theorem Cr(w:E)(o:Obj):(w.alloc o).heap[w.heap.size]?=M o:=qew
theorem En{v1 v2:Z}(h:w.heap[b]?=M (O #[v1,v2] T (0,0))):w.cell? ⟨b,0,N⟩=M v1/\w.cell? ⟨b,1,N⟩=M v2:=
 ⟨qao,qao⟩
theorem Af{o:Obj}(h:w.heap[b]?=M o)(hb:Bw w w'):w'.heap[b]?=M o:=by rw[hb.block _ (Fp h)];exact h
section
open Go.Deep
end
section
open Go.Deep
end
section
section
variable {P:Program} {ops:Array Oper} {Q:Exit->Act->E->Prop} {AC:E->Prop} {z:X}
def Lt(P:Program)(ops:Array Oper)(Q:Exit->Act->E->Prop)(AC:E->Prop)(z:X):X->Array Bool->Act->E->Prop
 | 0,l,a,w=>Region.ready .any ops l=[]/\Q .normal a w
 | n+1,l,a,w=>(Region.ready .any ops l=[]->Q .normal a w)/\∀i∈Region.ready .any ops l,wpOp P ops Q i (λa' w'=>(i≠z->AC w')/\Lt P ops Q AC z n (l.setIfInBounds i true) a' w') a w
theorem Lt.any:∀(n:X)(l:Array Bool)(a:Act)(w:E),Lt P ops Q AC z n l a w->wpAny P .any ops Q n l a w
 | 0,_,_,_,h=>h
 | n+1,_,_,_,h=>⟨h.1,λi hi=>wpOp_mono (λa' w' h'=>Lt.any n _ a' w' h'.2) (h.2 i hi)⟩
theorem Lt.begin{id:X}(z:X)(AC:E->Prop)(hm:P.follows .mixedOrders=true)(h:Lt P ops Q AC z ops.size (Array.replicate ops.size false) a w.drew):(Code.region id ops true).wp P Q a w:=wp_region_any hm (Lt.any _ _ _ _ h)
theorem Lt.done(hr:Region.ready .any ops l=[])(h:Q .normal a w):∀n,Lt P ops Q AC z n l a w
 | 0=>⟨hr,h⟩
 | _+1=>⟨λ_=>h,by rw[hr];simp⟩
theorem Lt.step{o:Oper}(hr:Region.ready .any ops l=[i])(ho:ops[i]?=M o)(h:∀K:Act->E->Prop,Shut (∀a w,(i≠z->AC w)->((i≠z->AC w)->Lt P ops Q AC z n (l.setIfInBounds i true) a w)->K a w)->if Region.wanted o (yielded ops a.tmps)=true then Oper.wp P o a w K Q else K (a.put o.dst undef) w):Lt P ops Q AC z (n+1) l a w:=by
 refine⟨λh0=>(by rw[hr]at h0;cases h0),λj hj=>?_⟩
 rw[hr]at hj
 obtain rfl:j=i:=qci
 exact wpOp_step ho (λK hK=>h K (λa w hS hW=>hK a w ⟨hS,hW hS⟩))
theorem Lt.take1(hi:ops[i]?=M oi)(hsel:∀(j:X)(o:Oper) cs b,ops[j]?=M o->o.op≠.select cs b)(hQ:∀c a w,Q (.panic c) (a.put oi.dst v) w->Q (.panic c) a w)(hz:∀oz,ops[z]?=M oz->∃e∈oz.after,Region.binds .any e=true/\e.on=i):∀(n:X)(l:Array Bool)(a:Act)(w:E),
 (∀j oj,ops[j]?=M oj->j≠i->l.getD j true=false->(∀e∈oj.after,Region.binds .any e=true->e.on≠i)->oi.apart ops oj=true)→
 i∈Region.ready .any ops l->YieldsIf P ops AC oi v a->AC w->Lt P ops Q AC z n (l.setIfInBounds i true) (a.put oi.dst v) w->Lt P ops Q AC z (n+1) l a w:=by
 intro n
 induction n with
 | zero=>
  intro l a w _ hr hy hS AI;refine⟨λh=>(by rw[h]at hr;cases hr),λj hj=>?_⟩
  rcases Decidable.em (j=i)with rfl|hji
  ·exact hy.wpOp hi hS ⟨λ_=>hS,AI⟩
  ·exact absurd (AI.1▸ready_mono hj hji) qi
 | succ n ih=>
  intro l a w hf hr hy hS AI;refine⟨λh=>(by rw[h]at hr;cases hr),λj hj=>?_⟩
  rcases Decidable.em (j=i)with rfl|hji
  ·exact hy.wpOp hi hS ⟨λ_=>hS,AI⟩
  obtain⟨hj0,oj,hoj,ik⟩:=mem_ready.1 hj
  have ip:∀e∈oj.after,Region.binds .any e=true->e.on≠i:=λe he hb jh=>by
   have h1:=ik e he hb;have h0:=(mem_ready.1 hr).1;rw[jh]at h1
   rcases Nat.lt_or_ge i l.size with h'|h'
   ·simp[h']at h0 h1;rw[h0]at h1;cases h1
   ·simp[Array.getElem?_eq_none h']at h1
  have hjz:j≠z:=λe=>by
   subst e;obtain⟨ed,h1,h2,h3⟩:=hz oj hoj;exact ip ed h1 h2 h3
  have te:∀k ok,ops[k]?=M ok->k≠i->(l.setIfInBounds j true).getD k true=false->(∀e∈ok.after,Region.binds .any e=true->e.on≠i)->oi.apart ops ok=true:=λk ok hk hki hun hn=>by
   refine hf k ok hk hki ?_ hn
   rcases Decidable.em (j=k)with rfl|hjk
   ·exact hj0
   ·rw[getD_set_ne true hjk]at hun;exact hun
  refine wpOp_mono (λa' w' h3=>⟨h3.2.1,ih (l.setIfInBounds j true) a' w' te (ready_mono hr (Ne.symm hji)) h3.1 (h3.2.1 hjz) ?_⟩) (wpOp_putIf hoj (hf j oj hoj hji hj0 ip) (λcs b=>hsel i oi cs b hi) (λcs b=>hsel j oj cs b hoj) hQ hy (AI.2 j (ready_mono hj hji)));rw[Array.setIfInBounds_comm _ _ hji];exact h3.2.2
def waits(ops:Array Oper)(z i:X):Bool:=match ops[z]? with
 | some o=>o.after.any λe=>Region.binds .any e&&e.on == i
 | none=>true
theorem waits_spec(h:waits ops z i=true):∀oz,ops[z]?=M oz->∃e∈oz.after,Region.binds .any e=true/\e.on=i:=by
 intro oz hoz
 unfold waits at h
 rw[hoz]at h
 obtain⟨k,hk,he⟩:=Array.any_eq_true.1 h
 simp at he
 exact⟨_,Array.getElem_mem hk,he.1,he.2⟩
theorem Lt.take(hi:ops[i]?=M oi)(hs:Region.noSelect ops=true)(hf:Region.free .any ops l i=true)(hr:(Region.ready .any ops l).contains i=true)(hz:waits ops z i=true)(hQ:∀c a w,Q (.panic c) (a.put oi.dst v) w->Q (.panic c) a w)(hS:AC w)(hy:YieldsIf P ops AC oi v a)(h:Lt P ops Q AC z n (l.setIfInBounds i true) (a.put oi.dst v) w):Lt P ops Q AC z (n+1) l a w:=
 Lt.take1 hi (Region.noSelect_spec hs) hQ (waits_spec hz) n l a w (Region.free_spec hi hf) (by simpa using hr) hy hS h
theorem Lt.tk(hi:ops[i]?=M oi)(hc:(Region.noSelect ops&&Region.free .any ops l i&&(Region.ready .any ops l).contains i&&waits ops z i)=true)(hQ:∀c a w,Q (.panic c) (a.put oi.dst v) w->Q (.panic c) a w)(hS:AC w)(hy:YieldsIf P ops AC oi v a)(h:Lt P ops Q AC z n (l.setIfInBounds i true) (a.put oi.dst v) w):Lt P ops Q AC z (n+1) l a w:=by
 simp only[Bool.and_eq_true]at hc
 exact Lt.take hi hc.1.1.1 hc.1.1.2 hc.1.2 hc.2 hQ hS hy h
theorem gX:(∀(a:Act)(d:Option Tmp)(v:Z),a.put d v=match d with|some d=>{ a with tmps:=a.tmps.setIfInBounds d v }|none=>a)/\(∀ {α:Type} (l:L α) (i:X) (a:α),l.toArray.setIfInBounds i a=(l.set i a).toArray)/\(∀ {α:Type} (a b:α) (l:L α),(a::l).set 0 b=b::l)/\∀ {α:Type} (a b:α) (l:L α) (n:X),(a::l).set (n+1) b=a::l.set n b:=⟨λ_ _ _=>rfl,λ_ _ _=>qi,λ_ _ _=>rfl,λ_ _ _ _=>rfl⟩
abbrev K(_:X)(p:Prop):Prop:=p
theorem Lt.ti(hS:AC w)(hy:∀w,AC w->(execOp a.eval oi).run P w=.ok (.value v) w)(h:K (i+1) (Lt P ops Q AC z n (l.setIfInBounds i true) (a.put oi.dst v) w))(hi:ops.toList[i]?=M oi:=by rfl)(hc:(Region.noSelect ops&&Region.free .any ops l i&&(Region.ready .any ops l).contains i&&waits ops z i)=true:=by kernel_rfl)(hQ:∀c a w,Q (.panic c) (a.put oi.dst v) w->Q (.panic c) a w:=by exact λ_ _ _ h=>h)(hg:Region.wanted oi (yielded ops a.tmps)=true:=by rfl):K i (Lt P ops Q AC z (n+1) l a w):=Lt.tk (Array.getElem?_toList.symm.trans hi) hc hQ hS (Or.inl ⟨hg,hy⟩) h
theorem Lt.sp{o:Oper}(h:∀K:Act->E->Prop,Shut (∀a w,(i≠z->AC w)->((i≠z->AC w)->Lt P ops Q AC z n (l.setIfInBounds i true) a w)->K a w)->if Region.wanted o (yielded ops a.tmps)=true then Oper.wp P o a w K Q else K (a.put o.dst undef) w)(ho:ops.toList[i]?=M o:=by rfl)(hr:Region.ready .any ops l=[i]:=by kernel_rfl):Lt P ops Q AC z (n+1) l a w:=Lt.step hr (Array.getElem?_toList.symm.trans ho) h
end
end
theorem filled3_set(h:Cs is k xs)(hx:k*3+2<xs.length):Cs is (k+1) (((xs.set (k*3) (I (ix is k).op)).set (k*3+1) (S (ix is k).text)).set (k*3+2) (I (ix is k).n)):=by
 exact qja
theorem row3_own(hn:n=is.length)(h:w.ownsRow B 174 3 (J (p_ g) n cap) n xs)(hf:Cs is n xs):Cn w (p_ g) is:=by
 exact qjq
theorem Tryz.info174:(prog.info? 174).map (λi=>(i.zero,i.size,i.bytes))=M (M (G #[I 0,S ByteArray.empty,I 0]),3,32):=qk
theorem Kj(h:w.ownsRow B 174 3 (J (p_ g) n cap) n xs)(hj:j<n*3):∃v,w.cell? ⟨g,j,N⟩=M v:=by
 exact qfu
theorem Cn.setCell(h:Cn w (p_ g) is)(hb:b≠g)(v:Z):Cn (w.setCell ⟨b,j,N⟩ v) (p_ g) is:=by
 exact qjd
theorem Oy(h:Bw w w1)(hb:w.heap.size≤b)(v:Z):Bw w (w1.setCell ⟨b,j,N⟩ v):=h.setCell hb v
theorem Cu.setCell{ss:L By}(h:Cu w (p_ g) ss)(hb:b≠g)(v:Z):Cu (w.setCell ⟨b,j,N⟩ v) (p_ g) ss:=by
 intro i hi;obtain⟨b',off,ha,h1⟩:=h i hi;cases ha;have e:∀o,(w.setCell ⟨b,j,N⟩ v).cell? ⟨g,o,N⟩=w.cell? ⟨g,o,N⟩:=λo=>World.cell?_of_block (w:=w) (Dm w ⟨b,j,N⟩ v g (λe=>hb e.symm));exact⟨g,0,rfl,by rw[e];exact h1⟩
def Py(ss:L By):X:=(ss.map ByteArray.size).sum
theorem Ta(ss:L By)(k:X)(h:k<ss.length):Py (ss.take (k+1))=Py (ss.take k)+(ss.getD k ByteArray.empty).size:=by
 have e:=List.take_succ_eq_append_getElem h;unfold Py;rw[e,List.map_append,List.sum_append,gG,Hq h];simp
theorem getD_le{ss:L By}(h:∀s∈ss,s.size≤maxLen)(k:X):(ss.getD k ByteArray.empty).size≤maxLen:=by
 rw[gG]
 cases hk:ss[k]? with
 | none=>simp[maxLen]
 | some s=>exact h s (List.mem_of_getElem? hk)
theorem Tryz.info9:(prog.info? 9).map (λi=>(i.zero,i.size,i.bytes))=M (M (S ByteArray.empty),1,16):=qk
def Es(ss:L By)(k n:X):L Z:=(ss.take k).map Value.string++List.replicate (n-k) (Value.string ByteArray.empty)
theorem It(ss:L By)(k:X)(h:k≤ss.length):(Es ss k ss.length).length=ss.length:=by
 simp[Es];omega
theorem Vx(ss:L By)(k:X)(h:k<ss.length):(Es ss k ss.length).set k (S (ss.getD k ByteArray.empty))=Es ss (k+1) ss.length:=by
 unfold Es;have e:=List.take_succ_eq_append_getElem h
 have hr:List.replicate (ss.length-k) (Value.string ByteArray.empty)=Value.string ByteArray.empty::List.replicate (ss.length-(k+1)) (Value.string ByteArray.empty):=by
  rw[show ss.length-k=(ss.length-(k+1))+1 from qg,List.replicate_succ]
 rw[e,hr,List.set_append_right _ _ qj];have hk:k-((ss.take k).map Value.string).length=0:=qj;rw[hk,gG,Hq h,List.map_append,List.append_assoc];rfl
theorem filled_get(ss:L By)(i:X)(h:i<ss.length):(Es ss ss.length ss.length)[i]?=M (S (ss.getD i ByteArray.empty)):=by
 simp[Es,gG,Hq h]
theorem Qo(n:X):(madeCells (Value.string ByteArray.empty).cells (n*1)).toList=List.replicate n (S ByteArray.empty):=by
 exact qms
theorem Gf.setCell{is:L G3}(h:Gf w (p_ g) is)(hb:b≠g)(v:Z):Gf (w.setCell ⟨b,j,N⟩ v) (p_ g) is:=by
 exact qjd
theorem filledG_set{is:L G3}(h:Bx is k xs)(hx:k*3+2<xs.length):Bx is (k+1) (((xs.set (k*3) (S (gx is k).name)).set (k*3+1) (F (gx is k).ask)).set (k*3+2) (S (gx is k).sum)):=by
 exact qja
theorem rowG_own{is:L G3}(hn:n=is.length)(h:w.ownsRow B T 3 (J (p_ g) n cap) n xs)(hf:Bx is n xs):Gf w (p_ g) is:=by
 exact qjq
theorem Br(h:w.ownsRow B T 3 (J (p_ g) n cap) n xs)(hj:j<n*3):∃v,w.cell? ⟨g,j,N⟩=M v:=by
 exact qfu
theorem Tryz.info115:(prog.info? 115).map (λi=>(i.zero,i.size,i.bytes))=M (M (G #[S ByteArray.empty,F false,S ByteArray.empty]),3,40):=qk
structure Zf (w:E) (a:Option Addr) (is:L I3) (la:Option Addr) (gs:L G3) (out:By):Prop where
 rc:Cn w a is
 rg:Gf w la gs
 lc:is.length≤maxLen
 lg:gs.length≤maxLen
 xc:∀i,(ix is i).text.size≤maxLen
 ng:∀i,(gx gs i).name.size≤maxLen
 sg:∀i,(gx gs i).sum.size≤maxLen
 so:out.size≤maxLen
structure T3 where
 code:L I3
 looks:L G3
 out:By
def q00:T3:=⟨[],[],ByteArray.empty⟩
def qx(is:L T3)(i:X):T3:=is.getD i q00
def Mk(w:E)(a:Option Addr)(is:L T3):Prop:=
 ∀i,i<is.length→∃b off,a=M ⟨b,off,N⟩∧∃ca cc la lc,w.cell? ⟨b,off+i*3,N⟩=M (J ca (qx is i).code.length cc)∧w.cell? ⟨b,off+i*3+1,N⟩=M (J la (qx is i).looks.length lc)∧w.cell? ⟨b,off+i*3+2,N⟩=M (S (qx is i).out)∧Cn w ca (qx is i).code∧Gf w la (qx is i).looks
theorem Mk.bl{a:Option Addr}{is:L T3}(h:Mk w a is)(hb:Bw w w'):Mk w' a is:=by
 intro i hi;obtain⟨b,off,ha,ca,cc,la,lc,h1,h2,h3,h4,h5⟩:=h i hi;exact⟨b,off,ha,ca,cc,la,lc,Aa hb h1,Aa hb h2,Aa hb h3,h4.bl hb,h5.bl hb⟩
structure QsOk (rs:L T3):Prop where
 lr:rs.length≤maxLen
 lc:∀i,(qx rs i).code.length≤maxLen
 lg:∀i,(qx rs i).looks.length≤maxLen
 xc:∀i j,(ix (qx rs i).code j).text.size≤maxLen
 ng:∀i j,(gx (qx rs i).looks j).name.size≤maxLen
 sg:∀i j,(gx (qx rs i).looks j).sum.size≤maxLen
 so:∀i,(qx rs i).out.size≤maxLen
def Ec(rs:L T3):Prop:=rs.length≤1048576∧∀i,i<rs.length→(qx rs i).code.length≤1048576∧(qx rs i).looks.length≤1048576
theorem Tryz.info73:(prog.info? 73).map (λi=>(i.zero,i.size,i.bytes))=M (M (G #[nS,nS,S ByteArray.empty]),3,64):=qk

section
variable {P:Program} {ops:Array Oper} {Q:Exit→Act→E→Prop} {AC:E→Prop} {z:X}
end

def Ej(ob:Option X)(w w':E):Prop:=∀b,b<w.heap.size→M b≠ob→w'.heap[b]?=w.heap[b]?
theorem own_keep(h:w.ownsRow B e sz v n xs)(hk:Ej ob w w')(hne:∀b,v.ownBlock=M b→M b≠ob):w'.ownsRow B e sz v n xs:=by
 refine⟨h.1,?_⟩
 rcases h.2 with h2|⟨g,cap,cur,hv,hg,hh,r⟩
 ·exact Or.inl h2
 ·refine Or.inr ⟨g,cap,cur,hv,hg,?_,r⟩
  subst hv;rw[hk g (h.lt g rfl).2 (hne g rfl)];exact hh
theorem Db(h:w.ownsRow B e sz v n xs):(v=nS∧n=0)∨∃g cap,v=J (p_ g) n cap:=by
 rcases h.2 with h|⟨g,cap,cur,hv,hg,r⟩
 ·exact Or.inl h
 ·exact Or.inr ⟨g,cap,hv⟩
theorem Dw.trans{a b c:E}(h:Dw lo hi a b)(hs:a.heap.size≤b.heap.size)(k:Dw lo hi b c):Dw lo hi a c:=λi hi hr=>(k i qg hr).trans (h i hi hr)
theorem Dw.of_below(h:Bw w w'):Dw lo hi w w':=λb hb _=>h.block b hb
theorem Ej.keepR(h:Ej ob w w')(og:∀b,ob=M b→lo≤b∧b<hi):Dw lo hi w w':=λb hb hr=>h b hb (λe=>by have:=og b e.symm;omega)
theorem Bu.bl(h:Bu w lo hi e sz v n xs)(hb:Bw w w'):Bu w' lo hi e sz v n xs:=h.same λb e=>hb.block b (h.own.lt b e).2
theorem Bu.nil(w:E)(lo hi e sz:X):Bu w lo hi e sz nS 0 []:=⟨World.ownsRow_nil _ _ _ _,λb e=>qbl⟩
theorem Bu.new(h:w.ownsRow lo e sz v n xs):Bu w lo w.heap.size e sz v n xs:=⟨h,λb e=>(h.lt b e).2⟩
theorem Fh(h:Bu w lo hi e sz v n ys):∃va vc,v=J va n vc:=by
 rcases Db h.own with⟨hv,rfl⟩|⟨g',c',hv⟩
 ·exact⟨_,_,hv⟩
 ·exact⟨_,_,hv⟩
def hstep(v c:Int):Int:=IntKind.u64.wrap (bits BinOp.xor IntKind.u64 v (IntKind.u64.wrap c)*1099511628211)
def Df(l:L UInt8):Int:=l.foldl (λv c=>hstep v c.toNat) 14695981039346656037
theorem hash_snoc(l:L UInt8)(c:UInt8):Df (l++[c])=hstep (Df l) c.toNat:=by simp[Df,List.foldl_append]
theorem wrap_u64_bd(x:Int):0≤IntKind.u64.wrap x∧IntKind.u64.wrap x<18446744073709551616:=by
 have e:IntKind.u64.wrap x=x % 2 ^ 64:=rfl;rw[e];omega
theorem Iq(l:L UInt8):0≤Df l∧Df l<18446744073709551616:=by
 unfold Df
 rcases List.eq_nil_or_concat l with rfl|⟨l',c,rfl⟩
 ·simp
 ·rw[List.concat_eq_append,List.foldl_append];exact wrap_u64_bd _
def dig(V:Int)(k:X):UInt8:=UInt8.ofNat ((V / 256 ^ k).toNat % 256)
def Ii(V:Int):X→L UInt8
 | 0=>[]
 | k+1=>dig V k::Ii V k
theorem Fv(V:Int):∀k,(Ii V k).length=k
 | 0=>rfl
 | k+1=>by simp[Ii,Fv V k]
theorem div_bd(V:Int)(k:X)(h:0≤V)(h2:V<18446744073709551616):0≤V / 256 ^ k∧V / 256 ^ k<18446744073709551616:=by
 have hp:(0:Int)<256 ^ k:=Int.pow_pos qg;exact⟨Int.ediv_nonneg h (Int.le_of_lt hp),Int.lt_of_le_of_lt (Int.ediv_le_self _ h) h2⟩
theorem Za(V:Int)(h:0≤V)(k:X):((dig V k).toNat:Int)=V / 256 ^ k % 256:=by
 have:0≤V / 256 ^ k:=Int.ediv_nonneg h (Int.le_of_lt (Int.pow_pos qg));unfold dig;rw[UInt8.toNat_ofNat'];omega
theorem div_succ(V:Int)(k:X):V / 256 ^ (k+1)=V / 256 ^ k / 256:=by
 rw[Int.pow_succ,Int.ediv_ediv_of_nonneg (Int.le_of_lt (Int.pow_pos qg))]
def Kh(V:Int)(k:X):L Z:=(Ii V k).map λb=>Value.int .u8 b.toNat
theorem Xr(V:Int)(k:X):(Kh V k).length=k:=by simp[Kh,Fv]
theorem dcells_succ(V:Int)(h:0≤V)(k:X):Kh V (k+1)=[Value.int .u8 (V / 256 ^ k % 256)]++Kh V k:=by
 simp[Kh,Ii,Za V h]
theorem dcells_one(V:Int)(k:X):∀u∈Kh V k,u.oneCell'=true:=by
 intro u hu;obtain⟨_,_,rfl⟩:=List.mem_map.1 hu;rfl
theorem take_snocV(s:By)(k:X)(h:k<s.size):s.data.toList.take (k+1)=s.data.toList.take k++[s[k]]:=by
 rw[List.take_succ_eq_append_getElem qbh];rfl
def Da(V:Int)(n j:X):Int:=if j<n then V / 256 ^ (n-1-j) % 256 else 0
def Be(V:Int)(n:X):Array Z:=
 #[.int .u8 (Da V n 0),.int .u8 (Da V n 1),.int .u8 (Da V n 2),.int .u8 (Da V n 3),.int .u8 (Da V n 4),.int .u8 (Da V n 5),.int .u8 (Da V n 6),.int .u8 (Da V n 7)]
theorem digs_get(V:Int):∀(n j:X)(h:j<(Ii V n).length),(Ii V n)[j]=dig V (n-1-j)
 | 0,j,h=>by simp[Ii]at h
 | n+1,0,h=>by simp[Ii]
 | n+1,j+1,h=>by
   (have h':j<(Ii V n).length:=by simpa [Ii] using h);have:=digs_get V n j h';simp only[Ii,List.getElem_cons_succ,this];congr 1;omega
theorem cell8_digs(V:Int)(hV:0≤V)(n j:X)(h:j<(Ii V n).length):Value.int .u8 (Da V n j)=.int .u8 ((Ii V n)[j].toNat:Int):=by
 have hn:j<n:=by simpa [Fv] using h
 rw[digs_get,Za V hV,Da,if_pos hn]
theorem Tryz.info5:(prog.info? 5).map (λi=>(i.zero,i.size,i.bytes))=M (M (.int .u8 0),1,1):=qk
theorem Kv(n:Int)(w:E)(h1:1≤n)(h2:n≤8):Calls prog 54 #[I n] w λe w'=>e=H (F true)∧w=w':=by
 exact qgc
theorem l1Width_no(n:Int)(w:E)(h:n<1∨8<n):Calls prog 54 #[I n] w λe w'=>e=H (F false)∧w=w':=by
 rcases h with h|h
 ·have h':decide (1≤n)=false:=qj
  exact qgc
 ·have h':1≤n:=qg
  have h'':decide (n≤8)=false:=qj;exact qgc
theorem Jy(n:Int)(w:E)(h1:1≤n)(h2:n≤8):Calls prog 64 #[I n] w λe w'=>e=H (F true)∧w=w':=by
 exact qgb
theorem Ws(n:Int)(w:E)(h:n<1∨8<n):Calls prog 64 #[I n] w λe w'=>e=H (F false)∧w=w':=by
 rcases h with h|h
 ·have h':decide (1≤n)=false:=qj
  exact qgb
 ·have h':1≤n:=qg
  have h'':decide (n≤8)=false:=qj;exact qgb
theorem Qab{wr:E}{V:Int}(hV:0≤V)(de:w.heap.size≤wr.heap.size)(am:Bw w wr)(aw:w1.ownsRow w.heap.size 5 1 v' (1+j) ([Value.int .u8 (V / 256 ^ j % 256)]++Kh V j))(ae:(wr.alloc (O #[Value.int .u8 (V / 256 ^ j % 256)] 5)).grownBy w1 (Value.slice (p_ wr.heap.size) 1 1).ownBlock)(dj:v'=nS↔Value.slice (p_ wr.heap.size) 1 1=nS∧j=0):∃g cap:X,v'=J (p_ g) (j+1) cap∧w1.ownsRow w.heap.size 5 1 (J (p_ g) (j+1) cap) (j+1) (Kh V (j+1))∧Bw w w1:=by
 rw[←dcells_succ V hV,Nat.add_comm 1 j]at aw;have hb:Bw w w1:=(am.alloc de _).grown ae qj (by intro k hk;simp[Value.ownBlock]at hk;omega);have h2:=aw.2
 rcases h2 with⟨h,_⟩|⟨g,cap,cur,hv,_⟩
 ·have:=dj.1 h;simp at this
 ·subst hv;exact⟨g,cap,rfl,aw,hb⟩
theorem Ex(s:By)(n:X)(w:E)(hs:s.size≤1048576)(h1:1≤n)(h2:n≤8):Calls prog 27 #[S s,I n] w λe w'=>e=H (S ⟨(Ii (Df s.data.toList) n).toArray⟩)∧Bw w w':=by
 obtain⟨i0,hi,bq,bi,ci⟩:=info_parts Tryz.info5;obtain⟨W6,hV2⟩:=Iq s.data.toList;generalize hV:Df s.data.toList=V at *;have HV:=Ab hV;clear hV;go_enter func27,ntmps27
 go_wp2_with (first|(go_at_call 54;refine(Kv _ _ qg qg).mono ?_;rintro e w' ⟨rfl,rfl⟩))
 go_loop [5,6] (λv i=>∃k:X,k≤s.size∧i=I k∧v=.int .u64 (Df (s.data.toList.take k))) (λ_ i=>s.size-(intOf i).toNat)
 case atStart=>exact⟨0,Nat.zero_le _,rfl,rfl⟩
 case round=>
  obtain⟨k,hk,rfl,rfl⟩:=hrel
  by_cases ai:k<s.size
  ·exact qat
  ·rw[show s.data.toList.take k=s.data.toList from List.take_of_length_le qj]
   rw[HV.o];go_wp2
   go_loopw [5,7,8] (λv o i wr=>∃k:X,∃g cap:X,k≤n∧i=I k∧v=.int .u64 (V / 256 ^ k)∧o=J (p_ g) k cap∧
    wr.ownsRow w.heap.size 5 1 (J (p_ g) k cap) k (Kh V k)∧Bw w wr)
    (λ_ _ i _=>n-(intOf i).toNat)
   case atStart=>
    refine⟨0,w.heap.size,0,Nat.zero_le _,rfl,qi,rfl,?_,aN _ _⟩;exact World.ownsRow_lit w #[] 0 (Nat.le_refl _) qq qi
   case round=>
    obtain⟨j,g,cap,hj,rfl,rfl,rfl,ah,am⟩:=hrel;obtain⟨hd1,hd2⟩:=div_bd V j W6 hV2;have de:=am.size
    by_cases hjn:j<n
    ·have hnew:=World.ownsRow_lit (base:=w.heap.size) (e:=5) (size:=1) wr #[Value.int .u8 (V / 256 ^ j % 256)] 1 de qq qi
     have jd:=(ah.alloc (O #[Value.int .u8 (V / 256 ^ j % 256)] 5)).cells (g:=g) rfl
     go_wp2_with (first|(at_builtin;refine wpList_append_own _ rfl (.tmp 34) (.tmp 35) 118 rfl w.heap.size 5 i0 (.int .u8 0) 1 1 underlying118 hi bq bi ci rfl qh _ _ _ rfl hnew ⟨g,0,N⟩ j cap (Kh V j) rfl (by simp[Xr]) jd (dcells_one V j) qq qg qj ?_;intro v' w1 aw ae dj;obtain⟨g',aj,hv',R⟩:=Qab W6 de am aw ae dj;clear aw ae dj hnew jd ah am;rw[hv'];clear hv'))
     go_roundw
     case rel=>exact⟨j+1,g',aj,qg,qm,by rw[div_succ],rfl,R.1,R.2⟩
     case measure=>simp[intOf];omega
    ·have ej:j=n:=qg
     have hcv:(convert 118 9 (J (p_ g) j cap)).run prog wr=.ok (S ⟨(Ii V j).toArray⟩) wr:=by
      have:=run_convert_bytes_back (P:=prog) wr 118 9 5 ⟨g,0,N⟩ cap (Ii V j) underlying118 underlying5 underlying9 (λt ht=>ah.cells rfl t _ (by rw[Kh,List.getElem?_map,Hq ht];rfl))
      rwa [Fv]at this
     have Hej:=Ab ej;clear ej;go_wp2;go_ret;exact⟨by rw[Hej.o];rfl,am⟩
theorem cells8_1(V:Int):Be V 1=#[.int .u8 (V % 256),.int .u8 (0),.int .u8 (0),.int .u8 (0),.int .u8 (0),.int .u8 (0),.int .u8 (0),.int .u8 (0)]:=by
 simp[Be,Da]
theorem sumBytes_1(s:By)(w:E)(hs:s.size≤1048576):Calls prog 65 #[S s,I 1] w λe w'=>e=H (G (Be (Df s.data.toList) 1))∧
 (w.alloc (O (Be (Df s.data.toList) 1) 138)).alloc (O (Be (Df s.data.toList) 1) 138)=w':=by
 obtain⟨W6,hV2⟩:=Iq s.data.toList;generalize hV:Df s.data.toList=V at *;have HV:=Ab hV;clear hV;rw[cells8_1];go_enter func65,ntmps65;go_wp2
 go_loop [5,6,11] (λv _ i=>∃k:X,k≤s.size∧i=I k∧v=.int .u64 (Df (s.data.toList.take k))) (λ_ _ i=>s.size-(intOf i).toNat)
 case atStart=>exact⟨0,Nat.zero_le _,rfl,rfl⟩
 case round=>
  obtain⟨k,hk,rfl,rfl⟩:=hrel
  by_cases ai:k<s.size
  ·exact qat
  ·rw[show s.data.toList.take k=s.data.toList from List.take_of_length_le qj]
   rw[HV.o];go_wp2;refine wp_loop_rounds 2 ?_
   iterate 2 (rw[rounds_succ];go_wp2)
   exact bR (v:=G #[.int .u8 (V % 256),.int .u8 (0),.int .u8 (0),.int .u8 (0),.int .u8 (0),.int .u8 (0),.int .u8 (0),.int .u8 (0)]) qbd rfl ⟨rfl,rfl⟩
theorem cells8_2(V:Int):Be V 2=#[.int .u8 (V / 256 % 256),.int .u8 (V % 256),.int .u8 (0),.int .u8 (0),.int .u8 (0),.int .u8 (0),.int .u8 (0),.int .u8 (0)]:=by
 simp[Be,Da]
theorem sumBytes_2(s:By)(w:E)(hs:s.size≤1048576):Calls prog 65 #[S s,I 2] w λe w'=>e=H (G (Be (Df s.data.toList) 2))∧
 (w.alloc (O (Be (Df s.data.toList) 2) 138)).alloc (O (Be (Df s.data.toList) 2) 138)=w':=by
 obtain⟨W6,hV2⟩:=Iq s.data.toList;generalize hV:Df s.data.toList=V at *;have HV:=Ab hV;clear hV;rw[cells8_2];go_enter func65,ntmps65;go_wp2
 go_loop [5,6,11] (λv _ i=>∃k:X,k≤s.size∧i=I k∧v=.int .u64 (Df (s.data.toList.take k))) (λ_ _ i=>s.size-(intOf i).toNat)
 case atStart=>exact⟨0,Nat.zero_le _,rfl,rfl⟩
 case round=>
  obtain⟨k,hk,rfl,rfl⟩:=hrel
  by_cases ai:k<s.size
  ·exact qat
  ·rw[show s.data.toList.take k=s.data.toList from List.take_of_length_le qj]
   rw[HV.o];go_wp2;refine wp_loop_rounds 3 ?_
   iterate 3 (rw[rounds_succ];go_wp2)
   exact bR (v:=G #[.int .u8 (V / 256 % 256),.int .u8 (V % 256),.int .u8 (0),.int .u8 (0),.int .u8 (0),.int .u8 (0),.int .u8 (0),.int .u8 (0)]) qbd rfl ⟨rfl,rfl⟩
theorem cells8_3(V:Int):Be V 3=#[.int .u8 (V / 256 / 256 % 256),.int .u8 (V / 256 % 256),.int .u8 (V % 256),.int .u8 (0),.int .u8 (0),.int .u8 (0),.int .u8 (0),.int .u8 (0)]:=by
 simp[Be,Da];omega
theorem sumBytes_3(s:By)(w:E)(hs:s.size≤1048576):Calls prog 65 #[S s,I 3] w λe w'=>e=H (G (Be (Df s.data.toList) 3))∧
 (w.alloc (O (Be (Df s.data.toList) 3) 138)).alloc (O (Be (Df s.data.toList) 3) 138)=w':=by
 obtain⟨W6,hV2⟩:=Iq s.data.toList;generalize hV:Df s.data.toList=V at *;have HV:=Ab hV;clear hV;rw[cells8_3];go_enter func65,ntmps65;go_wp2
 go_loop [5,6,11] (λv _ i=>∃k:X,k≤s.size∧i=I k∧v=.int .u64 (Df (s.data.toList.take k))) (λ_ _ i=>s.size-(intOf i).toNat)
 case atStart=>exact⟨0,Nat.zero_le _,rfl,rfl⟩
 case round=>
  obtain⟨k,hk,rfl,rfl⟩:=hrel
  by_cases ai:k<s.size
  ·exact qat
  ·rw[show s.data.toList.take k=s.data.toList from List.take_of_length_le qj]
   rw[HV.o];go_wp2;refine wp_loop_rounds 4 ?_
   iterate 4 (rw[rounds_succ];go_wp2)
   exact bR (v:=G #[.int .u8 (V / 256 / 256 % 256),.int .u8 (V / 256 % 256),.int .u8 (V % 256),.int .u8 (0),.int .u8 (0),.int .u8 (0),.int .u8 (0),.int .u8 (0)]) qbd rfl ⟨rfl,rfl⟩
theorem cells8_4(V:Int):Be V 4=#[.int .u8 (V / 256 / 256 / 256 % 256),.int .u8 (V / 256 / 256 % 256),.int .u8 (V / 256 % 256),.int .u8 (V % 256),.int .u8 (0),.int .u8 (0),.int .u8 (0),.int .u8 (0)]:=by
 simp[Be,Da];omega
theorem sumBytes_4(s:By)(w:E)(hs:s.size≤1048576):Calls prog 65 #[S s,I 4] w λe w'=>e=H (G (Be (Df s.data.toList) 4))∧
 (w.alloc (O (Be (Df s.data.toList) 4) 138)).alloc (O (Be (Df s.data.toList) 4) 138)=w':=by
 obtain⟨W6,hV2⟩:=Iq s.data.toList;generalize hV:Df s.data.toList=V at *;have HV:=Ab hV;clear hV;rw[cells8_4];go_enter func65,ntmps65;go_wp2
 go_loop [5,6,11] (λv _ i=>∃k:X,k≤s.size∧i=I k∧v=.int .u64 (Df (s.data.toList.take k))) (λ_ _ i=>s.size-(intOf i).toNat)
 case atStart=>exact⟨0,Nat.zero_le _,rfl,rfl⟩
 case round=>
  obtain⟨k,hk,rfl,rfl⟩:=hrel
  by_cases ai:k<s.size
  ·exact qat
  ·rw[show s.data.toList.take k=s.data.toList from List.take_of_length_le qj]
   rw[HV.o];go_wp2;refine wp_loop_rounds 5 ?_
   iterate 5 (rw[rounds_succ];go_wp2)
   exact bR (v:=G #[.int .u8 (V / 256 / 256 / 256 % 256),.int .u8 (V / 256 / 256 % 256),.int .u8 (V / 256 % 256),.int .u8 (V % 256),.int .u8 (0),.int .u8 (0),.int .u8 (0),.int .u8 (0)]) qbd rfl ⟨rfl,rfl⟩
theorem cells8_5(V:Int):Be V 5=#[.int .u8 (V / 256 / 256 / 256 / 256 % 256),.int .u8 (V / 256 / 256 / 256 % 256),.int .u8 (V / 256 / 256 % 256),.int .u8 (V / 256 % 256),.int .u8 (V % 256),.int .u8 (0),.int .u8 (0),.int .u8 (0)]:=by
 simp[Be,Da];omega
theorem sumBytes_5(s:By)(w:E)(hs:s.size≤1048576):Calls prog 65 #[S s,I 5] w λe w'=>e=H (G (Be (Df s.data.toList) 5))∧
 (w.alloc (O (Be (Df s.data.toList) 5) 138)).alloc (O (Be (Df s.data.toList) 5) 138)=w':=by
 obtain⟨W6,hV2⟩:=Iq s.data.toList;generalize hV:Df s.data.toList=V at *;have HV:=Ab hV;clear hV;rw[cells8_5];go_enter func65,ntmps65;go_wp2
 go_loop [5,6,11] (λv _ i=>∃k:X,k≤s.size∧i=I k∧v=.int .u64 (Df (s.data.toList.take k))) (λ_ _ i=>s.size-(intOf i).toNat)
 case atStart=>exact⟨0,Nat.zero_le _,rfl,rfl⟩
 case round=>
  obtain⟨k,hk,rfl,rfl⟩:=hrel
  by_cases ai:k<s.size
  ·exact qat
  ·rw[show s.data.toList.take k=s.data.toList from List.take_of_length_le qj]
   rw[HV.o];go_wp2;refine wp_loop_rounds 6 ?_
   iterate 6 (rw[rounds_succ];go_wp2)
   exact bR (v:=G #[.int .u8 (V / 256 / 256 / 256 / 256 % 256),.int .u8 (V / 256 / 256 / 256 % 256),.int .u8 (V / 256 / 256 % 256),.int .u8 (V / 256 % 256),.int .u8 (V % 256),.int .u8 (0),.int .u8 (0),.int .u8 (0)]) qbd rfl ⟨rfl,rfl⟩
theorem cells8_6(V:Int):Be V 6=#[.int .u8 (V / 256 / 256 / 256 / 256 / 256 % 256),.int .u8 (V / 256 / 256 / 256 / 256 % 256),.int .u8 (V / 256 / 256 / 256 % 256),.int .u8 (V / 256 / 256 % 256),.int .u8 (V / 256 % 256),.int .u8 (V % 256),.int .u8 (0),.int .u8 (0)]:=by
 simp[Be,Da];omega
theorem sumBytes_6(s:By)(w:E)(hs:s.size≤1048576):Calls prog 65 #[S s,I 6] w λe w'=>e=H (G (Be (Df s.data.toList) 6))∧
 (w.alloc (O (Be (Df s.data.toList) 6) 138)).alloc (O (Be (Df s.data.toList) 6) 138)=w':=by
 obtain⟨W6,hV2⟩:=Iq s.data.toList;generalize hV:Df s.data.toList=V at *;have HV:=Ab hV;clear hV;rw[cells8_6];go_enter func65,ntmps65;go_wp2
 go_loop [5,6,11] (λv _ i=>∃k:X,k≤s.size∧i=I k∧v=.int .u64 (Df (s.data.toList.take k))) (λ_ _ i=>s.size-(intOf i).toNat)
 case atStart=>exact⟨0,Nat.zero_le _,rfl,rfl⟩
 case round=>
  obtain⟨k,hk,rfl,rfl⟩:=hrel
  by_cases ai:k<s.size
  ·exact qat
  ·rw[show s.data.toList.take k=s.data.toList from List.take_of_length_le qj]
   rw[HV.o];go_wp2;refine wp_loop_rounds 7 ?_
   iterate 7 (rw[rounds_succ];go_wp2)
   exact bR (v:=G #[.int .u8 (V / 256 / 256 / 256 / 256 / 256 % 256),.int .u8 (V / 256 / 256 / 256 / 256 % 256),.int .u8 (V / 256 / 256 / 256 % 256),.int .u8 (V / 256 / 256 % 256),.int .u8 (V / 256 % 256),.int .u8 (V % 256),.int .u8 (0),.int .u8 (0)]) qbd rfl ⟨rfl,rfl⟩
theorem cells8_7(V:Int):Be V 7=#[.int .u8 (V / 256 / 256 / 256 / 256 / 256 / 256 % 256),.int .u8 (V / 256 / 256 / 256 / 256 / 256 % 256),.int .u8 (V / 256 / 256 / 256 / 256 % 256),.int .u8 (V / 256 / 256 / 256 % 256),.int .u8 (V / 256 / 256 % 256),.int .u8 (V / 256 % 256),.int .u8 (V % 256),.int .u8 (0)]:=by
 simp[Be,Da];omega
theorem sumBytes_7(s:By)(w:E)(hs:s.size≤1048576):Calls prog 65 #[S s,I 7] w λe w'=>e=H (G (Be (Df s.data.toList) 7))∧
 (w.alloc (O (Be (Df s.data.toList) 7) 138)).alloc (O (Be (Df s.data.toList) 7) 138)=w':=by
 obtain⟨W6,hV2⟩:=Iq s.data.toList;generalize hV:Df s.data.toList=V at *;have HV:=Ab hV;clear hV;rw[cells8_7];go_enter func65,ntmps65;go_wp2
 go_loop [5,6,11] (λv _ i=>∃k:X,k≤s.size∧i=I k∧v=.int .u64 (Df (s.data.toList.take k))) (λ_ _ i=>s.size-(intOf i).toNat)
 case atStart=>exact⟨0,Nat.zero_le _,rfl,rfl⟩
 case round=>
  obtain⟨k,hk,rfl,rfl⟩:=hrel
  by_cases ai:k<s.size
  ·exact qat
  ·rw[show s.data.toList.take k=s.data.toList from List.take_of_length_le qj]
   rw[HV.o];go_wp2;refine wp_loop_rounds 8 ?_
   iterate 8 (rw[rounds_succ];go_wp2)
   exact bR (v:=G #[.int .u8 (V / 256 / 256 / 256 / 256 / 256 / 256 % 256),.int .u8 (V / 256 / 256 / 256 / 256 / 256 % 256),.int .u8 (V / 256 / 256 / 256 / 256 % 256),.int .u8 (V / 256 / 256 / 256 % 256),.int .u8 (V / 256 / 256 % 256),.int .u8 (V / 256 % 256),.int .u8 (V % 256),.int .u8 (0)]) qbd rfl ⟨rfl,rfl⟩
theorem cells8_8(V:Int)(h1:0≤V)(h2:V<18446744073709551616):Be V 8=#[.int .u8 (V / 256 / 256 / 256 / 256 / 256 / 256 / 256),.int .u8 (V / 256 / 256 / 256 / 256 / 256 / 256 % 256),.int .u8 (V / 256 / 256 / 256 / 256 / 256 % 256),.int .u8 (V / 256 / 256 / 256 / 256 % 256),.int .u8 (V / 256 / 256 / 256 % 256),.int .u8 (V / 256 / 256 % 256),.int .u8 (V / 256 % 256),.int .u8 (V % 256)]:=by
 simp[Be,Da];omega
theorem sumBytes_8(s:By)(w:E)(hs:s.size≤1048576):Calls prog 65 #[S s,I 8] w λe w'=>e=H (G (Be (Df s.data.toList) 8))∧
 (w.alloc (O (Be (Df s.data.toList) 8) 138)).alloc (O (Be (Df s.data.toList) 8) 138)=w':=by
 obtain⟨W6,hV2⟩:=Iq s.data.toList;generalize hV:Df s.data.toList=V at *;have HV:=Ab hV;clear hV;rw[cells8_8 V W6 hV2];go_enter func65,ntmps65;go_wp2
 go_loop [5,6,11] (λv _ i=>∃k:X,k≤s.size∧i=I k∧v=.int .u64 (Df (s.data.toList.take k))) (λ_ _ i=>s.size-(intOf i).toNat)
 case atStart=>exact⟨0,Nat.zero_le _,rfl,rfl⟩
 case round=>
  obtain⟨k,hk,rfl,rfl⟩:=hrel
  by_cases ai:k<s.size
  ·exact qat
  ·rw[show s.data.toList.take k=s.data.toList from List.take_of_length_le qj]
   rw[HV.o];go_wp2;refine wp_loop_rounds 9 ?_
   iterate 9 (rw[rounds_succ];go_wp2)
   exact bR (v:=G #[.int .u8 (V / 256 / 256 / 256 / 256 / 256 / 256 / 256),.int .u8 (V / 256 / 256 / 256 / 256 / 256 / 256 % 256),.int .u8 (V / 256 / 256 / 256 / 256 / 256 % 256),.int .u8 (V / 256 / 256 / 256 / 256 % 256),.int .u8 (V / 256 / 256 / 256 % 256),.int .u8 (V / 256 / 256 % 256),.int .u8 (V / 256 % 256),.int .u8 (V % 256)]) qbd rfl ⟨rfl,rfl⟩
theorem Zw(s:By)(n:X)(w:E)(hs:s.size≤1048576)(h1:1≤n)(h2:n≤8):Calls prog 65 #[S s,I n] w λe w'=>e=H (G (Be (Df s.data.toList) n))∧
 (w.alloc (O (Be (Df s.data.toList) n) 138)).alloc (O (Be (Df s.data.toList) n) 138)=w':=by
 rcases(show n=1∨n=2∨n=3∨n=4∨n=5∨n=6∨n=7∨n=8 from qg)with rfl|rfl|rfl|rfl|rfl|rfl|rfl|rfl
 ·exact sumBytes_1 s w hs
 ·exact sumBytes_2 s w hs
 ·exact sumBytes_3 s w hs
 ·exact sumBytes_4 s w hs
 ·exact sumBytes_5 s w hs
 ·exact sumBytes_6 s w hs
 ·exact sumBytes_7 s w hs
 ·exact sumBytes_8 s w hs
theorem slice8(n:X)(h2:n≤8)(a:Addr)(w:E):(Instr.sliceAt 138 (.pointer (M a)) N (M (I n)) N).run prog w=.ok (J (M a) n 8) w:=by
 have hl:prog.arrayLen 138=8:=qk;rw[run_sliceAt_array_h w 138 a qk .i64 n qg (by rw[hl];omega),hl];simp[go_sem]
theorem Zv(s:By)(n:X)(V:Int)(w:E)(HV:Hd (Df s.data.toList=V))(hs:s.size≤1048576)(h1:1≤n)(h2:n≤8):Calls prog 65 #[S s,I n] w λe w'=>e=H (G #[.int .u8 (Da V n 0),.int .u8 (Da V n 1),.int .u8 (Da V n 2),.int .u8 (Da V n 3),.int .u8 (Da V n 4),.int .u8 (Da V n 5),.int .u8 (Da V n 6),.int .u8 (Da V n 7)])∧
 (w.alloc (O #[.int .u8 (Da V n 0),.int .u8 (Da V n 1),.int .u8 (Da V n 2),.int .u8 (Da V n 3),.int .u8 (Da V n 4),.int .u8 (Da V n 5),.int .u8 (Da V n 6),.int .u8 (Da V n 7)] 138)).alloc (O #[.int .u8 (Da V n 0),.int .u8 (Da V n 1),.int .u8 (Da V n 2),.int .u8 (Da V n 3),.int .u8 (Da V n 4),.int .u8 (Da V n 5),.int .u8 (Da V n 6),.int .u8 (Da V n 7)] 138)=w':=by
 have h:=Zw s n w hs h1 h2;rw[HV.o]at h;exact h
theorem Hc(s:By)(n:X)(w:E)(hs:s.size≤1048576)(h1:1≤n)(h2:n≤8):Calls prog 36 #[S s,I n] w λe w'=>e=H (S ⟨(Ii (Df s.data.toList) n).toArray⟩)∧Bw w w':=by
 obtain⟨W6,hV2⟩:=Iq s.data.toList;generalize hV:Df s.data.toList=V at *;have HV:=Ab hV;clear hV
 have hcv:(convert 118 9 (J (p_ (w.heap.size+1+1)) n 8)).run prog (((w.alloc (O (Be V n) 138)).alloc (O (Be V n) 138)).alloc (O (Be V n) 138))=.ok (S ⟨(Ii V n).toArray⟩) (((w.alloc (O (Be V n) 138)).alloc (O (Be V n) 138)).alloc (O (Be V n) 138)):=by
  have:=run_convert_bytes_back (P:=prog) (((w.alloc (O (Be V n) 138)).alloc (O (Be V n) 138)).alloc (O (Be V n) 138)) 118 9 5 ⟨w.heap.size+1+1,0,N⟩ 8 (Ii V n) underlying118 underlying5 underlying9 (λt ht=>by
   rw[←cell8_digs V W6 n t ht];have hn:t<n:=by simpa [Fv] using ht
   rcases(show t=0∨t=1∨t=2∨t=3∨t=4∨t=5∨t=6∨t=7 from qg)with rfl|rfl|rfl|rfl|rfl|rfl|rfl|rfl<;>simp[Be,Addr.add,go_sem])
  rwa [Fv]at this
 simp only[Be]at hcv;have hsl:=slice8 n h2;go_enter func36,ntmps36
 go_wp2_with (first|(go_at_call 64;refine(Jy _ _ qg qg).mono ?_;rintro e w' ⟨rfl,rfl⟩)|(go_at_call 65;refine(Zv s n V _ HV hs h1 h2).mono ?_;rintro e w' ⟨rfl,rfl⟩))
 go_ret;exact⟨rfl,((aN _ _).alloc qi _).alloc qj _⟩



def Ap(n:X)(s:By):By:=⟨(Ii (Df s.data.toList) n).toArray⟩
def Nw(n:X)(g:G3):Prop:=Ao g.name∧g.sum.size=n
def Js(n:X)(r:T3):Prop:=Av r.code=true∧r.out.size=n∧r.looks.length≤200∧∀i,i<r.looks.length→Nw n (gx r.looks i)
def Wf(n:X)(ts:L By):Prop:=ts.length≤5000∧(∀i,i<ts.length→(nx ts i).size≤2002)∧Hf (ts.map (Ap n))
def Jd(n:X)(ts:L By)(rs:L T3):Prop:=Wf n ts∧rs.length≤2000∧∀i,i<rs.length→Js n (qx rs i)
theorem Hj(n:X)(ts:L By)(i:X)(h:i<ts.length):nx (ts.map (Ap n)) i=Ap n (nx ts i):=by
 unfold nx;exact qmb
theorem We{b:Bool}{P:Prop}(h:b=true↔P):(P∧b=true)∨(¬ P∧b=false):=by
 cases b
 ·exact Or.inr ⟨λp=>absurd (h.2 p) qi,rfl⟩
 ·exact Or.inl ⟨h.1 rfl,rfl⟩
structure RcIn (w:E) (a:Option Addr) (is:L I3) (la:Option Addr) (gs:L G3):Prop where
 rc:Cn w a is
 rg:Gf w la gs
 lc:is.length≤1048576
 lg:gs.length≤1048576
 xc:∀i,(ix is i).text.size≤maxLen
 ng:∀i,(gx gs i).name.size≤maxLen
 sg:∀i,(gx gs i).sum.size≤maxLen
theorem Sz(a la:Option Addr)(cap lc:X)(is:L I3)(gs:L G3)(out:By)(n:X)(w:E)(hT:Mv w)(h8:n≤8)(h:RcIn w a is la gs)(ho:out.size≤maxLen):Calls prog 139 #[G #[J a is.length cap,J la gs.length lc,S out],I n] w λe w'=>Bw w w'∧∃b,e=H (F b)∧(b=true↔Js n ⟨is,gs,out⟩):=by
 have ak:Bw w (w.alloc (O #[J a is.length cap,J la gs.length lc,S out] 73)):=aN _ _;have k1:(w.alloc (O #[J a is.length cap,J la gs.length lc,S out] 73)).cell? ⟨w.heap.size,1,N⟩=M (J la gs.length lc):=qo;have k2:(w.alloc (O #[J a is.length cap,J la gs.length lc,S out] 73)).cell? ⟨w.heap.size,2,N⟩=M (S out):=qo;unfold maxLen at ho;have hlg:=h.lg;have HRG:=Ab h.rg;have HNG:=Ab h.ng;have xq:=Ab h.sg;obtain⟨v,ev⟩:=Aj (Av is);have EV:=Ab ev;go_enter func139,ntmps139;go_wp2_with fail;refine(Ld a cap is _ (hT.bl ak) (h.rc.bl ak) h.lc h.xc).mono ?_;rintro e w1 ⟨ag,rfl⟩;rw[ev];have bm:=bt ak ag;have T6:=Aa ag k1;have T5:=Aa ag k2;clear ak ag k1 k2 h ev;cases v
 ·exact qmg
 ·by_cases h2:out.size=n
  ·have d2:((out.size:Int) != (n:Int))=false:=qj
   have H2:=Ab h2;clear h2
   by_cases h3:200<gs.length
   ·exact qki
   ·have d3:decide ((200:Int)<(gs.length:Int))=false:=qj
    go_wp2
    go_loopw [27] (λi wr=>∃k:X,k≤gs.length∧i=I k∧Hd (∀i,i<k→Nw n (gx gs i))∧Bw w wr) (λi _=>gs.length-(intOf i).toNat)
    case atStart=>exact⟨0,Nat.zero_le _,rfl,(λi hi=>by omega:∀i,i<0→Nw n (gx gs i)),bm⟩
    case round=>
     obtain⟨k,hk,rfl,HK,bc⟩:=hrel
     by_cases ai:k<gs.length
     ·obtain⟨b,off,rfl,c1,c2,c3⟩:=(HRG.o.bl bc) k ai
      have U4:=HNG.o k;have ge:=xq.o k;have HG1:Hd (Nw n (gx gs k)→∀i,i<k+1→Nw n (gx gs i)):=λhg=>Cw HK.o hg;have Y6:Hd (¬ Nw n (gx gs k)→¬ Js n ⟨is,gs,out⟩):=λhg h=>hg (h.2.2.2 k ai);generalize gx gs k=g at *;unfold maxLen at U4 ge;clear T6 T5
      by_cases g1:Ao g.name
      ·have e1:=Dc g1
       by_cases g2:g.sum.size=n
       ·have d4:((g.sum.size:Int) != (n:Int))=false:=qj
        have HO:Hd (∀i,i<k+1→Nw n (gx gs i)):=HG1.o ⟨g1,g2⟩;clear g2
        go_wp2_with (first|(go_at_call 96;refine(Dq g.name _ U4).mono ?_;rintro e w9 ⟨rfl,rfl⟩;rw[e1]))
        go_roundw
        case rel=>exact⟨k+1,qg,qm,HO.o,bc.alloc bc.size _⟩
        case measure=>simp[intOf];omega
       ·have d4:((g.sum.size:Int) != (n:Int))=true:=qj
        have HO:Hd (¬ Js n ⟨is,gs,out⟩):=Y6.o (λh=>g2 h.2);clear g2;exact qkf
      ·have e1:=Ct g1
       have HO:Hd (¬ Js n ⟨is,gs,out⟩):=Y6.o (λh=>g1 h.1);exact qkf
     ·have HO:Hd (Js n ⟨is,gs,out⟩):=⟨EV.o,H2.o,by show gs.length≤200;omega,λi hi=>HK.o i (by simp only at hi;omega)⟩
      go_wp2;exact qgk
  ·exact qlg
structure QsIn (w:E) (a:Option Addr) (rs:L T3):Prop where
 rq:Mk w a rs
 ok:QsOk rs
 sm:Ec rs
theorem QsIn.bl{a:Option Addr}{rs:L T3}(h:QsIn w a rs)(hb:Bw w w'):QsIn w' a rs:=⟨h.rq.bl hb,h.ok,h.sm⟩
theorem Rd(a:Option Addr)(cap:X)(rs:L T3)(n:X)(w:E)(hT:Mv w)(h8:n≤8)(h:QsIn w a rs):Calls prog 118 #[J a rs.length cap,I n] w λe w'=>Bw w w'∧∃b,e=H (F b)∧(b=true↔rs.length≤2000∧∀i,i<rs.length→Js n (qx rs i)):=by
 have hl:=h.sm.1;have HQ:=Ab h;have HT:=Ab hT;clear h hT
 by_cases h1:2000<rs.length
 ·have d1:decide ((2000:Int)<(rs.length:Int))=true:=qj
  go_enter func118,ntmps118;go_wp2;go_ret;exact⟨Below.refl _ _,false,rfl,Eh (λh=>qg)⟩
 ·have d1:decide ((2000:Int)<(rs.length:Int))=false:=qj
  go_enter func118,ntmps118;go_wp2
  go_loopw [12] (λi wr=>∃k:X,k≤rs.length∧i=I k∧Hd (∀i,i<k→Js n (qx rs i))∧Bw w wr) (λi _=>rs.length-(intOf i).toNat)
  case atStart=>exact⟨0,Nat.zero_le _,rfl,(λi hi=>by omega:∀i,i<0→Js n (qx rs i)),Below.refl _ _⟩
  case round=>
   obtain⟨k,hk,rfl,HK,bc⟩:=hrel
   by_cases ai:k<rs.length
   ·have hq:=HQ.o.bl bc
    obtain⟨b,off,rfl,ca,cc,la,lc,c1,c2,c3,c4,c5⟩:=hq.rq k ai;have og:RcIn wr ca (qx rs k).code la (qx rs k).looks:=⟨c4,c5,(hq.sm.2 k ai).1,(hq.sm.2 k ai).2,hq.ok.xc k,hq.ok.ng k,hq.ok.sg k⟩;have hou:=hq.ok.so k;have HG1:Hd (Js n (qx rs k)→∀i,i<k+1→Js n (qx rs i)):=λhg=>Cw HK.o hg;have Y6:Hd (¬ Js n (qx rs k)→¬ (rs.length≤2000∧∀i,i<rs.length→Js n (qx rs i))):=λhg h=>hg (h.2 k ai);clear hq c4 c5;generalize qx rs k=x at *;obtain⟨xc,xl,xo⟩:=x;simp only at *;have t6:=Ab og;clear og;have ak:Bw wr (wr.alloc (O #[J ca xc.length cc,J la xl.length lc,S xo] 73)):=aN _ _;have hin2:RcIn (wr.alloc (O #[J ca xc.length cc,J la xl.length lc,S xo] 73)) ca xc la xl:=⟨t6.o.rc.bl ak,t6.o.rg.bl ak,t6.o.lc,t6.o.lg,t6.o.xc,t6.o.ng,t6.o.sg⟩;have J0:=Ab hin2;clear hin2;go_wp2_with fail;refine(Sz ca la cc lc xc xl xo n _ ((HT.o.bl bc).bl ak) h8 J0.o hou).mono ?_;rintro e w2 ⟨af,b,rfl,hb⟩;have bg:=bt bc (bt ak af)
    rcases We hb with⟨hg,rfl⟩|⟨hg,rfl⟩
    ·have HO:=Ab (HG1.o hg)
     clear hb hg ak af;go_wp2;go_roundw
     case rel=>exact⟨k+1,qg,qm,HO.o,bg⟩
     case measure=>simp[intOf];omega
    ·have HO:=Ab (Y6.o hg)
     clear hb hg ak af;go_wp2;go_ret;exact⟨bg,false,rfl,Eh HO.o⟩
   ·go_wp2
    go_ret;exact⟨bc,true,rfl,Gv ⟨qg,λi hi=>HK.o i qg⟩⟩
theorem Nc{a:Option Addr}{ss:L By}(hn:n=ss.length)(h:w.ownsRow B 9 1 (J a n cap) n (ss.map .string)):Cu w a ss:=by
 subst hn;intro i hi
 rcases h.2 with⟨hv,h0⟩|⟨g,aj,cur,hv,_⟩
 ·omega
 ·simp only[Value.slice.injEq]at hv
  obtain⟨rfl,_,_⟩:=hv;refine⟨g,0,rfl,?_⟩;rw[Nat.zero_add,h.cellAt i qg,List.getElem?_map,Hq hi,gG,Hq hi];rfl
theorem sumsOf_any(a:Option Addr)(cap:X)(ts:L By)(n:X)(w:E)(h1:1≤n)(h8:n≤8)(hc:Cu w a ts)(hl:ts.length≤1048576)(hs:∀i,i<ts.length→(nx ts i).size≤2002):Calls prog 119 #[J a ts.length cap,I n] w λe w'=>Bw w w'∧∃g:X,e=H (J (p_ g) ts.length ts.length)∧w.heap.size≤g∧w'.ownsRow w.heap.size 9 1 (J (p_ g) ts.length ts.length) ts.length ((ts.map (Ap n)).map .string):=by
 have HC:Hd (Cu w a ts):=hc;have HS:Hd (∀i,i<ts.length→(nx ts i).size≤2002):=hs;clear hc hs;obtain⟨i0,hi,bq,bi,ci⟩:=info_parts Tryz.info9;obtain⟨ss,ess⟩:=Aj (ts.map (Ap n));have sr:Hd (ss.length=ts.length):=by show ss.length=ts.length;rw[←ess,List.length_map]
 have re:Hd (∀i,i<ts.length→nx ss i=Ap n (nx ts i)):=λi h=>by rw[←ess];exact Hj n ts i h
 rw[ess];clear ess;go_enter func119,ntmps119
 go_wp2_with (first|(at_make;refine wpList_make_full _ rfl (.tmp 9) (.tmp 9) 22 rfl w.heap.size 9 i0 (S ByteArray.empty) 1 underlying22 hi bq bi .i64 .i64 _ _ ts.length rfl rfl rfl rfl qaq qq (Nat.le_refl _) ?_;intro w1 ah ae))
 rw[Qo]at ah;have fy:Bw w w1:=(Below.refl _ _).grown ae (Nat.le_refl _) qi;clear ae
 go_loopw [13] (λi wr=>∃k:X,k≤ts.length∧i=I k∧Hd (wr.ownsRow w.heap.size 9 1 (J (p_ w.heap.size) ts.length ts.length) ts.length (Es ss k ss.length))∧Bw w wr) (λi _=>ts.length-(intOf i).toNat)
 case atStart=>exact⟨0,Nat.zero_le _,rfl,by show World.ownsRow _ _ _ _ _ _ _;rw[sr.o];simpa [Es] using ah,fy⟩
 case round=>
  obtain⟨k,hk,rfl,HO,bc⟩:=hrel
  by_cases ai:k<ts.length
  ·obtain⟨b,off,rfl,c1⟩:=(HC.o.bl bc) k ai
   replace c1:wr.cell? ⟨b,off+k,N⟩=M (S (nx ts k)):=c1;have ge:=HS.o k ai;have HX:Hd (nx ss k=Ap n (nx ts k)):=re.o k ai;generalize nx ts k=x at *;have hx0:x.size≤1048576:=qg;go_wp2_with fail;refine(Hc x n _ hx0 h1 h8).mono ?_;rintro e w2 ⟨rfl,af⟩;obtain⟨q,eq⟩:=Aj ((⟨(Ii (Df x.data.toList) n).toArray⟩:By));rw[eq];(have HQ:Hd (ss.getD k ByteArray.empty=q):=by show ss.getD k ByteArray.empty=q;have:=HX.o;unfold nx at this;rw[this,←eq];rfl);have ah:=Ad HO.o af;have bg:=bt bc af;have hks:k<ss.length:=zo sr.o;have cr:=ah.stored k (S (ss.getD k ByteArray.empty));rw[Vx ss k hks,HQ.o]at cr;have cm:=ah.frozenAt k
   have hce:w2.cell? ⟨w.heap.size,k,N⟩=M ((Es ss k ss.length)[k]'(by rw[It ss k qg];exact hks)):=by
    rw[ah.cellAt k qg];exact Hq _
   generalize (Es ss k ss.length)[k]'(by rw[It ss k qg];exact hks)=old at hce;have hbel2:Bw w (w2.setCell ⟨w.heap.size,k,N⟩ (S q)):=bg.setCell (Nat.le_refl _) _;have di:Hd ((w2.setCell ⟨w.heap.size,k,N⟩ (S q)).ownsRow w.heap.size 9 1 (J (p_ w.heap.size) ts.length ts.length) ts.length (Es ss (k+1) ss.length)):=cr.1;clear ah bc af cr c1 eq;go_wp2;go_roundw
   case rel=>exact⟨k+1,qg,qm,di.o,hbel2⟩
   case measure=>simp[intOf];omega
  ·obtain rfl:k=ts.length:=qg
   have Of:Hd (wr.ownsRow w.heap.size 9 1 (J (p_ w.heap.size) ts.length ts.length) ts.length (ss.map .string)):=by
    have:=HO.o;(have e:Es ss ts.length ss.length=ss.map .string:=by rw[←sr.o];simp[Es]);rw[e]at this;exact this
   go_wp2_with fail;go_ret;exact⟨bc,_,rfl,Nat.le_refl _,Of.o⟩
theorem Up(a:Option Addr)(cap:X)(ts:L By)(w:E)(hc:Cu w a ts)(hl:ts.length≤1048576)(hs:∀i,(nx ts i).size≤maxLen):Calls prog 117 #[J a ts.length cap] w λe w'=>Bw w w'∧∃b,e=H (F b)∧(b=true↔ts.length≤5000∧∀i,i<ts.length→(nx ts i).size≤2002):=by
 have HC:=Ab hc;have HS:=Ab hs;clear hc hs
 by_cases h2:5000<ts.length
 ·have d1:decide ((5000:Int)<(ts.length:Int))=true:=qj
  go_enter func117,ntmps117;go_wp2;go_ret;exact⟨Below.refl _ _,false,rfl,Eh (λh=>by have:=h.1;omega)⟩
 ·have d1:decide ((5000:Int)<(ts.length:Int))=false:=qj
  go_enter func117,ntmps117;go_wp2
  go_loopw [10] (λi wr=>∃(k:X),k≤ts.length∧i=I k∧Hd (∀i,i<k→(nx ts i).size≤2002)∧Bw w wr) (λi _=>ts.length-(intOf i).toNat)
  case atStart=>exact⟨0,Nat.zero_le _,rfl,(λi hi=>by omega:∀i,i<0→(nx ts i).size≤2002),Below.refl _ _⟩
  case round=>
   obtain⟨k,hk,rfl,HK,bc⟩:=hrel
   by_cases ai:k<ts.length
   ·obtain⟨b,off,rfl,c1⟩:=(HC.o.bl bc) k ai
    replace c1:wr.cell? ⟨b,off+k,N⟩=M (S (nx ts k)):=c1;have ge:=HS.o k
    by_cases h3:2002<(nx ts k).size
    ·have HN:Hd (¬ (ts.length≤5000∧∀i,i<ts.length→(nx ts i).size≤2002)):=λh=>by have:=h.2 k ai;omega
     exact qkd
    ·have fb:Hd (∀i,i<k+1→(nx ts i).size≤2002):=Cw HK.o qg
     generalize nx ts k=x at *;have d3:decide ((2002:Int)<(x.size:Int))=false:=qj;unfold maxLen at ge;go_wp2_with fail;go_roundw
     case rel=>exact⟨k+1,qg,qm,fb.o,bc⟩
     case measure=>simp[intOf];omega
   ·have Y2:Hd (ts.length≤5000∧∀i,i<ts.length→(nx ts i).size≤2002):=⟨qg,λi hi=>HK.o i qg⟩
    go_wp2_with fail;go_ret;exact⟨bc,true,rfl,Gv Y2.o⟩
structure Nv (w:E) (ta:Option Addr) (ts:L By) (ra:Option Addr) (rs:L T3):Prop where
 st:Cu w ta ts
 lt:ts.length≤1048576
 xt:∀i,(nx ts i).size≤maxLen
 qs:QsIn w ra rs
theorem Nv.bl{ta ra:Option Addr}{ts:L By}{rs:L T3}(h:Nv w ta ts ra rs)(hb:Bw w w'):Nv w' ta ts ra rs:=⟨h.st.bl hb,h.lt,h.xt,h.qs.bl hb⟩
def Jc(n:Int)(ts:L By)(rs:L T3):Prop:=1≤n∧n≤8∧Jd n.toNat ts rs
theorem own_low{base base' size:X}(h:w.ownsRow base e size v n xs)(hb:base'≤base):w.ownsRow base' e size v n xs:=by
 refine⟨h.1,?_⟩
 rcases h.2 with h2|⟨g,cap,cur,hv,hg,r⟩
 ·exact Or.inl h2
 ·exact Or.inr ⟨g,cap,cur,hv,Nat.le_trans hb hg,r⟩
theorem heap_at_new(w:E)(o:Obj):(w.alloc o).heap[w.heap.size]?=M o:=qew
theorem alB(w:E)(o:Obj):Bw w (w.alloc o):=aN _ _
def Jr(w:E)(g:X)(n:Int)(ta ra:Option Addr)(tl tc rl rc:X)(sv:Z):Prop:=w.heap[g]?=M (O #[I n,J ta tl tc,J ra rl rc,sv] 136 (0,0))
theorem Xd(n:Int)(ta ra:Option Addr)(tc rc:X)(ts:L By)(rs:L T3)(w:E)(hT:Mv w)(h:Nv w ta ts ra rs):Calls prog 86 #[G #[I n,J ta ts.length tc,J ra rs.length rc]] w λe w'=>Bw w w'∧((¬ Jc n ts rs∧∃v,e=H (.tuple #[v,F false]))∨(Jc n ts rs∧∃g sg,e=H (.tuple #[.pointer (p_ g),F true])∧Jr w' g n ta ra ts.length tc rs.length rc (J (p_ sg) ts.length ts.length)∧Cu w' (p_ sg) (ts.map (Ap n.toNat))∧w.heap.size≤g∧w'.ownsRow w.heap.size 9 1 (J (p_ sg) ts.length ts.length) ts.length ((ts.map (Ap n.toNat)).map .string))):=by
 have ak:Bw w (w.alloc (O #[I n,J ta ts.length tc,J ra rs.length rc] 35)):=aN _ _;have k0:(w.alloc (O #[I n,J ta ts.length tc,J ra rs.length rc] 35)).cell? ⟨w.heap.size,0,N⟩=M (I n):=qo;have k1:(w.alloc (O #[I n,J ta ts.length tc,J ra rs.length rc] 35)).cell? ⟨w.heap.size,1,N⟩=M (J ta ts.length tc):=qo;have k2:(w.alloc (O #[I n,J ta ts.length tc,J ra rs.length rc] 35)).cell? ⟨w.heap.size,2,N⟩=M (J ra rs.length rc):=qo;have HI:=Ab h;have HT:=Ab hT;clear h hT
 by_cases hn:1≤n∧n≤8
 ·obtain⟨m,rfl⟩:=Int.eq_ofNat_of_zero_le (show 0≤n from qg)
  have h1:1≤m:=qg;have h8:m≤8:=qg;have HN:=Ab hn;clear hn;go_enter func86,ntmps86
  go_wp2_with (first|(go_at_call 64;refine(Jy _ _ qg qg).mono ?_;rintro e w9 ⟨rfl,rfl⟩))
  refine(Up ta tc ts _ (HI.o.st.bl ak) HI.o.lt HI.o.xt).mono ?_;rintro e w1 ⟨ag,b,rfl,hb⟩;have bm:=bt ak ag;have k10:=Aa ag k0;have T6:=Aa ag k1;have T5:=Aa ag k2
  rcases We hb with⟨hg,rfl⟩|⟨hg,rfl⟩
  ·have HG:=Ab hg
   clear hb hg ak ag k0 k1 k2;go_wp2_with fail;refine(Rd ra rc rs m _ (HT.o.bl bm) h8 (HI.o.qs.bl bm)).mono ?_;rintro e w2 ⟨af,b,rfl,hb⟩;have bg:=bt bm af;have k20:=Aa af k10;have k21:=Aa af T6;have k22:=Aa af T5
   rcases We hb with⟨hg,rfl⟩|⟨hg,rfl⟩
   ·have HR:=Ab hg
    have br:Hd (∀W:E,Bw w W→Calls prog 119 #[J ta ts.length tc,I m] W λe w'=>Bw W w'∧∃g:X,e=H (J (p_ g) ts.length ts.length)∧W.heap.size≤g∧w'.ownsRow W.heap.size 9 1 (J (p_ g) ts.length ts.length) ts.length ((ts.map (Ap m)).map .string)):=λW hW=>sumsOf_any ta tc ts m W h1 h8 (HI.o.st.bl hW) HI.o.lt HG.o.2;clear hb hg af bm k10 T6 T5;go_wp2_with fail;have M9:Bw w2 w2.drew:=(Below.refl _ _).drew
    go_region_held3 (λw'=>w'.cell? ⟨w.heap.size,0,N⟩=M (I m)∧w'.cell? ⟨w.heap.size,1,N⟩=M (J ta ts.length tc)∧w'.cell? ⟨w.heap.size,2,N⟩=M (J ra rs.length rc))
     (first|exact⟨k20,k21,k22⟩|(with_reducible exact⟨s0,s1,s2⟩)|exact⟨Aa (alB _ _) s0,Aa (alB _ _) s1,Aa (alB _ _) s2⟩)
     (first|(go_at_call 119;refine(br.o _ bg.drew).mono ?_;rintro e w3 ⟨au,sg,rfl,hsg,how⟩;have s0:=Aa (bt M9 au) k20;have s1:=Aa (bt M9 au) k21;have s2:=Aa (bt M9 au) k22))
    go_wp2_with fail;obtain⟨w4,e4⟩:=Aj (w3.alloc (O #[I m,J ta ts.length tc,J ra rs.length rc,J (p_ sg) ts.length ts.length] 136));(have bp:Bw w3 w4:=by rw[←e4];exact alB _ _);(have N5:Hd (Jr w4 w3.heap.size m ta ra ts.length tc rs.length rc (J (p_ sg) ts.length ts.length)):=by show Jr _ _ _ _ _ _ _ _ _ _;rw[←e4];unfold Jr;exact heap_at_new _ _);have di:Hd (Cu w4 (p_ sg) (ts.map (Ap m))):=(Nc (by rw[List.length_map]) how).bl bp;have jj:=bt (bt (bt bg M9) au) bp
    have jt:Hd (∀W:E,Cu W (p_ sg) (ts.map (Ap m))→Calls prog 90 #[J (p_ sg) ts.length ts.length] W λe w'=>Bw W w'∧∃b,e=H (F b)∧(b=true↔Hf (ts.map (Ap m)))):=λW hW=>by
     have:=Pe (p_ sg) ts.length (ts.map (Ap m)) W hW (by rw[List.length_map];exact HI.o.lt);rw[List.length_map]at this;exact this
    have HOW4:=Ab (Ad (own_low how (bt bg M9).size) bp);have HG3:=Ab ((bt (bt bg M9) au).size);rw[e4];clear e4 bp how au M9 hsg;refine(jt.o _ di.o).mono ?_;rintro e w5 ⟨co,b,rfl,hb⟩;have C7:=bt jj co
    have HSH5:Hd (Jr w5 w3.heap.size m ta ra ts.length tc rs.length rc (J (p_ sg) ts.length ts.length)):=by
     have h4:=N5.o;unfold Jr at h4;show _=_;rw[co.block _ (by rcases Nat.lt_or_ge w3.heap.size w4.heap.size with h'|h';(focus exact h');rw[Array.getElem?_eq_none h']at h4;cases h4)];exact h4
    rcases We hb with⟨hg,rfl⟩|⟨hg,rfl⟩
    ·have HW:Hd (Jc m ts rs):=⟨HN.o.1,HN.o.2,⟨HG.o.1,HG.o.2,hg⟩,HR.o⟩
     clear hb hg;go_wp2_with fail;exact bR (results_tmp2 rfl _ _ _) rfl ⟨C7,Or.inr ⟨HW.o,_,sg,rfl,HSH5.o,di.o.bl co,HG3.o,Ad HOW4.o co⟩⟩
    ·have S4:Hd (¬ Jc m ts rs):=λh=>hg h.2.2.1.2.2
     clear hb hg;go_wp2_with fail;exact bR (results_tmp2 rfl _ _ _) rfl ⟨C7,Or.inl ⟨S4.o,_,rfl⟩⟩
   ·have S4:Hd (¬ Jc m ts rs):=λh=>hg h.2.2.2
    clear hb hg;go_wp2_with fail;exact bR (results_tmp2 rfl _ _ _) rfl ⟨bg,Or.inl ⟨S4.o,_,rfl⟩⟩
  ·have S4:Hd (¬ Jc m ts rs):=λh=>hg ⟨h.2.2.1.1,h.2.2.1.2.1⟩
   clear hb hg;go_wp2_with fail;exact bR (results_tmp2 rfl _ _ _) rfl ⟨bm,Or.inl ⟨S4.o,_,rfl⟩⟩
 ·have hn':n<1∨8<n:=qg
  have HN:Hd (¬ Jc n ts rs):=λh=>hn ⟨h.1,h.2.1⟩;clear hn;go_enter func86,ntmps86
  go_wp2_with (first|(go_at_call 64;refine(Ws _ _ hn').mono ?_;rintro e w9 ⟨rfl,rfl⟩))
  exact bR (results_tmp2 rfl _ _ _) rfl ⟨ak,Or.inl ⟨HN.o,_,rfl⟩⟩
theorem Kr{s x:Operand}{W:E}{ops:Array Oper}{o:Oper}{K:Act->E->Prop}{Q:Exit->Act->E->Prop}{AF:Prop}(uj:o.guard=N)(ho:o.op=.call { callee:=.builtin .append,args:=#[s,x],argTypes:=#[22,22] })(B:X)(v:Z)(nn:X)(ys:L Z)(hs:a.eval s=v)(ah:W.ownsRow B 9 1 v nn ys)(Bz:X)(xa:Option Addr)(xc:X)(zs:L By)(hx:a.eval x=J xa zs.length xc)(hz:W.ownsRow Bz 9 1 (J xa zs.length xc) zs.length (Ar zs))(hB:B≤W.heap.size)(hn:nn+zs.length≤1000000)(h:∀v' w',w'.ownsRow B 9 1 v' (nn+zs.length) (ys++Ar zs)→W.grownBy w' v.ownBlock→(v'.ownBlock=v.ownBlock∨v'.ownBlock=M W.heap.size)→K (a.put o.dst v') w'):if Region.wanted o (yielded ops a.tmps)=true then Oper.wp prog o a W K Q else AF:=by
 have hw:Region.wanted o (yielded ops a.tmps)=true:=qbm;rw[if_pos hw];obtain⟨i0,hi,bq,bi,ci⟩:=info_parts Tryz.info9b
 rcases hz.2 with⟨hv,hl⟩|⟨g,cap,cur,hv,_⟩
 ·injection hv with e1 e2 e3
  have e0:=List.eq_nil_of_length_eq_zero e2;subst e1 e3 e0;have kw:=run_append_owned_none (P:=prog) (w:=W) B 22 o.type 9 i0 1 underlying22 hi v nn ys ah;have h2:=h v W (by simpa [Ar] using ah) ⟨rfl,rfl,rfl,Nat.le_refl _,λ_ _ _=>rfl⟩ (Or.inl rfl);unfold Oper.wp;simp only[List.length_nil]at hx;simp[execOp,ho,resolve,invoke,builtin,hs,hx,kw,Result.andThen];exact h2
 ·injection hv with e1 e2 e3
  subst e1 e3;have hc:=hz.cells (g:=g) rfl;obtain⟨v',w',hr,h2,h3,h4,h5⟩:=run_append_own_at (P:=prog) W B 22 o.type 9 i0 ze 1 16 underlying22 hi bq bi ci rfl qh v nn ys ah ⟨g,0,N⟩ zs.length xc (Ar zs) qal hc (by intro u hu;obtain⟨z,_,rfl⟩:=List.mem_map.mp hu;rfl) qq qg hB;unfold Oper.wp execOp;simp only[ho,resolve,invoke,builtin,Sem.run_bind,Sem.run_pure,Result.andThen_ok,List.map_toArray,List.map_cons,List.map_nil,hs,hx,hr];exact h v' w' h2 h3 h5
end Go.Proofs.YtnflkpmmfpfhlaaGreatDoor
