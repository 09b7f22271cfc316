import Derived.Test.YtoakjccojifagaaGreatDoorTClB
namespace Go.Proofs.YtoakjccojifagaaGreatDoor
open _root_.Go.Proofs.Tryz Go.RowKit Go.Deep
open Value renaming slice->J,string->S
open Option renaming some->M,none->N
open Go renaming Value->Z,World->E
open _root_ renaming List->L,Nat->X
set_option linter.unusedVariables false
set_option maxHeartbeats 8000000
set_option maxRecDepth 100000
set_option linter.unusedSimpArgs false
variable {w w':E} {B B' e sz n lo hi g lo' hi' b j k T i cap:X} {v:Z} {xs ys:L Z} {ss:L S2} {ts is:L T2} {cv:X->Z} {a:Act} {l:Array Bool} {oi:Oper} {ob:Option X}
theorem Ju(h:w.ownsRow B e sz v n xs)(hB:B'<=B):w.ownsRow B' e sz v n xs:=by
 exact qkn
theorem Gs(h:w.ownsRow B e sz v n xs):(v=nS/\n=0)\/∃g cap,v=J (p_ g) n cap:=by
 rcases h.2 with h|⟨g,cap,cur,hv,hg,r⟩
 ·exact Or.inl h
 ·exact Or.inr ⟨g,cap,hv⟩
def Dk(lo hi:X)(w w':E):Prop:=∀b,b<w.heap.size->(b<lo\/hi<=b)->w'.heap[b]?=w.heap[b]?
theorem Dk.set(h1:lo<=g)(h2:g<hi)(j:X)(v:Z):Dk lo hi w (w.setCell ⟨g,j,N⟩ v):=λb hb hr=>Dj w ⟨g,j,N⟩ v b (by show b≠g;omega)
structure Bh (w:E) (lo hi e sz:X) (v:Z) (n:X) (xs:L Z):Prop where
 own:w.ownsRow lo e sz v n xs
 top:∀b,v.ownBlock=M b->b<hi
theorem Qx(h:w.ownsRow B e sz v n xs)(hk:∀b,v.ownBlock=M b->w'.heap[b]?=w.heap[b]?):w'.ownsRow B e sz v n xs:=by
 refine⟨h.1,?_⟩
 rcases h.2 with h2|⟨g,cap,cur,hv,hg,hh,r⟩
 ·exact Or.inl h2
 ·refine Or.inr ⟨g,cap,cur,hv,hg,?_,r⟩;subst hv;rw[hk g rfl];exact hh
theorem Bh.same(h:Bh w lo hi e sz v n xs)(hk:∀b,v.ownBlock=M b->w'.heap[b]?=w.heap[b]?):Bh w' lo hi e sz v n xs:=⟨Qx h.own hk,h.top⟩
theorem Bh.keep(h:Bh w lo hi e sz v n xs)(hk:Dk lo' hi' w w')(hd:hi<=lo'\/hi'<=lo):Bh w' lo hi e sz v n xs:=h.same λb e=>hk b (h.own.lt b e).2 (by have h1:=(h.own.lt b e).1;have h2:=h.top b e;omega)
theorem Bh.wide(h:Bh w lo hi e sz v n xs)(h1:lo'<=lo)(h2:hi<=hi'):Bh w lo' hi' e sz v n xs:=⟨Ju h.own h1,λb e=>by have:=h.top b e;omega⟩
theorem Ra{e' sz' n':X}{v':Z}{xs':L Z}(h:w.ownsRow B e sz v n xs)(h':w.ownsRow B' e' sz' v' n' xs')(hne:e≠e'):∀b,v.ownBlock=M b->v'.ownBlock≠M b:=by
 intro b hb eb
 rcases h.2 with⟨rfl,_⟩|⟨g,cap,cur,rfl,hg,hh,_⟩
 ·simp[Value.ownBlock]at hb
 ·rcases h'.2 with⟨rfl,_⟩|⟨g',ai,cur',rfl,hg',hh',_⟩
  ·simp[Value.ownBlock]at eb
  ·simp only[Value.ownBlock,Option.some.injEq]at hb eb;subst hb;rw[eb]at hh';rw[hh]at hh';simp at hh';exact hne hh'.2
def Hc(w:E)(lo hi:X)(v:Z)(ss:L S2):Prop:=∃xs,Bh w lo hi 97 2 v ss.length xs/\Oc ss ss.length xs
theorem Hc.keep(h:Hc w lo hi v ss)(hk:Dk lo' hi' w w')(hd:hi<=lo'\/hi'<=lo):Hc w' lo hi v ss:=by
 obtain⟨xs,h1,h2⟩:=h;exact⟨xs,h1.keep hk hd,h2⟩
theorem Hc.wide(h:Hc w lo hi v ss)(h1:lo'<=lo)(h2:hi<=hi'):Hc w lo' hi' v ss:=by
 obtain⟨xs,k1,k2⟩:=h;exact⟨xs,k1.wide h1 h2,k2⟩
theorem Hc.sl(h:Hc w lo hi v ss):∃a cap,v=J a ss.length cap/\Hr w a ss:=by
 obtain⟨xs,h1,h2⟩:=h
 rcases Gs h1.own with⟨rfl,h0⟩|⟨g,cap,rfl⟩
 ·exact qbn
 ·exact⟨_,cap,rfl,rowS_own rfl h1.own h2⟩
structure Mj (w:E) (lo hi:X) (v:Z) (ts:L T2) (xs:L Z) (cv:X->Z):Prop where
 row:Bh w lo hi 99 2 v ts.length xs
 fil:∀i,i<ts.length->xs[i*2]?=M (S (tx ts i).name)/\xs[i*2+1]?=M (cv i)
 code:∀i,i<ts.length->∃ys,Bh w lo hi 139 3 (cv i) (tx ts i).code.length ys/\Ct (tx ts i).code (tx ts i).code.length ys
 apart:∀i j,i<j->j<ts.length->∀b,(cv i).ownBlock=M b->(cv j).ownBlock≠M b
def Gw(w:E)(lo hi:X)(v:Z)(ts:L T2):Prop:=∃xs cv,Mj w lo hi v ts xs cv
theorem Mj.keep(h:Mj w lo hi v ts xs cv)(hk:Dk lo' hi' w w')(hd:hi<=lo'\/hi'<=lo):Mj w' lo hi v ts xs cv:=
 ⟨h.row.keep hk hd,h.fil,λi hi=>by obtain⟨ys,h1,h2⟩:=h.code i hi;exact⟨ys,h1.keep hk hd,h2⟩,h.apart⟩
theorem Mj.wide(h:Mj w lo hi v ts xs cv)(h1:lo'<=lo)(h2:hi<=hi'):Mj w lo' hi' v ts xs cv:=
 ⟨h.row.wide h1 h2,h.fil,λi hi=>by obtain⟨ys,k1,k2⟩:=h.code i hi;exact⟨ys,k1.wide h1 h2,k2⟩,h.apart⟩
theorem Gw.keep(h:Gw w lo hi v ts)(hk:Dk lo' hi' w w')(hd:hi<=lo'\/hi'<=lo):Gw w' lo hi v ts:=by
 obtain⟨xs,cv,h⟩:=h;exact⟨xs,cv,h.keep hk hd⟩
theorem Gw.wide(h:Gw w lo hi v ts)(h1:lo'<=lo)(h2:hi<=hi'):Gw w lo' hi' v ts:=by
 obtain⟨xs,cv,h⟩:=h;exact⟨xs,cv,h.wide h1 h2⟩
theorem Qw{is:L I3}(h:Bh w lo hi 139 3 v is.length ys)(hf:Ct is is.length ys):∃a cap,v=J a is.length cap/\Ch w a is:=by
 rcases Gs h.own with⟨rfl,h0⟩|⟨g,cap,rfl⟩
 ·exact qbn
 ·refine⟨_,cap,rfl,λi hi=>?_⟩;obtain⟨h1,h2,h3⟩:=hf i hi;refine⟨g,0,rfl,?_,?_,?_⟩
  ·rw[Nat.zero_add,h.own.cellAt _ qb];exact h1
  ·rw[Nat.zero_add,h.own.cellAt _ qb];exact h2
  ·rw[Nat.zero_add,h.own.cellAt _ qb];exact h3
theorem Gw.sl(h:Gw w lo hi v ts):∃a cap,v=J a ts.length cap/\Hb w a ts:=by
 obtain⟨xs,cv,h⟩:=h
 rcases Gs h.row.own with⟨rfl,h0⟩|⟨g,cap,rfl⟩
 ·exact qbn
 ·refine⟨_,cap,rfl,λi hi=>?_⟩;obtain⟨h1,h2⟩:=h.fil i hi;obtain⟨ys,k1,k2⟩:=h.code i hi;obtain⟨a',ai,e,r⟩:=Qw k1 k2;refine⟨g,0,rfl,?_,a',ai,?_,r⟩
  ·rw[Nat.zero_add,h.row.own.cellAt _ qb];exact h1
  ·rw[Nat.zero_add,h.row.own.cellAt _ qb,h2,e]
theorem Hc.set(h:Hc w lo hi v ss)(hb:b<lo)(u:Z):Hc (w.setCell ⟨b,j,N⟩ u) lo hi v ss:=h.keep (Dk.set (lo:=b) (hi:=b+1) (Nat.le_refl _) (Nat.lt_succ_self _) j u) (Or.inr hb)
theorem Gw.set(h:Gw w lo hi v ts)(hb:b<lo)(u:Z):Gw (w.setCell ⟨b,j,N⟩ u) lo hi v ts:=h.keep (Dk.set (lo:=b) (hi:=b+1) (Nat.le_refl _) (Nat.lt_succ_self _) j u) (Or.inr hb)
structure Jp (w:E) (lo:X) (is:L T2) (k:X) (xs:L Z) (cv:X->Z):Prop where
 fil:∀i,i<k->xs[i*2]?=M (S (tx is i).name)/\xs[i*2+1]?=M (cv i)
 code:∀i,i<k->∃ys,w.ownsRow lo 139 3 (cv i) (tx is i).code.length ys/\Ct (tx is i).code (tx is i).code.length ys
 apart:∀i j,i<j->j<k->∀b,(cv i).ownBlock=M b->(cv j).ownBlock≠M b
theorem Jp.same(h:Jp w lo is k xs cv)(hk:∀b,lo<=b->b<w.heap.size->w'.heap[b]?=w.heap[b]?):Jp w' lo is k xs cv:=
 ⟨h.fil,λi hi=>by
  obtain⟨ys,h1,h2⟩:=h.code i hi;exact⟨ys,Qx h1 (λb e=>hk b (h1.lt b e).1 (h1.lt b e).2),h2⟩,h.apart⟩
theorem Jp.set(h:Jp w lo is k xs cv)(hb:b<lo)(u:Z):Jp (w.setCell ⟨b,j,N⟩ u) lo is k xs cv:=h.same λc hc _=>Dj w ⟨b,j,N⟩ u c (by show c≠b;omega)
theorem Jp.zero(w:E)(lo:X)(is:L T2)(xs:L Z):Jp w lo is 0 xs (λ_=>nS):=⟨λi hi=>qb,λi hi=>qb,λi j _ hj=>qb⟩
theorem Jp.add{w2:E}{xs2:L Z}(h:Jp w lo is k xs cv)(hb:Bw w w2)(hl:lo<=w.heap.size){c:Z}(ho:w2.ownsRow w.heap.size 139 3 c (tx is k).code.length ys)(hf:Ct (tx is k).code (tx is k).code.length ys)(h1:∀j,j<k*2->xs2[j]?=xs[j]?)(h2:xs2[k*2]?=M (S (tx is k).name))(h3:xs2[k*2+1]?=M c):Jp w2 lo is (k+1) xs2 (λi=>if i=k then c else cv i):=by
 refine⟨λi hi=>?_,λi hi=>?_,λi j t7 hj=>?_⟩
 ·rcases Nat.lt_or_ge i k with hl|hl
  ·obtain⟨k1,k2⟩:=h.fil i hl;rw[h1 _ qb,h1 _ qb,if_neg qb];exact⟨k1,k2⟩
  ·obtain rfl:i=k:=qb;rw[if_pos rfl];exact⟨h2,h3⟩
 ·rcases Nat.lt_or_ge i k with aj|Y4
  ·obtain⟨zs,k1,k2⟩:=h.code i aj;simp only[if_neg (show ¬ i=k from qb)];exact⟨zs,Qx k1 (λb e=>hb.block b (k1.lt b e).2),k2⟩
  ·obtain rfl:i=k:=qb;simp only[if_true];exact⟨ys,Ju ho hl,hf⟩
 ·rcases Nat.lt_or_ge j k with aj|Y4
  ·simp only[if_neg (show ¬ i=k from qb),if_neg (show ¬ j=k from qb)];exact h.apart i j t7 aj
  ·exact qjs
theorem Jp.own(h:Jp w lo' is is.length xs cv)(hr:w.ownsRow lo 99 2 v is.length xs)(hl:lo<=lo')(hh:w.heap.size<=hi):Gw w lo hi v is:=
 ⟨xs,cv,⟨hr,λb e=>by have:=(hr.lt b e).2;omega⟩,h.fil,λi hi=>by
  obtain⟨ys,h1,h2⟩:=h.code i hi;exact⟨ys,⟨Ju h1 hl,λb e=>by have:=(h1.lt b e).2;omega⟩,h2⟩,h.apart⟩
structure Eh (w:E) (lo hi:X) (v:Z) (n:X) (cl:X->X) (xs:L Z) (cv:X->Z):Prop where
 row:Bh w lo hi 99 2 v n xs
 sec:∀i,i<n->xs[i*2+1]?=M (cv i)
 code:∀i,i<n->∃ys,Bh w lo hi 139 3 (cv i) (cl i) ys
 apart:∀i j,i<n->j<n->i≠j->∀b,(cv i).ownBlock=M b->(cv j).ownBlock≠M b
theorem Fl{o:Obj}(h:w.heap[b]?=M o):b<w.heap.size:=by
 exact qlx
theorem Cu(w:E)(o:Obj):(w.alloc o).heap[w.heap.size]?=M o:=qev
theorem Ft{v1 v2:Z}(h:w.heap[b]?=M (.cells #[v1,v2] T (0,0))):w.cell? ⟨b,0,N⟩=M v1/\w.cell? ⟨b,1,N⟩=M v2:=
 ⟨qaj,qaj⟩
theorem Af{o:Obj}(h:w.heap[b]?=M o)(hb:Bw w w'):w'.heap[b]?=M o:=by rw[hb.block _ (Fl h)];exact h
section
open Go.Deep
end
section
open Go.Deep
end
section
section
variable {P:Program} {ops:Array Oper} {Q:Exit->Act->E->Prop} {AC:E->Prop} {z:X}
def Lt(P:Program)(ops:Array Oper)(Q:Exit->Act->E->Prop)(AC:E->Prop)(z:X):X->Array Bool->Act->E->Prop
 | 0,l,a,w=>Region.ready .any ops l=[]/\Q .normal a w
 | n+1,l,a,w=>(Region.ready .any ops l=[]->Q .normal a w)/\∀i∈Region.ready .any ops l,wpOp P ops Q i (λa' w'=>(i≠z->AC w')/\Lt P ops Q AC z n (l.setIfInBounds i true) a' w') a w
theorem Lt.any:∀(n:X)(l:Array Bool)(a:Act)(w:E),Lt P ops Q AC z n l a w->wpAny P .any ops Q n l a w
 | 0,_,_,_,h=>h
 | n+1,_,_,_,h=>⟨h.1,λi hi=>wpOp_mono (λa' w' h'=>Lt.any n _ a' w' h'.2) (h.2 i hi)⟩
theorem Lt.begin{id:X}(z:X)(AC:E->Prop)(hm:P.follows .mixedOrders=true)(h:Lt P ops Q AC z ops.size (Array.replicate ops.size false) a w.drew):(Code.region id ops true).wp P Q a w:=wp_region_any hm (Lt.any _ _ _ _ h)
theorem Lt.done(hr:Region.ready .any ops l=[])(h:Q .normal a w):∀n,Lt P ops Q AC z n l a w
 | 0=>⟨hr,h⟩
 | _+1=>⟨λ_=>h,by rw[hr];simp⟩
theorem Lt.step{o:Oper}(hr:Region.ready .any ops l=[i])(ho:ops[i]?=M o)(h:∀K:Act->E->Prop,Shut (∀a w,(i≠z->AC w)->((i≠z->AC w)->Lt P ops Q AC z n (l.setIfInBounds i true) a w)->K a w)->if Region.wanted o (yielded ops a.tmps)=true then Oper.wp P o a w K Q else K (a.put o.dst undef) w):Lt P ops Q AC z (n+1) l a w:=by
 refine⟨λh0=>(by rw[hr]at h0;cases h0),λj hj=>?_⟩
 rw[hr]at hj
 obtain rfl:j=i:=qce
 exact wpOp_step ho (λK hK=>h K (λa w hS hW=>hK a w ⟨hS,hW hS⟩))
theorem Lt.take1(hi:ops[i]?=M oi)(hsel:∀(j:X)(o:Oper) cs b,ops[j]?=M o->o.op≠.select cs b)(hQ:∀c a w,Q (.panic c) (a.put oi.dst v) w->Q (.panic c) a w)(hz:∀oz,ops[z]?=M oz->∃e∈oz.after,Region.binds .any e=true/\e.on=i):∀(n:X)(l:Array Bool)(a:Act)(w:E),
 (∀j oj,ops[j]?=M oj->j≠i->l.getD j true=false->(∀e∈oj.after,Region.binds .any e=true->e.on≠i)->oi.apart ops oj=true)→
 i∈Region.ready .any ops l->YieldsIf P ops AC oi v a->AC w->Lt P ops Q AC z n (l.setIfInBounds i true) (a.put oi.dst v) w->Lt P ops Q AC z (n+1) l a w:=by
 intro n
 induction n with
 | zero=>
  intro l a w _ hr hy hS AI;refine⟨λh=>(by rw[h]at hr;cases hr),λj hj=>?_⟩
  rcases Decidable.em (j=i)with rfl|Y3
  ·exact hy.wpOp hi hS ⟨λ_=>hS,AI⟩
  ·exact absurd (AI.1▸ready_mono hj Y3) qg
 | succ n ih=>
  intro l a w hf hr hy hS AI;refine⟨λh=>(by rw[h]at hr;cases hr),λj hj=>?_⟩
  rcases Decidable.em (j=i)with rfl|Y3
  ·exact hy.wpOp hi hS ⟨λ_=>hS,AI⟩
  obtain⟨hj0,oj,hoj,pn⟩:=mem_ready.1 hj
  have im:∀e∈oj.after,Region.binds .any e=true->e.on≠i:=λe he hb pj=>by
   have h1:=pn e he hb;have h0:=(mem_ready.1 hr).1;rw[pj]at h1
   rcases Nat.lt_or_ge i l.size with h'|h'
   ·simp[h']at h0 h1;rw[h0]at h1;cases h1
   ·simp[Array.getElem?_eq_none h']at h1
  have hjz:j≠z:=λe=>by
   subst e;obtain⟨ed,h1,h2,h3⟩:=hz oj hoj;exact im ed h1 h2 h3
  have ut:∀k ok,ops[k]?=M ok->k≠i->(l.setIfInBounds j true).getD k true=false->(∀e∈ok.after,Region.binds .any e=true->e.on≠i)->oi.apart ops ok=true:=λk ok hk hki hun hn=>by
   refine hf k ok hk hki ?_ hn
   rcases Decidable.em (j=k)with rfl|hjk
   ·exact hj0
   ·rw[getD_set_ne true hjk]at hun;exact hun
  refine wpOp_mono (λa' w' h3=>⟨h3.2.1,ih (l.setIfInBounds j true) a' w' ut (ready_mono hr (Ne.symm Y3)) h3.1 (h3.2.1 hjz) ?_⟩) (wpOp_putIf hoj (hf j oj hoj Y3 hj0 im) (λcs b=>hsel i oi cs b hi) (λcs b=>hsel j oj cs b hoj) hQ hy (AI.2 j (ready_mono hj Y3)));rw[Array.setIfInBounds_comm _ _ Y3];exact h3.2.2
def Qan(ops:Array Oper)(z i:X):Bool:=match ops[z]? with
 | some o=>o.after.any λe=>Region.binds .any e&&e.on == i
 | none=>true
theorem waits_spec(h:Qan ops z i=true):∀oz,ops[z]?=M oz->∃e∈oz.after,Region.binds .any e=true/\e.on=i:=by
 intro oz hoz
 unfold Qan at h
 rw[hoz]at h
 obtain⟨k,hk,he⟩:=Array.any_eq_true.1 h
 simp at he
 exact⟨_,Array.getElem_mem hk,he.1,he.2⟩
theorem Lt.take(hi:ops[i]?=M oi)(hs:Region.noSelect ops=true)(hf:Region.free .any ops l i=true)(hr:(Region.ready .any ops l).contains i=true)(hz:Qan ops z i=true)(hQ:∀c a w,Q (.panic c) (a.put oi.dst v) w->Q (.panic c) a w)(hS:AC w)(hy:YieldsIf P ops AC oi v a)(h:Lt P ops Q AC z n (l.setIfInBounds i true) (a.put oi.dst v) w):Lt P ops Q AC z (n+1) l a w:=
 Lt.take1 hi (Region.noSelect_spec hs) hQ (waits_spec hz) n l a w (Region.free_spec hi hf) (by simpa using hr) hy hS h
theorem Lt.tk(hi:ops[i]?=M oi)(hc:(Region.noSelect ops&&Region.free .any ops l i&&(Region.ready .any ops l).contains i&&Qan ops z i)=true)(hQ:∀c a w,Q (.panic c) (a.put oi.dst v) w->Q (.panic c) a w)(hS:AC w)(hy:YieldsIf P ops AC oi v a)(h:Lt P ops Q AC z n (l.setIfInBounds i true) (a.put oi.dst v) w):Lt P ops Q AC z (n+1) l a w:=by
 simp only[Bool.and_eq_true]at hc
 exact Lt.take hi hc.1.1.1 hc.1.1.2 hc.1.2 hc.2 hQ hS hy h
theorem gX:(∀(a:Act)(d:Option Tmp)(v:Z),a.put d v=match d with|some d=>{ a with tmps:=a.tmps.setIfInBounds d v }|none=>a)/\(∀ {α:Type} (l:L α) (i:X) (a:α),l.toArray.setIfInBounds i a=(l.set i a).toArray)/\(∀ {α:Type} (a b:α) (l:L α),(a::l).set 0 b=b::l)/\∀ {α:Type} (a b:α) (l:L α) (n:X),(a::l).set (n+1) b=a::l.set n b:=⟨λ_ _ _=>rfl,λ_ _ _=>qg,λ_ _ _=>rfl,λ_ _ _ _=>rfl⟩
abbrev K(_:X)(p:Prop):Prop:=p
theorem Lt.ti(hS:AC w)(hy:∀w,AC w->(execOp a.eval oi).run P w=.ok (.value v) w)(h:K (i+1) (Lt P ops Q AC z n (l.setIfInBounds i true) (a.put oi.dst v) w))(hi:ops.toList[i]?=M oi:=by rfl)(hc:(Region.noSelect ops&&Region.free .any ops l i&&(Region.ready .any ops l).contains i&&Qan ops z i)=true:=by kernel_rfl)(hQ:∀c a w,Q (.panic c) (a.put oi.dst v) w->Q (.panic c) a w:=by exact λ_ _ _ h=>h)(hg:Region.wanted oi (yielded ops a.tmps)=true:=by rfl):K i (Lt P ops Q AC z (n+1) l a w):=Lt.tk (Array.getElem?_toList.symm.trans hi) hc hQ hS (Or.inl ⟨hg,hy⟩) h
theorem Lt.sp{o:Oper}(h:∀K:Act->E->Prop,Shut (∀a w,(i≠z->AC w)->((i≠z->AC w)->Lt P ops Q AC z n (l.setIfInBounds i true) a w)->K a w)->if Region.wanted o (yielded ops a.tmps)=true then Oper.wp P o a w K Q else K (a.put o.dst undef) w)(ho:ops.toList[i]?=M o:=by rfl)(hr:Region.ready .any ops l=[i]:=by kernel_rfl):Lt P ops Q AC z (n+1) l a w:=Lt.step hr (Array.getElem?_toList.symm.trans ho) h
end
end
theorem filled3_set{is:L I3}(h:Ct is k xs)(hx:k*3+2<xs.length):Ct is (k+1) (((xs.set (k*3) (I (ix is k).op)).set (k*3+1) (S (ix is k).text)).set (k*3+2) (I (ix is k).n)):=by
 exact qin
theorem row3_own{is:L I3}(hn:n=is.length)(h:w.ownsRow B 139 3 (J (p_ g) n cap) n xs)(hf:Ct is n xs):Ch w (p_ g) is:=by
 exact qjd
theorem Tryz.info139:(prog.info? 139).map (λi=>(i.zero,i.size,i.bytes))=M (M (.agg #[I 0,S ByteArray.empty,I 0]),3,32):=qi
theorem Kg(h:w.ownsRow B 139 3 (J (p_ g) n cap) n xs)(hj:j<n*3):∃v,w.cell? ⟨g,j,N⟩=M v:=by
 exact qfq
theorem Om{w1:E}(h:Bw w w1)(hb:w.heap.size≤b)(v:Z):Bw w (w1.setCell ⟨b,j,N⟩ v):=h.setCell hb v
def Mr(ss:L By):X:=(ss.map ByteArray.size).sum
theorem Sj(ss:L By)(k:X)(h:k<ss.length):Mr (ss.take (k+1))=Mr (ss.take k)+(ss.getD k ByteArray.empty).size:=by
 have e:ss.take (k+1)=ss.take k++[ss[k]]:=List.take_succ_eq_append_getElem h;unfold Mr;rw[e,List.map_append,List.sum_append,gG,Jr h];simp
theorem getD_le{ss:L By}(h:∀s∈ss,s.size≤maxLen)(k:X):(ss.getD k ByteArray.empty).size≤maxLen:=by
 rw[gG]
 cases hk:ss[k]? with
 | none=>simp[maxLen]
 | some s=>exact h s (List.mem_of_getElem? hk)
theorem Tryz.info9:(prog.info? 9).map (λi=>(i.zero,i.size,i.bytes))=M (M (S ByteArray.empty),1,16):=qi
def El(ss:L By)(k n:X):L Z:=(ss.take k).map Value.string++List.replicate (n-k) (Value.string ByteArray.empty)
theorem Iv(ss:L By)(k:X)(h:k≤ss.length):(El ss k ss.length).length=ss.length:=by
 simp[El];omega
theorem Uy(ss:L By)(k:X)(h:k<ss.length):(El ss k ss.length).set k (S (ss.getD k ByteArray.empty))=El ss (k+1) ss.length:=by
 unfold El;have e:ss.take (k+1)=ss.take k++[ss[k]]:=List.take_succ_eq_append_getElem h
 have hr:List.replicate (ss.length-k) (Value.string ByteArray.empty)=Value.string ByteArray.empty::List.replicate (ss.length-(k+1)) (Value.string ByteArray.empty):=by
  rw[show ss.length-k=(ss.length-(k+1))+1 from qb,List.replicate_succ]
 rw[e,hr,List.set_append_right _ _ qh];have hk:k-((ss.take k).map Value.string).length=0:=qh;rw[hk,gG,Jr h,List.map_append,List.append_assoc];rfl
theorem filled_get(ss:L By)(i:X)(h:i<ss.length):(El ss ss.length ss.length)[i]?=M (S (ss.getD i ByteArray.empty)):=by
 simp[El,gG,Jr h]
theorem Qc(n:X):(madeCells (Value.string ByteArray.empty).cells (n*1)).toList=List.replicate n (S ByteArray.empty):=by
 exact qmc
theorem filledG_set{is:L G3}(h:Bn is k xs)(hx:k*3+2<xs.length):Bn is (k+1) (((xs.set (k*3) (S (gx is k).name)).set (k*3+1) (.bool (gx is k).ask)).set (k*3+2) (S (gx is k).sum)):=by
 exact qin
theorem Qbd{is:L G3}(hn:n=is.length)(h:w.ownsRow B T 3 (J (p_ g) n cap) n xs)(hf:Bn is n xs):Gk w (p_ g) is:=by
 exact qjd
theorem Br(h:w.ownsRow B T 3 (J (p_ g) n cap) n xs)(hj:j<n*3):∃v,w.cell? ⟨g,j,N⟩=M v:=by
 exact qfq
theorem Tryz.info136:(prog.info? 136).map (λi=>(i.zero,i.size,i.bytes))=M (M (.agg #[S ByteArray.empty,.bool false,S ByteArray.empty]),3,40):=qi
structure Xz (w:E) (a:Option Addr) (is:L I3) (la:Option Addr) (gs:L G3) (out:By):Prop where
 rc:Ch w a is
 rg:Gk w la gs
 lc:is.length≤maxLen
 lg:gs.length≤maxLen
 xc:∀i,(ix is i).text.size≤maxLen
 ng:∀i,(gx gs i).name.size≤maxLen
 sg:∀i,(gx gs i).sum.size≤maxLen
 so:out.size≤maxLen
structure T3 where
 code:L I3
 looks:L G3
 out:By
def q00:T3:=⟨[],[],ByteArray.empty⟩
def qx(is:L T3)(i:X):T3:=is.getD i q00
def Lc(w:E)(a:Option Addr)(is:L T3):Prop:=
 ∀i,i<is.length→∃b off,a=M ⟨b,off,N⟩∧∃ca cc la lc,w.cell? ⟨b,off+i*3,N⟩=M (J ca (qx is i).code.length cc)∧w.cell? ⟨b,off+i*3+1,N⟩=M (J la (qx is i).looks.length lc)∧w.cell? ⟨b,off+i*3+2,N⟩=M (S (qx is i).out)∧Ch w ca (qx is i).code∧Gk w la (qx is i).looks
theorem Lc.bl{a:Option Addr}{is:L T3}(h:Lc w a is)(hb:Bw w w'):Lc w' a is:=by
 intro i hi;obtain⟨b,off,ha,ca,cc,la,lc,h1,h2,h3,h4,h5⟩:=h i hi;exact⟨b,off,ha,ca,cc,la,lc,Aa hb h1,Aa hb h2,Aa hb h3,h4.bl hb,h5.bl hb⟩
structure QsOk (rs:L T3):Prop where
 lr:rs.length≤maxLen
 lc:∀i,(qx rs i).code.length≤maxLen
 lg:∀i,(qx rs i).looks.length≤maxLen
 xc:∀i j,(ix (qx rs i).code j).text.size≤maxLen
 ng:∀i j,(gx (qx rs i).looks j).name.size≤maxLen
 sg:∀i j,(gx (qx rs i).looks j).sum.size≤maxLen
 so:∀i,(qx rs i).out.size≤maxLen
def En(rs:L T3):Prop:=rs.length≤1048576∧∀i,i<rs.length→(qx rs i).code.length≤1048576∧(qx rs i).looks.length≤1048576
theorem Tryz.info95:(prog.info? 95).map (λi=>(i.zero,i.size,i.bytes))=M (M (.agg #[nS,nS,S ByteArray.empty]),3,64):=qi

section
variable {P:Program} {ops:Array Oper} {Q:Exit→Act→E→Prop} {AC:E→Prop} {z:X}
end

def Dl(ob:Option X)(w w':E):Prop:=∀b,b<w.heap.size→M b≠ob→w'.heap[b]?=w.heap[b]?
theorem own_keep(h:w.ownsRow B e sz v n xs)(hk:Dl ob w w')(hne:∀b,v.ownBlock=M b→M b≠ob):w'.ownsRow B e sz v n xs:=by
 refine⟨h.1,?_⟩
 rcases h.2 with h2|⟨g,cap,cur,hv,hg,hh,r⟩
 ·exact Or.inl h2
 ·refine Or.inr ⟨g,cap,cur,hv,hg,?_,r⟩
  subst hv;rw[hk g (h.lt g rfl).2 (hne g rfl)];exact hh
theorem Cz(h:w.ownsRow B e sz v n xs):(v=nS∧n=0)∨∃g cap,v=J (p_ g) n cap:=by
 rcases h.2 with h|⟨g,cap,cur,hv,hg,r⟩
 ·exact Or.inl h
 ·exact Or.inr ⟨g,cap,hv⟩
theorem Dk.trans{a b c:E}(h:Dk lo hi a b)(hs:a.heap.size≤b.heap.size)(k:Dk lo hi b c):Dk lo hi a c:=λi hi hr=>(k i qb hr).trans (h i hi hr)
theorem Dk.of_below(h:Bw w w'):Dk lo hi w w':=λb hb _=>h.block b hb
theorem Dl.keepR(h:Dl ob w w')(n8:∀b,ob=M b→lo≤b∧b<hi):Dk lo hi w w':=λb hb hr=>h b hb (λe=>by have:=n8 b e.symm;omega)
theorem Bh.bl(h:Bh w lo hi e sz v n xs)(hb:Bw w w'):Bh w' lo hi e sz v n xs:=h.same λb e=>hb.block b (h.own.lt b e).2
theorem Bh.new(h:w.ownsRow lo e sz v n xs):Bh w lo w.heap.size e sz v n xs:=⟨h,λb e=>(h.lt b e).2⟩
theorem Cn(h:Bh w lo hi e sz v n ys):∃va vc,v=J va n vc:=by
 rcases Cz h.own with⟨hv,rfl⟩|⟨g',c',hv⟩
 ·exact⟨_,_,hv⟩
 ·exact⟨_,_,hv⟩
theorem Kl{s x:Operand}{W:E}{ops:Array Oper}{o:Oper}{K:Act->E->Prop}{Q:Exit->Act->E->Prop}{AF:Prop}(ru:o.guard=N)(ho:o.op=.call { callee:=.builtin .append,args:=#[s,x],argTypes:=#[22,22] })(B:X)(v:Z)(nn:X)(ys:L Z)(hs:a.eval s=v)(ah:W.ownsRow B 9 1 v nn ys)(Bz:X)(xa:Option Addr)(xc:X)(zs:L By)(hx:a.eval x=J xa zs.length xc)(hz:W.ownsRow Bz 9 1 (J xa zs.length xc) zs.length (Av zs))(hB:B≤W.heap.size)(hn:nn+zs.length≤1000000)(h:∀v' w',w'.ownsRow B 9 1 v' (nn+zs.length) (ys++Av zs)→W.grownBy w' v.ownBlock→(v'.ownBlock=v.ownBlock∨v'.ownBlock=M W.heap.size)→K (a.put o.dst v') w'):if Region.wanted o (yielded ops a.tmps)=true then Oper.wp prog o a W K Q else AF:=by
 have hw:Region.wanted o (yielded ops a.tmps)=true:=qbh;rw[if_pos hw];obtain⟨i0,hi,bo,bm,cm⟩:=info_parts Tryz.info9b
 rcases hz.2 with⟨hv,hl⟩|⟨g,cap,cur,hv,_⟩
 ·injection hv with e1 e2 e3
  have e0:zs=[]:=List.eq_nil_of_length_eq_zero e2;subst e1 e3 e0;have ku:=run_append_owned_none (P:=prog) (w:=W) B 22 o.type 9 i0 1 underlying22 hi v nn ys ah;have h2:=h v W (by simpa [Av] using ah) ⟨rfl,rfl,rfl,Nat.le_refl _,λ_ _ _=>rfl⟩ (Or.inl rfl);unfold Oper.wp;simp only[List.length_nil]at hx;simp[execOp,ho,resolve,invoke,builtin,hs,hx,ku,Result.andThen];exact h2
 ·injection hv with e1 e2 e3
  subst e1 e3;have hc:=hz.cells (g:=g) rfl;obtain⟨v',w',hr,h2,h3,h4,h5⟩:=run_append_own_at (P:=prog) W B 22 o.type 9 i0 ze 1 16 underlying22 hi bo bm cm rfl qd v nn ys ah ⟨g,0,N⟩ zs.length xc (Av zs) qah hc (by intro u hu;obtain⟨z,_,rfl⟩:=List.mem_map.mp hu;rfl) qm qb hB;unfold Oper.wp execOp;simp only[ho,resolve,invoke,builtin,Sem.run_bind,Sem.run_pure,Result.andThen_ok,List.map_toArray,List.map_cons,List.map_nil,hs,hx,hr];exact h v' w' h2 h3 h5
end Go.Proofs.YtoakjccojifagaaGreatDoor
