import Derived.Test.YtoihflimijabjaaGreatDoorTChkA
namespace Go.Proofs.YtoihflimijabjaaGreatDoor
open Value renaming slice->J,string->S
open Option renaming some->M,none->N
open Go renaming Value->Z,World->E
open _root_ renaming List->L,Nat->X
set_option maxHeartbeats 8000000
set_option maxRecDepth 100000
open _root_.Go.Proofs.Tryz Go.RowKit
set_option linter.unusedVariables false
set_option linter.unusedSimpArgs false
variable {B B' e sz n hi g lo' hi' b j k T i:X} {v:Z} {xs ys:L Z} {w':E} {ss:L S2} {ts is:L T2} {cv:X->Z} {a:Act} {l:Array Bool} {oi:Oper}
theorem Ov{w:E}(h:w.ownsRow B e sz v n xs)(hB:B'<=B):w.ownsRow B' e sz v n xs:=by
 exact qjq
theorem Mo{w:E}(h:w.ownsRow B e sz v n xs):(v=nS/\n=0)\/∃g cap,v=J (p_ g) n cap:=by
 exact qkw
open Go.RowKit
set_option linter.unusedVariables false
def Fe(lo hi:X)(w w':E):Prop:=∀b,b<w.heap.size->(b<lo\/hi<=b)->w'.heap[b]?=w.heap[b]?
theorem Fe.set{lo:X}{w:E}(h1:lo<=g)(h2:g<hi)(j:X)(v:Z):Fe lo hi w (w.setCell ⟨g,j,N⟩ v):=λb hb hr=>hC w ⟨g,j,N⟩ v b (by show b≠g;omega)
structure Ck (w:E) (lo hi e sz:X) (v:Z) (n:X) (xs:L Z):Prop where
 own:w.ownsRow lo e sz v n xs
 top:∀b,v.ownBlock=M b->b<hi
theorem Ou{w:E}(h:w.ownsRow B e sz v n xs)(hk:∀b,v.ownBlock=M b->w'.heap[b]?=w.heap[b]?):w'.ownsRow B e sz v n xs:=by
 refine⟨h.1,?_⟩
 rcases h.2 with h2|⟨g,cap,cur,hv,hg,hh,r⟩
 ·exact Or.inl h2
 ·refine Or.inr ⟨g,cap,cur,hv,hg,?_,r⟩;subst hv;rw[hk g rfl];exact hh
theorem Ck.same{w:E}{lo:X}(h:Ck w lo hi e sz v n xs)(hk:∀b,v.ownBlock=M b->w'.heap[b]?=w.heap[b]?):Ck w' lo hi e sz v n xs:=⟨Ou h.own hk,h.top⟩
theorem Ck.keep{w:E}{lo:X}(h:Ck w lo hi e sz v n xs)(hk:Fe lo' hi' w w')(hd:hi<=lo'\/hi'<=lo):Ck w' lo hi e sz v n xs:=h.same λb e=>hk b (h.own.lt b e).2 (by have h1:=(h.own.lt b e).1;have h2:=h.top b e;omega)
theorem Ck.wide{w:E}{lo:X}(h:Ck w lo hi e sz v n xs)(h1:lo'<=lo)(h2:hi<=hi'):Ck w lo' hi' e sz v n xs:=⟨Ov h.own h1,λb e=>by have:=h.top b e;omega⟩
theorem neT{w:E}{e' sz' n':X}{v':Z}{R8:L Z}(h:w.ownsRow B e sz v n xs)(h':w.ownsRow B' e' sz' v' n' R8)(aq:e≠e'):∀b,v.ownBlock=M b->v'.ownBlock≠M b:=by
 intro b hb eb
 rcases h.2 with⟨rfl,_⟩|⟨g,cap,cur,rfl,hg,hh,_⟩
 ·simp[Value.ownBlock]at hb
 ·rcases h'.2 with⟨rfl,_⟩|⟨g',ai,cur',rfl,hg',hh',_⟩
  ·simp[Value.ownBlock]at eb
  ·simp only[Value.ownBlock,Option.some.injEq]at hb eb;subst hb;rw[eb]at hh';rw[hh]at hh';simp at hh';exact aq hh'.2
def Dm(w:E)(lo hi:X)(v:Z)(ss:L S2):Prop:=∃xs,Ck w lo hi 110 2 v ss.length xs/\Ip ss ss.length xs
theorem Dm.keep{w:E}{lo:X}(h:Dm w lo hi v ss)(hk:Fe lo' hi' w w')(hd:hi<=lo'\/hi'<=lo):Dm w' lo hi v ss:=by
 obtain⟨xs,h1,h2⟩:=h;exact⟨xs,h1.keep hk hd,h2⟩
theorem Dm.wide{w:E}{lo:X}(h:Dm w lo hi v ss)(h1:lo'<=lo)(h2:hi<=hi'):Dm w lo' hi' v ss:=by
 obtain⟨xs,k1,k2⟩:=h;exact⟨xs,k1.wide h1 h2,k2⟩
theorem Dm.sl{w:E}{lo:X}(h:Dm w lo hi v ss):∃a cap,v=J a ss.length cap/\Hz w a ss:=by
 obtain⟨xs,h1,h2⟩:=h
 rcases Mo h1.own with⟨rfl,h0⟩|⟨g,cap,rfl⟩
 ·exact qcb
 ·exact⟨_,cap,rfl,rowS_own rfl h1.own h2⟩
structure Mi (w:E) (lo hi:X) (v:Z) (ts:L T2) (xs:L Z) (cv:X->Z):Prop where
 row:Ck w lo hi 113 2 v ts.length xs
 fil:∀i,i<ts.length->xs[i*2]?=M (S (tx ts i).name)/\xs[i*2+1]?=M (cv i)
 code:∀i,i<ts.length->∃ys,Ck w lo hi 103 3 (cv i) (tx ts i).code.length ys/\Cf (tx ts i).code (tx ts i).code.length ys
 apart:∀i j,i<j->j<ts.length->∀b,(cv i).ownBlock=M b->(cv j).ownBlock≠M b
def Ec(w:E)(lo hi:X)(v:Z)(ts:L T2):Prop:=∃xs cv,Mi w lo hi v ts xs cv
theorem Mi.keep{w:E}{lo:X}(h:Mi w lo hi v ts xs cv)(hk:Fe lo' hi' w w')(hd:hi<=lo'\/hi'<=lo):Mi w' lo hi v ts xs cv:=
 ⟨h.row.keep hk hd,h.fil,λi hi=>by obtain⟨ys,h1,h2⟩:=h.code i hi;exact⟨ys,h1.keep hk hd,h2⟩,h.apart⟩
theorem Mi.wide{w:E}{lo:X}(h:Mi w lo hi v ts xs cv)(h1:lo'<=lo)(h2:hi<=hi'):Mi w lo' hi' v ts xs cv:=
 ⟨h.row.wide h1 h2,h.fil,λi hi=>by obtain⟨ys,k1,k2⟩:=h.code i hi;exact⟨ys,k1.wide h1 h2,k2⟩,h.apart⟩
theorem Ec.keep{w:E}{lo:X}(h:Ec w lo hi v ts)(hk:Fe lo' hi' w w')(hd:hi<=lo'\/hi'<=lo):Ec w' lo hi v ts:=by
 obtain⟨xs,cv,h⟩:=h;exact⟨xs,cv,h.keep hk hd⟩
theorem Ec.wide{w:E}{lo:X}(h:Ec w lo hi v ts)(h1:lo'<=lo)(h2:hi<=hi'):Ec w lo' hi' v ts:=by
 obtain⟨xs,cv,h⟩:=h;exact⟨xs,cv,h.wide h1 h2⟩
theorem Tn{w:E}{lo:X}{is:L I3}(h:Ck w lo hi 103 3 v is.length ys)(hf:Cf is is.length ys):∃a cap,v=J a is.length cap/\Dl w a is:=by
 rcases Mo h.own with⟨rfl,h0⟩|⟨g,cap,rfl⟩
 ·exact qcb
 ·refine⟨_,cap,rfl,λi hi=>?_⟩;obtain⟨h1,h2,h3⟩:=hf i hi;refine⟨g,0,rfl,?_,?_,?_⟩
  ·rw[Nat.zero_add,h.own.cellAt _ qg];exact h1
  ·rw[Nat.zero_add,h.own.cellAt _ qg];exact h2
  ·rw[Nat.zero_add,h.own.cellAt _ qg];exact h3
theorem Ec.sl{w:E}{lo:X}(h:Ec w lo hi v ts):∃a cap,v=J a ts.length cap/\Jq w a ts:=by
 obtain⟨xs,cv,h⟩:=h
 rcases Mo h.row.own with⟨rfl,h0⟩|⟨g,cap,rfl⟩
 ·exact qcb
 ·refine⟨_,cap,rfl,λi hi=>?_⟩;obtain⟨h1,h2⟩:=h.fil i hi;obtain⟨ys,k1,k2⟩:=h.code i hi;obtain⟨a',ai,e,r⟩:=Tn k1 k2;refine⟨g,0,rfl,?_,a',ai,?_,r⟩
  ·rw[Nat.zero_add,h.row.own.cellAt _ qg];exact h1
  ·rw[Nat.zero_add,h.row.own.cellAt _ qg,h2,e]
theorem Dm.set{w:E}{lo:X}(h:Dm w lo hi v ss)(hb:b<lo)(u:Z):Dm (w.setCell ⟨b,j,N⟩ u) lo hi v ss:=h.keep (Fe.set (lo:=b) (hi:=b+1) (Nat.le_refl _) (Nat.lt_succ_self _) j u) (Or.inr hb)
theorem Ec.set{w:E}{lo:X}(h:Ec w lo hi v ts)(hb:b<lo)(u:Z):Ec (w.setCell ⟨b,j,N⟩ u) lo hi v ts:=h.keep (Fe.set (lo:=b) (hi:=b+1) (Nat.le_refl _) (Nat.lt_succ_self _) j u) (Or.inr hb)
structure Ed (w:E) (lo:X) (is:L T2) (k:X) (xs:L Z) (cv:X->Z):Prop where
 fil:∀i,i<k->xs[i*2]?=M (S (tx is i).name)/\xs[i*2+1]?=M (cv i)
 code:∀i,i<k->∃ys,w.ownsRow lo 103 3 (cv i) (tx is i).code.length ys/\Cf (tx is i).code (tx is i).code.length ys
 apart:∀i j,i<j->j<k->∀b,(cv i).ownBlock=M b->(cv j).ownBlock≠M b
theorem Ed.same{w:E}{lo:X}(h:Ed w lo is k xs cv)(hk:∀b,lo<=b->b<w.heap.size->w'.heap[b]?=w.heap[b]?):Ed w' lo is k xs cv:=
 ⟨h.fil,λi hi=>by
  obtain⟨ys,h1,h2⟩:=h.code i hi;exact⟨ys,Ou h1 (λb e=>hk b (h1.lt b e).1 (h1.lt b e).2),h2⟩,h.apart⟩
theorem Ed.set{w:E}{lo:X}(h:Ed w lo is k xs cv)(hb:b<lo)(u:Z):Ed (w.setCell ⟨b,j,N⟩ u) lo is k xs cv:=h.same λc hc _=>hC w ⟨b,j,N⟩ u c (by show c≠b;omega)
theorem Ed.zero(w:E)(lo:X)(is:L T2)(xs:L Z):Ed w lo is 0 xs (λ_=>nS):=⟨λi hi=>qg,λi hi=>qg,λi j _ hj=>qg⟩
theorem Ed.add{w w2:E}{lo:X}{xs2:L Z}(h:Ed w lo is k xs cv)(hb:Bw w w2)(hl:lo<=w.heap.size){c:Z}(ho:w2.ownsRow w.heap.size 103 3 c (tx is k).code.length ys)(hf:Cf (tx is k).code (tx is k).code.length ys)(h1:∀j,j<k*2->xs2[j]?=xs[j]?)(h2:xs2[k*2]?=M (S (tx is k).name))(h3:xs2[k*2+1]?=M c):Ed w2 lo is (k+1) xs2 (λi=>if i=k then c else cv i):=by
 refine⟨λi hi=>?_,λi hi=>?_,λi j l7 hj=>?_⟩
 ·rcases Nat.lt_or_ge i k with hl|hl
  ·obtain⟨k1,k2⟩:=h.fil i hl;rw[h1 _ qg,h1 _ qg,if_neg qg];exact⟨k1,k2⟩
  ·obtain rfl:i=k:=qg;rw[if_pos rfl];exact⟨h2,h3⟩
 ·rcases Nat.lt_or_ge i k with au|H0
  ·obtain⟨zs,k1,k2⟩:=h.code i au;simp only[if_neg (show ¬ i=k from qg)];exact⟨zs,Ou k1 (λb e=>hb.block b (k1.lt b e).2),k2⟩
  ·obtain rfl:i=k:=qg;simp only[if_true];exact⟨ys,Ov ho hl,hf⟩
 ·rcases Nat.lt_or_ge j k with au|H0
  ·simp only[if_neg (show ¬ i=k from qg),if_neg (show ¬ j=k from qg)];exact h.apart i j l7 au
  ·exact qjf
theorem Ed.own{w:E}{lo:X}(h:Ed w lo' is is.length xs cv)(hr:w.ownsRow lo 113 2 v is.length xs)(hl:lo<=lo')(hh:w.heap.size<=hi):Ec w lo hi v is:=
 ⟨xs,cv,⟨hr,λb e=>by have:=(hr.lt b e).2;omega⟩,h.fil,λi hi=>by
  obtain⟨ys,h1,h2⟩:=h.code i hi;exact⟨ys,⟨Ov h1 hl,λb e=>by have:=(h1.lt b e).2;omega⟩,h2⟩,h.apart⟩
open Go.RowKit
set_option linter.unusedVariables false
open Go.RowKit
set_option linter.unusedVariables false
theorem An{w:E}{o:Obj}(h:w.heap[b]?=M o):b<w.heap.size:=by
 exact qkq
theorem Am(w:E)(o:Obj):(w.alloc o).heap[w.heap.size]?=M o:=qct
theorem Bg{w:E}{v1 v2:Z}(h:w.heap[b]?=M (.cells #[v1,v2] T (0,0))):w.cell? ⟨b,0,N⟩=M v1/\w.cell? ⟨b,1,N⟩=M v2:=
 ⟨qah,qah⟩
theorem Ac{w:E}{o:Obj}(h:w.heap[b]?=M o)(hb:Bw w w'):w'.heap[b]?=M o:=by rw[hb.block _ (An h)];exact h
section
open Go.Deep
end
open Go.RowKit
set_option linter.unusedVariables false
set_option linter.unusedSimpArgs false
section
open Go.Deep
end
section
section
variable {P:Program} {ops:Array Oper} {Q:Exit->Act->E->Prop} {AD:E->Prop} {z:X}
def Lt(P:Program)(ops:Array Oper)(Q:Exit->Act->E->Prop)(AD:E->Prop)(z:X):X->Array Bool->Act->E->Prop
 | 0,l,a,w=>Region.ready .any ops l=[]/\Q .normal a w
 | n+1,l,a,w=>(Region.ready .any ops l=[]->Q .normal a w)/\∀i∈Region.ready .any ops l,wpOp P ops Q i (λa' w'=>(i≠z->AD w')/\Lt P ops Q AD z n (l.setIfInBounds i true) a' w') a w
theorem Lt.any:∀(n:X)(l:Array Bool)(a:Act)(w:E),Lt P ops Q AD z n l a w->wpAny P .any ops Q n l a w
 | 0,_,_,_,h=>h
 | n+1,_,_,_,h=>⟨h.1,λi hi=>wpOp_mono (λa' w' h'=>Lt.any n _ a' w' h'.2) (h.2 i hi)⟩
theorem Lt.begin{id:X}{w:E}(z:X)(AD:E->Prop)(hm:P.follows .mixedOrders=true)(h:Lt P ops Q AD z ops.size (Array.replicate ops.size false) a w.drew):(Code.region id ops true).wp P Q a w:=wp_region_any hm (Lt.any _ _ _ _ h)
theorem Lt.done{w:E}(hr:Region.ready .any ops l=[])(h:Q .normal a w):∀n,Lt P ops Q AD z n l a w
 | 0=>⟨hr,h⟩
 | _+1=>⟨λ_=>h,by rw[hr];simp⟩
theorem Lt.step{o:Oper}{w:E}(hr:Region.ready .any ops l=[i])(ho:ops[i]?=M o)(h:∀K:Act->E->Prop,Shut (∀a w,(i≠z->AD w)->((i≠z->AD w)->Lt P ops Q AD z n (l.setIfInBounds i true) a w)->K a w)->if Region.wanted o (yielded ops a.tmps)=true then Oper.wp P o a w K Q else K (a.put o.dst undef) w):Lt P ops Q AD z (n+1) l a w:=by
 refine⟨λh0=>(by rw[hr]at h0;cases h0),λj hj=>?_⟩
 rw[hr]at hj
 obtain rfl:j=i:=qck
 exact wpOp_step ho (λK hK=>h K (λa w hS hW=>hK a w ⟨hS,hW hS⟩))
theorem Lt.take1(hi:ops[i]?=M oi)(hsel:∀(j:X)(o:Oper) cs b,ops[j]?=M o->o.op≠.select cs b)(hQ:∀c a w,Q (.panic c) (a.put oi.dst v) w->Q (.panic c) a w)(hz:∀oz,ops[z]?=M oz->∃e∈oz.after,Region.binds .any e=true/\e.on=i):∀(n:X)(l:Array Bool)(a:Act)(w:E),
 (∀j oj,ops[j]?=M oj->j≠i->l.getD j true=false->(∀e∈oj.after,Region.binds .any e=true->e.on≠i)->oi.apart ops oj=true)→
 i∈Region.ready .any ops l->YieldsIf P ops AD oi v a->AD w->Lt P ops Q AD z n (l.setIfInBounds i true) (a.put oi.dst v) w->Lt P ops Q AD z (n+1) l a w:=by
 intro n
 induction n with
 | zero=>
  intro l a w _ hr hy hS AJ;refine⟨λh=>(by rw[h]at hr;cases hr),λj hj=>?_⟩
  rcases Decidable.em (j=i)with rfl|G9
  ·exact hy.wpOp hi hS ⟨λ_=>hS,AJ⟩
  ·exact absurd (AJ.1▸ready_mono hj G9) qi
 | succ n ih=>
  intro l a w hf hr hy hS AJ;refine⟨λh=>(by rw[h]at hr;cases hr),λj hj=>?_⟩
  rcases Decidable.em (j=i)with rfl|G9
  ·exact hy.wpOp hi hS ⟨λ_=>hS,AJ⟩
  obtain⟨hj0,oj,hoj,zg⟩:=mem_ready.1 hj
  have nh:∀e∈oj.after,Region.binds .any e=true->e.on≠i:=λe he hb jj=>by
   have h1:=zg e he hb;have h0:=(mem_ready.1 hr).1;rw[jj]at h1
   rcases Nat.lt_or_ge i l.size with h'|h'
   ·simp[h']at h0 h1;rw[h0]at h1;cases h1
   ·simp[Array.getElem?_eq_none h']at h1
  have hjz:j≠z:=λe=>by
   subst e;obtain⟨ed,h1,h2,h3⟩:=hz oj hoj;exact nh ed h1 h2 h3
  have hf2:∀k ok,ops[k]?=M ok->k≠i->(l.setIfInBounds j true).getD k true=false->(∀e∈ok.after,Region.binds .any e=true->e.on≠i)->oi.apart ops ok=true:=λk ok hk hki hun hn=>by
   refine hf k ok hk hki ?_ hn
   rcases Decidable.em (j=k)with rfl|hjk
   ·exact hj0
   ·rw[getD_set_ne true hjk]at hun;exact hun
  refine wpOp_mono (λa' w' h3=>⟨h3.2.1,ih (l.setIfInBounds j true) a' w' hf2 (ready_mono hr (Ne.symm G9)) h3.1 (h3.2.1 hjz) ?_⟩) (wpOp_putIf hoj (hf j oj hoj G9 hj0 nh) (λcs b=>hsel i oi cs b hi) (λcs b=>hsel j oj cs b hoj) hQ hy (AJ.2 j (ready_mono hj G9)));rw[Array.setIfInBounds_comm _ _ G9];exact h3.2.2
def Vz(ops:Array Oper)(z i:X):Bool:=match ops[z]? with
 | some o=>o.after.any λe=>Region.binds .any e&&e.on == i
 | none=>true
theorem Yk(h:Vz ops z i=true):∀oz,ops[z]?=M oz->∃e∈oz.after,Region.binds .any e=true/\e.on=i:=by
 intro oz hoz
 unfold Vz at h
 rw[hoz]at h
 obtain⟨k,hk,he⟩:=Array.any_eq_true.1 h
 simp at he
 exact⟨_,Array.getElem_mem hk,he.1,he.2⟩
theorem Lt.take{w:E}(hi:ops[i]?=M oi)(hs:Region.noSelect ops=true)(hf:Region.free .any ops l i=true)(hr:(Region.ready .any ops l).contains i=true)(hz:Vz ops z i=true)(hQ:∀c a w,Q (.panic c) (a.put oi.dst v) w->Q (.panic c) a w)(hS:AD w)(hy:YieldsIf P ops AD oi v a)(h:Lt P ops Q AD z n (l.setIfInBounds i true) (a.put oi.dst v) w):Lt P ops Q AD z (n+1) l a w:=
 Lt.take1 hi (Region.noSelect_spec hs) hQ (Yk hz) n l a w (Region.free_spec hi hf) (by simpa using hr) hy hS h
theorem Lt.tk{w:E}(hi:ops[i]?=M oi)(hc:(Region.noSelect ops&&Region.free .any ops l i&&(Region.ready .any ops l).contains i&&Vz ops z i)=true)(hQ:∀c a w,Q (.panic c) (a.put oi.dst v) w->Q (.panic c) a w)(hS:AD w)(hy:YieldsIf P ops AD oi v a)(h:Lt P ops Q AD z n (l.setIfInBounds i true) (a.put oi.dst v) w):Lt P ops Q AD z (n+1) l a w:=by
 simp only[Bool.and_eq_true]at hc
 exact Lt.take hi hc.1.1.1 hc.1.1.2 hc.1.2 hc.2 hQ hS hy h
theorem gX:(∀(a:Act)(d:Option Tmp)(v:Z),a.put d v=match d with|some d=>{ a with tmps:=a.tmps.setIfInBounds d v }|none=>a)/\(∀ {α:Type} (l:L α) (i:X) (a:α),l.toArray.setIfInBounds i a=(l.set i a).toArray)/\(∀ {α:Type} (a b:α) (l:L α),(a::l).set 0 b=b::l)/\∀ {α:Type} (a b:α) (l:L α) (n:X),(a::l).set (n+1) b=a::l.set n b:=⟨λ_ _ _=>rfl,λ_ _ _=>qi,λ_ _ _=>rfl,λ_ _ _ _=>rfl⟩
abbrev K(_:X)(p:Prop):Prop:=p
theorem Lt.ti{w:E}(hS:AD w)(hy:∀w,AD w->(execOp a.eval oi).run P w=.ok (.value v) w)(h:K (i+1) (Lt P ops Q AD z n (l.setIfInBounds i true) (a.put oi.dst v) w))(hi:ops.toList[i]?=M oi:=by rfl)(hc:(Region.noSelect ops&&Region.free .any ops l i&&(Region.ready .any ops l).contains i&&Vz ops z i)=true:=by kernel_rfl)(hQ:∀c a w,Q (.panic c) (a.put oi.dst v) w->Q (.panic c) a w:=by exact λ_ _ _ h=>h)(hg:Region.wanted oi (yielded ops a.tmps)=true:=by rfl):K i (Lt P ops Q AD z (n+1) l a w):=Lt.tk (Array.getElem?_toList.symm.trans hi) hc hQ hS (Or.inl ⟨hg,hy⟩) h
theorem Lt.sp{o:Oper}{w:E}(h:∀K:Act->E->Prop,Shut (∀a w,(i≠z->AD w)->((i≠z->AD w)->Lt P ops Q AD z n (l.setIfInBounds i true) a w)->K a w)->if Region.wanted o (yielded ops a.tmps)=true then Oper.wp P o a w K Q else K (a.put o.dst undef) w)(ho:ops.toList[i]?=M o:=by rfl)(hr:Region.ready .any ops l=[i]:=by kernel_rfl):Lt P ops Q AD z (n+1) l a w:=Lt.step hr (Array.getElem?_toList.symm.trans ho) h
end
end
theorem Wo{w:E}{cap:X}{is:L I3}(hn:n=is.length)(h:w.ownsRow B 103 3 (J (p_ g) n cap) n xs)(hf:Cf is n xs):Dl w (p_ g) is:=by
 exact qiq
open Go.RowKit
theorem Dl.setCell{w:E}{is:L I3}(h:Dl w (p_ g) is)(hb:b≠g)(v:Z):Dl (w.setCell ⟨b,j,N⟩ v) (p_ g) is:=by
 exact qif
open Go.RowKit
theorem Cs.setCell{w:E}{ss:L By}(h:Cs w (p_ g) ss)(hb:b≠g)(v:Z):Cs (w.setCell ⟨b,j,N⟩ v) (p_ g) ss:=by
 intro i hi;obtain⟨b',off,ha,h1⟩:=h i hi;cases ha;have e:∀o,(w.setCell ⟨b,j,N⟩ v).cell? ⟨g,o,N⟩=w.cell? ⟨g,o,N⟩:=λo=>World.cell?_of_block (w:=w) (hC w ⟨b,j,N⟩ v g (λe=>hb e.symm));exact⟨g,0,rfl,by rw[e];exact h1⟩
theorem Tryz.info9:(prog.info? 9).map (λi=>(i.zero,i.size,i.bytes))=M (M (S ByteArray.empty),1,16):=qk
def Fi(ss:L By)(k n:X):L Z:=(ss.take k).map Value.string++List.replicate (n-k) (Value.string ByteArray.empty)
theorem Mh(ss:L By)(k:X)(h:k≤ss.length):(Fi ss k ss.length).length=ss.length:=by
 simp[Fi];omega
theorem Qar(ss:L By)(k:X)(h:k<ss.length):(Fi ss k ss.length).set k (S (ss.getD k ByteArray.empty))=Fi ss (k+1) ss.length:=by
 unfold Fi;have e:ss.take (k+1)=ss.take k++[ss[k]]:=List.take_succ_eq_append_getElem h
 have hr:List.replicate (ss.length-k) (Value.string ByteArray.empty)=Value.string ByteArray.empty::List.replicate (ss.length-(k+1)) (Value.string ByteArray.empty):=by
  rw[show ss.length-k=(ss.length-(k+1))+1 from qg,List.replicate_succ]
 rw[e,hr,List.set_append_right _ _ qj];have hk:k-((ss.take k).map Value.string).length=0:=qj;rw[hk,gG,gQ h,List.map_append,List.append_assoc];rfl
theorem Qas(ss:L By)(i:X)(h:i<ss.length):(Fi ss ss.length ss.length)[i]?=M (S (ss.getD i ByteArray.empty)):=by
 simp[Fi,gG,gQ h]
theorem Ve(n:X):(madeCells (Value.string ByteArray.empty).cells (n*1)).toList=List.replicate n (S ByteArray.empty):=by
 apply List.ext_getElem?;intro i
 by_cases h:i<n<;>simp[madeCells,Value.cells,h,Nat.mod_one]
open Go.RowKit
set_option linter.unusedVariables false
theorem Kb.setCell{w:E}{is:L G3}(h:Kb w (p_ g) is)(hb:b≠g)(v:Z):Kb (w.setCell ⟨b,j,N⟩ v) (p_ g) is:=by
 exact qif
theorem Wn{w:E}{cap:X}{is:L G3}(hn:n=is.length)(h:w.ownsRow B T 3 (J (p_ g) n cap) n xs)(hf:Be is n xs):Kb w (p_ g) is:=by
 exact qiq
open Go.RowKit
set_option linter.unusedVariables false
open Go.RowKit
set_option linter.unusedVariables false
structure T3 where
 code:L I3
 looks:L G3
 out:By
def q00:T3:=⟨[],[],ByteArray.empty⟩
def qx(is:L T3)(i:X):T3:=is.getD i q00
def Yf(w:E)(a:Option Addr)(is:L T3):Prop:=
 ∀i,i<is.length→∃b off,a=M ⟨b,off,N⟩∧∃ca cc la lc,w.cell? ⟨b,off+i*3,N⟩=M (J ca (qx is i).code.length cc)∧w.cell? ⟨b,off+i*3+1,N⟩=M (J la (qx is i).looks.length lc)∧w.cell? ⟨b,off+i*3+2,N⟩=M (S (qx is i).out)∧Dl w ca (qx is i).code∧Kb w la (qx is i).looks
theorem Yf.bl{w:E}{a:Option Addr}{is:L T3}(h:Yf w a is)(hb:Bw w w'):Yf w' a is:=by
 intro i hi;obtain⟨b,off,ha,ca,cc,la,lc,h1,h2,h3,h4,h5⟩:=h i hi;exact⟨b,off,ha,ca,cc,la,lc,Aa hb h1,Aa hb h2,Aa hb h3,h4.bl hb,h5.bl hb⟩
structure QsOk (rs:L T3):Prop where
 lr:rs.length≤maxLen
 lc:∀i,(qx rs i).code.length≤maxLen
 lg:∀i,(qx rs i).looks.length≤maxLen
 xc:∀i j,(ix (qx rs i).code j).text.size≤maxLen
 ng:∀i j,(gx (qx rs i).looks j).name.size≤maxLen
 sg:∀i j,(gx (qx rs i).looks j).sum.size≤maxLen
 so:∀i,(qx rs i).out.size≤maxLen
def Od(rs:L T3):Prop:=rs.length≤1048576∧∀i,i<rs.length→(qx rs i).code.length≤1048576∧(qx rs i).looks.length≤1048576
open Go.RowKit
set_option linter.unusedVariables false
open Go.RowKit
section
variable {P:Program} {ops:Array Oper} {Q:Exit→Act→E→Prop} {AD:E→Prop} {z:X}
end
open Go.RowKit
set_option linter.unusedVariables false
open Go.RowKit
set_option linter.unusedVariables false
def Ih(ob:Option X)(w w':E):Prop:=∀b,b<w.heap.size→M b≠ob→w'.heap[b]?=w.heap[b]?
theorem own_keep{w:E}{ob:Option X}(h:w.ownsRow B e sz v n xs)(hk:Ih ob w w')(aq:∀b,v.ownBlock=M b→M b≠ob):w'.ownsRow B e sz v n xs:=by
 refine⟨h.1,?_⟩
 rcases h.2 with h2|⟨g,cap,cur,hv,hg,hh,r⟩
 ·exact Or.inl h2
 ·refine Or.inr ⟨g,cap,cur,hv,hg,?_,r⟩
  subst hv;rw[hk g (h.lt g rfl).2 (aq g rfl)];exact hh
theorem Dc{w:E}(h:w.ownsRow B e sz v n xs):(v=nS∧n=0)∨∃g cap,v=J (p_ g) n cap:=by
 rcases h.2 with h|⟨g,cap,cur,hv,hg,r⟩
 ·exact Or.inl h
 ·exact Or.inr ⟨g,cap,hv⟩
open Go.RowKit
set_option linter.unusedVariables false
theorem Fe.refl{lo:X}(w:E):Fe lo hi w w:=λ_ _ _=>rfl
theorem Fe.trans{lo:X}{a b c:E}(h:Fe lo hi a b)(hs:a.heap.size≤b.heap.size)(k:Fe lo hi b c):Fe lo hi a c:=λi hi hr=>(k i qg hr).trans (h i hi hr)
theorem Fe.of_below{lo:X}{w:E}(h:Bw w w'):Fe lo hi w w':=λb hb _=>h.block b hb
theorem Ck.bl{w:E}{lo:X}(h:Ck w lo hi e sz v n xs)(hb:Bw w w'):Ck w' lo hi e sz v n xs:=h.same λb e=>hb.block b (h.own.lt b e).2
theorem Ck.nil(w:E)(lo hi e sz:X):Ck w lo hi e sz nS 0 []:=⟨World.ownsRow_nil _ _ _ _,λb e=>by simp[Value.ownBlock]at e⟩
theorem Ck.new{w:E}{lo:X}(h:w.ownsRow lo e sz v n xs):Ck w lo w.heap.size e sz v n xs:=⟨h,λb e=>(h.lt b e).2⟩
end Go.Proofs.YtoihflimijabjaaGreatDoor
