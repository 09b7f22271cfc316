import Derived.Test.YtfgoholldpeabaaGreatDoorBdB
namespace Go.Proofs.YtfgoholldpeabaaGreatDoor
set_option maxHeartbeats 400000
open _root_.Go.Proofs.Tryz Go.RowKit Go.Deep
set_option linter.unusedVariables false
set_option linter.unusedSimpArgs false
variable {B b B' e sz n i T cap j h m:Nat} {X X':Nat->Prop} {w w' w1:World} {u v nv sv tv x nw:Value} {xs ys:List Value} {ms:Mm} {a:Option Addr} {R:List T3} {s:Sb} {st l':List By} {cs:Array Value}
structure Cz (B:Nat) (X X':Nat->Prop) (w w':World):Prop where
  bel:Below B w w'
  keep:∀ b,b<w.heap.size->¬ X b->w'.heap[b]?=w.heap[b]?
  new:∀ b,X' b->X b\/w.heap.size<=b
theorem Cz.no (h:Cz B X X' w w') (hb:b<w.heap.size) (hx:¬ X b):¬ X' b:=fun k=>by
  rcases h.new b k with q|q
  · exact hx q
  · omega
theorem Cz.trans {X'':Nat->Prop} {w2:World} (h:Cz B X X' w w1) (k:Cz B X' X'' w1 w2):Cz B X X'' w w2:=by
  have hs:=h.bel.size;refine⟨h.bel.trans k.bel,fun b hb hx=>(k.keep b qb (h.no hb hx)).trans (h.keep b hb hx),fun b hb=>?_⟩
  rcases k.new b hb with q|q
  · exact h.new b q
  · right;omega
theorem Cz.refl (w:World):Cz B X X w w:=⟨Below.refl _ _,fun _ _ _=>rfl,fun _ h=>Or.inl h⟩
theorem Cz.of_below (h:Bw w w') (hB:B<=w.heap.size):Cz B X X w w':=⟨h.mono hB,fun b hb _=>h.block b hb,fun _ h=>Or.inl h⟩
theorem Cz.blk (h:Cz B X X' w w') {o:Obj} (hb:w.heap[b]?=some o) (hx:¬ X b):w'.heap[b]?=some o:=(h.keep b (Af hb) hx).trans hb
theorem Cz.own (h:Cz B X X' w w') (ho:w.ownsRow B' e sz u n xs) (hx:∀ b,u.ownBlock=some b->¬ X b):w'.ownsRow B' e sz u n xs:=Aj ho fun b e=>h.keep b (ho.lt b e).2 (hx b e)
structure Hv where
  tx:Value
  qv:Value
  mv:Value
  kv:Value
  nv:Value
  ev:Value
def Bu (h:Nat) (v:Hv) (b:Nat):Prop:=b=h\/v.qv.ownBlock=some b\/v.mv.ownBlock=some b\/v.kv.ownBlock=some b\/v.nv.ownBlock=some b\/v.ev.ownBlock=some b
def mm (ms:Mm) (i:Nat):By × Md:=ms.getD i (⟨#[]⟩,⟨0,⟨#[]⟩,[]⟩)
def FilM (ms:Mm) (xs:List Value):Prop:=∀ i,i<ms.length->xs[i*5]?=some (.string (mm ms i).1)/\xs[i*5+1]?=some (I (mm ms i).2.c)/\xs[i*5+2]?=some (.string (mm ms i).2.t)/\xs[i*5+3]?=some nS/\∃ r,xs[i*5+4]?=some (I r)
theorem mm_lt {e:By × Md} (h:i<ms.length):mm (ms++[e]) i=mm ms i:=by
  unfold mm;rw[gG,List.getElem?_append_left h,gG]
theorem mm_at (ms:Mm) (e:By × Md):mm (ms++[e]) ms.length=e:=by
  unfold mm;rw[gG,List.getElem?_append_right (Nat.le_refl _)];simp
theorem FilM.snoc (h:FilM ms xs) (hl:xs.length=ms.length*5) (nm:By) (d:Md) (r:Int):FilM (ms++[(nm,d)]) (xs++[.string nm,I d.c,.string d.t,nS,I r]):=by
  intro i hi;rw[List.length_append,List.length_singleton] at hi
  rcases Nat.lt_or_ge i ms.length with k|k
  · obtain⟨a,b,c,e,q,f⟩:=h i k
    rw[mm_lt k];refine⟨?_,?_,?_,?_,q,?_⟩<;>rw[List.getElem?_append_left qb]<;>assumption
  · obtain rfl:i=ms.length:=qb
    rw[mm_at];refine⟨?_,?_,?_,?_,r,?_⟩
    · rw[List.getElem?_append_right qb,show ms.length*5-xs.length=0 from qb];rfl
    · rw[List.getElem?_append_right qb,show ms.length*5+1-xs.length=1 from qb];rfl
    · rw[List.getElem?_append_right qb,show ms.length*5+2-xs.length=2 from qb];rfl
    · rw[List.getElem?_append_right qb,show ms.length*5+3-xs.length=3 from qb];rfl
    · rw[List.getElem?_append_right qb,show ms.length*5+4-xs.length=4 from qb];rfl
structure Gy (w:World) (B:Nat) (v:Value) (R:List T3) (xs:List Value) (cv lv:Nat->Value):Prop where
  row:w.ownsRow B 97 3 v R.length xs
  fil:∀ i,i<R.length->xs[i*3]?=some (cv i)/\xs[i*3+1]?=some (lv i)/\xs[i*3+2]?=some (.string (qx R i).out)
  code:∀ i,i<R.length->∃ ys,w.ownsRow B 128 3 (cv i) (qx R i).code.length ys/\Cl (qx R i).code (qx R i).code.length ys
  look:∀ i,i<R.length->∃ ys,w.ownsRow B 125 3 (lv i) (qx R i).looks.length ys/\Bo (qx R i).looks (qx R i).looks.length ys
  apc:∀ i j,i<j->j<R.length->∀ b,(cv i).ownBlock=some b->(cv j).ownBlock≠some b
  apl:∀ i j,i<j->j<R.length->∀ b,(lv i).ownBlock=some b->(lv j).ownBlock≠some b
def Es (w:World) (B:Nat) (v:Value) (R:List T3):Prop:=∃ xs cv lv,Gy w B v R xs cv lv
theorem Aw (h:w.ownsRow B e sz v n xs):∃ a cap,v=.slice a n cap:=by
  rcases h.2 with ⟨e,h0⟩|⟨g,c,cur,e,_⟩
  · exact qdp
  · exact⟨_,c,e⟩
theorem Pe {is:List I3} (h:w.ownsRow B 128 3 v is.length ys) (hf:Cl is is.length ys):∃ a cap,v=.slice a is.length cap/\Cj w a is:=by
  have h':=h
  rcases h.2 with ⟨e,h0⟩|⟨g,c,cur,e,_⟩
  · exact⟨none,0,by rw[e,h0],fun i hi=>qb⟩
  · rw[e] at h'
    exact⟨_,c,e,row3_own rfl h' hf⟩
theorem Fp {gs:List G3} (h:w.ownsRow B T 3 v gs.length ys) (hf:Bo gs gs.length ys):∃ a cap,v=.slice a gs.length cap/\Hr w a gs:=by
  have h':=h
  rcases h.2 with ⟨e,h0⟩|⟨g,c,cur,e,_⟩
  · exact⟨none,0,by rw[e,h0],fun i hi=>qb⟩
  · rw[e] at h'
    exact⟨_,c,e,Qar rfl h' hf⟩
theorem Cn (h:w.ownsRow B e sz (.slice a n cap) n xs) (hj:xs[j]?=some u):∃ b,a=p_ b/\w.cell? ⟨b,j,none⟩=some u:=by
  rcases h.2 with ⟨e,h0⟩|⟨g,c,cur,e,hg,hh,h1,h2,h3,h4⟩
  · have:=h.1
    rw[h0,Nat.zero_mul] at this;rw[List.eq_nil_of_length_eq_zero this] at hj;simp at hj
  · cases e
    refine⟨g,rfl,?_⟩;rw[cH hh,← Array.getElem?_toList];rw[← h4,List.getElem?_take] at hj
    split at hj
    · exact hj
    · cases hj
theorem Es.at (h:Es w B (.slice a R.length cap) R) (hi:i<R.length):∃ b ca cc la lc,a=p_ b/\w.cell? ⟨b,i*3,none⟩=some (.slice ca (qx R i).code.length cc)/\w.cell? ⟨b,i*3+1,none⟩=some (.slice la (qx R i).looks.length lc)/\w.cell? ⟨b,i*3+2,none⟩=some (.string (qx R i).out)/\Cj w ca (qx R i).code/\Hr w la (qx R i).looks:=by
  obtain⟨xs,cv,lv,h⟩:=h;obtain⟨f1,f2,f3⟩:=h.fil i hi;obtain⟨ys,k1,k2⟩:=h.code i hi;obtain⟨zs,l1,l2⟩:=h.look i hi;obtain⟨ca,cc,e1,r1⟩:=Pe k1 k2;obtain⟨la,lc,e2,r2⟩:=Fp l1 l2;rw[e1] at f1;rw[e2] at f2;obtain⟨b,rfl,c1⟩:=Cn h.row f1;obtain⟨b',q,c2⟩:=Cn h.row f2;cases q;obtain⟨b',q,c3⟩:=Cn h.row f3;cases q;exact⟨b,ca,cc,la,lc,rfl,c1,c2,c3,r1,r2⟩
structure Fo (B h:Nat) (sv tv:Value) (n:Nat) (w:World) (ms:Mm) (s:Sb) (st:List By) (v:Hv):Prop where
  hB:B<=h
  blk:w.heap[h]?=some (.cells #[sv,tv,I n,v.tx,v.qv,v.mv,v.kv,v.nv,v.ev,.bool false,I 0,ze,nS,I 0,nS,nS,nS,nS,ze,ze] 61 (0,0))
  txt:w.ownsRow B 9 1 v.tx s.T.length (Ax s.T)
  rcs:Es w B v.qv s.R
  made:∃ xs,w.ownsRow B 131 5 v.mv ms.length xs/\FilM ms xs
  stk:w.ownsRow B 9 1 v.kv st.length (Ax st)
  ran:w.ownsRow B 9 1 v.nv s.ran.length (Ax s.ran)
  held:w.ownsRow B 9 1 v.ev s.held.length (Ax s.held)
  txa:∃ g p,v.tx=.slice (p_ g) s.T.length p
  tk:∀ b,v.tx.ownBlock=some b->v.kv.ownBlock≠some b/\v.nv.ownBlock≠some b/\v.ev.ownBlock≠some b
  kn:∀ b,v.kv.ownBlock=some b->v.nv.ownBlock≠some b/\v.ev.ownBlock≠some b
  ne:∀ b,v.nv.ownBlock=some b->v.ev.ownBlock≠some b
def Jb (B:Nat) (w:World) (b:Gd) (e:List Value):Prop:=
  match b with
  | .circle ch=>∃ cv,w.ownsRow B 9 1 cv ch.length (Ax ch)/\e=[I 6,ze,cv,I 0,nS,nS,nS,nS,ze,ze]
  | .deep nm=>e=[I 7,.string nm,nS,I 0,nS,nS,nS,nS,ze,ze]
  | .clash A B=>e=[I 10,ze,nS,I 0,nS,nS,nS,nS,.string A,.string B]
  | .full=>e=[I 11,ze,nS,I 0,nS,nS,nS,nS,ze,ze]
def Jq:Gd->Int
  | .circle _=>6
  | .deep _=>7
  | .clash _ _=>10
  | .full=>11
def Yr (h:Nat) (nv:Value) (b:Nat):Prop:=b=h\/nv.ownBlock=some b
def DeadR (B k:Nat) (nv:Value) (w:World) (pre e:List Value):Prop:=pre[7]?=some nv/\(∃ xs:List By,w.ownsRow B 9 1 nv xs.length (Ax xs)/\xs.length+k<=1000)/\∀ u b,e[2]?=some u->u.ownBlock=some b->nv.ownBlock≠some b
def Fm (B h k:Nat) (nv:Value) (w:World) (b:Gd):Prop:=∃ pre e,pre.length=9/\w.heap[h]?=some (.cells ((pre++[Value.bool true]++e).toArray) 61 (0,0))/\Jb B w b e/\DeadR B k nv w pre e
theorem Jb.code {b:Gd} {e:List Value} (h:Jb B w b e):e.length=10/\e[0]?=some (I (Jq b)):=by
  cases b with
  | circle ch=>obtain⟨cv,_,rfl⟩:=h;exact⟨rfl,rfl⟩
  | deep nm=>cases h;exact⟨rfl,rfl⟩
  | clash A B=>cases h;exact⟨rfl,rfl⟩
  | full=>cases h;exact⟨rfl,rfl⟩
theorem Fm.cells {b:Gd} (k:Fm B h m nv w b):w.cell? ⟨h,9,none⟩=some (.bool true)/\w.cell? ⟨h,10,none⟩=some (I (Jq b))/\h<w.heap.size:=by
  obtain⟨pre,e,hl,hb,he,_⟩:=k;obtain⟨e1,e2⟩:=he.code;refine⟨?_,?_,Af hb⟩
  · rw[cH hb]
    simp[List.getElem?_append,hl]
  · rw[cH hb]
    simp[List.getElem?_append,hl,e2]
theorem Fm.frx {b:Gd} (k:Fm B h m nv w b) (hb:Bw w w'):Fm B h m nv w' b:=by
  obtain⟨pre,e,hl,hk,he,d1,⟨xs,d2,d4⟩,d3⟩:=k;refine⟨pre,e,hl,Ae hk hb,?_,d1,⟨xs,Ac d2 hb,d4⟩,d3⟩
  cases b with
  | circle ch=>obtain⟨cv,h1,h2⟩:=he;exact⟨cv,Ac h1 hb,h2⟩
  | deep nm=>exact he
  | clash A B=>exact he
  | full=>exact he
theorem Fo.bl {v:Hv} (k:Fo B h sv tv n w ms s st v) (hb:Bw w w'):Fo B h sv tv n w' ms s st v:=by
  obtain⟨xs,m1,m2⟩:=k.made;refine⟨k.hB,Ae k.blk hb,Ac k.txt hb,?_,⟨xs,Ac m1 hb,m2⟩,Ac k.stk hb,Ac k.ran hb,Ac k.held hb,k.txa,k.tk,k.kn,k.ne⟩;obtain⟨xs,cv,lv,r⟩:=k.rcs;exact⟨xs,cv,lv,Ac r.row hb,r.fil,fun i hi=>by obtain⟨ys,a,b⟩:=r.code i hi;exact⟨ys,Ac a hb,b⟩,fun i hi=>by obtain⟨ys,a,b⟩:=r.look i hi;exact⟨ys,Ac a hb,b⟩,r.apc,r.apl⟩
theorem Fo.not {v:Hv} (k:Fo B h sv tv n w ms s st v) (hb:w.heap.size<=b):¬ Bu h v b:=by
  have h0:=Af k.blk;obtain⟨xs,m1,m2⟩:=k.made;obtain⟨ys,cv,lv,r⟩:=k.rcs;rintro (e|e|e|e|e|e)
  · omega
  · have:=(r.row.lt b e).2;omega
  · have:=(m1.lt b e).2;omega
  · have:=(k.stk.lt b e).2;omega
  · have:=(k.ran.lt b e).2;omega
  · have:=(k.held.lt b e).2;omega
theorem Oh {row:Option Nat} (ho:w.ownsRow B e sz u n xs) (hg:w.grownBy w' row) (hne:∀ b,u.ownBlock=some b->row≠some b):w'.ownsRow B e sz u n xs:=Aj ho fun b e=>hg.block b (ho.lt b e).2 (fun q=>hne b e q.symm)
theorem Dc {row:Option Nat} (ho:w.ownsRow B e sz u n xs) (hg:w.grownBy w' row) (hne:∀ b,u.ownBlock=some b->row≠some b) (hb:w'.heap[h]?=some (.cells cs T (0,0))) (hT:T≠e):(w'.setCell ⟨h,j,none⟩ x).ownsRow B e sz u n xs:=Al (Oh ho hg hne) ⟨_,hb⟩ hT x
theorem apart {e' sz' n':Nat} (ho:w.ownsRow B e sz u n xs) (ho':w.ownsRow B' e' sz' v n' ys) (hne:e≠e'):∀ b,u.ownBlock=some b->v.ownBlock≠some b:=fun b e q=>by
  obtain⟨_,cur,hh⟩:=Dr ho e;exact Ad ho' hne hh q
theorem Es.gs {row:Option Nat} (k:Es w B v R) (hg:w.grownBy w' row) (hr:∀ b,row=some b->∃ cs e,w.heap[b]?=some (.cells cs e (0,0))/\e≠97/\e≠128/\e≠125) (hb:w'.heap[h]?=some (.cells cs T (0,0))) (h1:T≠97) (h2:T≠128) (h3:T≠125):Es (w'.setCell ⟨h,j,none⟩ x) B v R:=by
  obtain⟨xs,cv,lv,r⟩:=k
  have ne:∀ {e sz n:Nat} {u:Value} {ys:List Value},w.ownsRow B e sz u n ys->(e=97\/e=128\/e=125)->∀ b,u.ownBlock=some b->row≠some b:=fun ho he b q1 q2=>by
    obtain⟨cs,e',c1,c2,c3,c4⟩:=hr b q2;exact Ad ho (fun q=>he.elim (fun k=>c2 (q.trans k)) (fun k=>k.elim (fun k=>c3 (q.trans k)) (fun k=>c4 (q.trans k)))) c1 q1
  refine⟨xs,cv,lv,Dc r.row hg (ne r.row (Or.inl rfl)) hb h1,r.fil,fun i hi=>?_,fun i hi=>?_,r.apc,r.apl⟩
  · obtain⟨ys,a,b⟩:=r.code i hi
    exact⟨ys,Dc a hg (ne a (Or.inr (Or.inl rfl))) hb h2,b⟩
  · obtain⟨ys,a,b⟩:=r.look i hi
    exact⟨ys,Dc a hg (ne a (Or.inr (Or.inr rfl))) hb h3,b⟩
theorem Ba (ho:w.ownsRow B e sz u n xs):∀ b,u.ownBlock=some b->∃ cs,w.heap[b]?=some (.cells cs e (0,0)):=fun b q=>by
  obtain⟨_,cur,hh⟩:=Dr ho q;exact⟨cur,hh⟩
theorem Ei (hb:w.heap[h]?=some (.cells cs 61 (0,0))) (j:Nat) (x:Value):(w.setCell ⟨h,j,none⟩ x).heap[h]?=some (.cells (cs.setIfInBounds j x) 61 (0,0)):=jB hb x
theorem Fo.growM {v:Hv} (k:Fo B h sv tv n w ms s st v) (fy:B<=w.heap.size) {xs':List Value} {ms':Mm} (hl:ms'.length=ms.length+1) (ho:w'.ownsRow B 131 5 nw (ms.length+1) xs') (hf:FilM ms' xs') (hg:w.grownBy w' v.mv.ownBlock) (ct:∀ b,nw.ownBlock=some b->v.mv.ownBlock=some b\/w.heap.size<=b) :
    Fo B h sv tv n (w'.setCell ⟨h,5,none⟩ nw) ms' s st ⟨v.tx,v.qv,nw,v.kv,v.nv,v.ev⟩/\Cz B (Bu h v) (Bu h ⟨v.tx,v.qv,nw,v.kv,v.nv,v.ev⟩) w (w'.setCell ⟨h,5,none⟩ nw):=by
  obtain⟨xs,m1,m2⟩:=k.made;obtain⟨ys,cv,lv,r⟩:=k.rcs;have hh:v.mv.ownBlock≠some h:=Ad m1 qd k.blk;have hb:=Bq k.blk hg hh;have ip:=Ei hb 5 nw;simp only[List.setIfInBounds_toArray,List.set_cons_zero,List.set_cons_succ] at ip;have Q9:∀ b,v.mv.ownBlock=some b->∃ cs e,w.heap[b]?=some (.cells cs e (0,0))/\e≠97/\e≠128/\e≠125:=fun b q=>by obtain⟨cs,c1⟩:=Ba m1 b q;exact⟨cs,131,c1,qd,qd,qd⟩
  refine⟨⟨k.hB,ip,Dc k.txt hg (apart k.txt m1 qd) hb qd,k.rcs.gs hg Q9 hb qd qd qd,⟨xs',by rw[hl];exact Al ho ⟨_,hb⟩ qd _,hf⟩,Dc k.stk hg (apart k.stk m1 qd) hb qd,Dc k.ran hg (apart k.ran m1 qd) hb qd,Dc k.held hg (apart k.held m1 qd) hb qd,k.txa,k.tk,k.kn,k.ne⟩,?_⟩;refine⟨((Below.refl B w).grown hg fy (fun j q=>(m1.lt j q).1)).setCell (p:=⟨h,5,none⟩) k.hB _,fun b bi hx=>?_,fun b hx=>?_⟩
  · rw[hC w' ⟨h,5,none⟩ _ b (fun e=>hx (Or.inl e)),hg.block b bi (fun q=>hx (Or.inr (Or.inr (Or.inl q.symm))))]
  · rcases hx with q|q|q|q|q|q
    · exact Or.inl (Or.inl q)
    · exact Or.inl (Or.inr (Or.inl q))
    · rcases ct b q with q|q;exact Or.inl (Or.inr (Or.inr (Or.inl q)));exact Or.inr q
    · exact qfr
    · exact qfo
    · exact qfn
theorem Fo.growK {v:Hv} (k:Fo B h sv tv n w ms s st v) (fy:B<=w.heap.size) {pj:List By} (ho:w'.ownsRow B 9 1 nw pj.length (Ax pj)) (hg:w.grownBy w' v.kv.ownBlock) (ct:∀ b,nw.ownBlock=some b->v.kv.ownBlock=some b\/w.heap.size<=b) :
    Fo B h sv tv n (w'.setCell ⟨h,6,none⟩ nw) ms s pj ⟨v.tx,v.qv,v.mv,nw,v.nv,v.ev⟩/\Cz B (Bu h v) (Bu h ⟨v.tx,v.qv,v.mv,nw,v.nv,v.ev⟩) w (w'.setCell ⟨h,6,none⟩ nw):=by
  obtain⟨xs,m1,m2⟩:=k.made;obtain⟨ys,cv,lv,r⟩:=k.rcs;have hh:v.kv.ownBlock≠some h:=Ad k.stk qd k.blk;have hb:=Bq k.blk hg hh;have ip:=Ei hb 6 nw;simp only[List.setIfInBounds_toArray,List.set_cons_zero,List.set_cons_succ] at ip;have Q9:∀ b,v.kv.ownBlock=some b->∃ cs e,w.heap[b]?=some (.cells cs e (0,0))/\e≠97/\e≠128/\e≠125:=fun b q=>by obtain⟨cs,c1⟩:=Ba k.stk b q;exact⟨cs,9,c1,qd,qd,qd⟩
  refine⟨⟨k.hB,ip,Dc k.txt hg (fun b q=>(k.tk b q).1) hb qd,k.rcs.gs hg Q9 hb qd qd qd,⟨xs,Dc m1 hg (apart m1 k.stk qd) hb qd,m2⟩,Al ho ⟨_,hb⟩ qd _,Dc k.ran hg (fun b q q2=>(k.kn b q2).1 q) hb qd,Dc k.held hg (fun b q q2=>(k.kn b q2).2 q) hb qd,k.txa,fun b q=>⟨(fun q2=>by rcases ct b q2 with q3|q3;exact(k.tk b q).1 q3;have:=(k.txt.lt b q).2;omega),(k.tk b q).2.1,(k.tk b q).2.2⟩,fun b q=>⟨(fun q2=>by rcases ct b q with q3|q3;exact(k.kn b q3).1 q2;have:=(k.ran.lt b q2).2;omega),(fun q2=>by rcases ct b q with q3|q3;exact(k.kn b q3).2 q2;have:=(k.held.lt b q2).2;omega)⟩,fun b q=>(k.ne b q)⟩,?_⟩;refine⟨((Below.refl B w).grown hg fy (fun j q=>(k.stk.lt j q).1)).setCell (p:=⟨h,6,none⟩) k.hB _,fun b bi hx=>?_,fun b hx=>?_⟩
  · rw[hC w' ⟨h,6,none⟩ _ b (fun e=>hx (Or.inl e)),hg.block b bi (fun q=>hx (Or.inr (Or.inr (Or.inr (Or.inl q.symm)))))]
  · rcases hx with q|q|q|q|q|q
    · exact Or.inl (Or.inl q)
    · exact Or.inl (Or.inr (Or.inl q))
    · exact Or.inl (Or.inr (Or.inr (Or.inl q)))
    · rcases ct b q with q|q;exact Or.inl (Or.inr (Or.inr (Or.inr (Or.inl q))));exact Or.inr q
    · exact qfo
    · exact qfn
theorem Fo.growN {v:Hv} (k:Fo B h sv tv n w ms s st v) (fy:B<=w.heap.size) (ho:w'.ownsRow B 9 1 nw l'.length (Ax l')) (hg:w.grownBy w' v.nv.ownBlock) (ct:∀ b,nw.ownBlock=some b->v.nv.ownBlock=some b\/w.heap.size<=b) :
    Fo B h sv tv n (w'.setCell ⟨h,7,none⟩ nw) ms ⟨s.T,s.R,l',s.held⟩ st ⟨v.tx,v.qv,v.mv,v.kv,nw,v.ev⟩/\Cz B (Bu h v) (Bu h ⟨v.tx,v.qv,v.mv,v.kv,nw,v.ev⟩) w (w'.setCell ⟨h,7,none⟩ nw):=by
  obtain⟨xs,m1,m2⟩:=k.made;obtain⟨ys,cv,lv,r⟩:=k.rcs;have hh:v.nv.ownBlock≠some h:=Ad k.ran qd k.blk;have hb:=Bq k.blk hg hh;have ip:=Ei hb 7 nw;simp only[List.setIfInBounds_toArray,List.set_cons_zero,List.set_cons_succ] at ip;have Q9:∀ b,v.nv.ownBlock=some b->∃ cs e,w.heap[b]?=some (.cells cs e (0,0))/\e≠97/\e≠128/\e≠125:=fun b q=>by obtain⟨cs,c1⟩:=Ba k.ran b q;exact⟨cs,9,c1,qd,qd,qd⟩
  refine⟨⟨k.hB,ip,Dc k.txt hg (fun b q=>(k.tk b q).2.1) hb qd,k.rcs.gs hg Q9 hb qd qd qd,⟨xs,Dc m1 hg (apart m1 k.ran qd) hb qd,m2⟩,Dc k.stk hg (fun b q=>(k.kn b q).1) hb qd,Al ho ⟨_,hb⟩ qd _,Dc k.held hg (fun b q q2=>k.ne b q2 q) hb qd,k.txa,fun b q=>⟨(k.tk b q).1,(fun q2=>by rcases ct b q2 with q3|q3;exact(k.tk b q).2.1 q3;have:=(k.txt.lt b q).2;omega),(k.tk b q).2.2⟩,fun b q=>⟨(fun q2=>by rcases ct b q2 with q3|q3;exact(k.kn b q).1 q3;have:=(k.stk.lt b q).2;omega),(k.kn b q).2⟩,fun b q=>(fun q2=>by rcases ct b q with q3|q3;exact(k.ne b q3) q2;have:=(k.held.lt b q2).2;omega)⟩,?_⟩;refine⟨((Below.refl B w).grown hg fy (fun j q=>(k.ran.lt j q).1)).setCell (p:=⟨h,7,none⟩) k.hB _,fun b bi hx=>?_,fun b hx=>?_⟩
  · rw[hC w' ⟨h,7,none⟩ _ b (fun e=>hx (Or.inl e)),hg.block b bi (fun q=>hx (Or.inr (Or.inr (Or.inr (Or.inr (Or.inl q.symm))))))]
  · rcases hx with q|q|q|q|q|q
    · exact Or.inl (Or.inl q)
    · exact Or.inl (Or.inr (Or.inl q))
    · exact Or.inl (Or.inr (Or.inr (Or.inl q)))
    · exact qfr
    · rcases ct b q with q|q;exact Or.inl (Or.inr (Or.inr (Or.inr (Or.inr (Or.inl q)))));exact Or.inr q
    · exact qfn
theorem Fo.growE {v:Hv} (k:Fo B h sv tv n w ms s st v) (fy:B<=w.heap.size) (ho:w'.ownsRow B 9 1 nw l'.length (Ax l')) (hg:w.grownBy w' v.ev.ownBlock) (ct:∀ b,nw.ownBlock=some b->v.ev.ownBlock=some b\/w.heap.size<=b) :
    Fo B h sv tv n (w'.setCell ⟨h,8,none⟩ nw) ms ⟨s.T,s.R,s.ran,l'⟩ st ⟨v.tx,v.qv,v.mv,v.kv,v.nv,nw⟩/\Cz B (Bu h v) (Bu h ⟨v.tx,v.qv,v.mv,v.kv,v.nv,nw⟩) w (w'.setCell ⟨h,8,none⟩ nw):=by
  obtain⟨xs,m1,m2⟩:=k.made;obtain⟨ys,cv,lv,r⟩:=k.rcs;have hh:v.ev.ownBlock≠some h:=Ad k.held qd k.blk;have hb:=Bq k.blk hg hh;have ip:=Ei hb 8 nw;simp only[List.setIfInBounds_toArray,List.set_cons_zero,List.set_cons_succ] at ip;have Q9:∀ b,v.ev.ownBlock=some b->∃ cs e,w.heap[b]?=some (.cells cs e (0,0))/\e≠97/\e≠128/\e≠125:=fun b q=>by obtain⟨cs,c1⟩:=Ba k.held b q;exact⟨cs,9,c1,qd,qd,qd⟩
  refine⟨⟨k.hB,ip,Dc k.txt hg (fun b q=>(k.tk b q).2.2) hb qd,k.rcs.gs hg Q9 hb qd qd qd,⟨xs,Dc m1 hg (apart m1 k.held qd) hb qd,m2⟩,Dc k.stk hg (fun b q=>(k.kn b q).2) hb qd,Dc k.ran hg (fun b q=>k.ne b q) hb qd,Al ho ⟨_,hb⟩ qd _,k.txa,fun b q=>⟨(k.tk b q).1,(k.tk b q).2.1,(fun q2=>by rcases ct b q2 with q3|q3;exact(k.tk b q).2.2 q3;have:=(k.txt.lt b q).2;omega)⟩,fun b q=>⟨(k.kn b q).1,(fun q2=>by rcases ct b q2 with q3|q3;exact(k.kn b q).2 q3;have:=(k.stk.lt b q).2;omega)⟩,fun b q=>(fun q2=>by rcases ct b q2 with q3|q3;exact(k.ne b q) q3;have:=(k.ran.lt b q).2;omega)⟩,?_⟩;refine⟨((Below.refl B w).grown hg fy (fun j q=>(k.held.lt j q).1)).setCell (p:=⟨h,8,none⟩) k.hB _,fun b bi hx=>?_,fun b hx=>?_⟩
  · rw[hC w' ⟨h,8,none⟩ _ b (fun e=>hx (Or.inl e)),hg.block b bi (fun q=>hx (Or.inr (Or.inr (Or.inr (Or.inr (Or.inr q.symm))))))]
  · rcases hx with q|q|q|q|q|q
    · exact Or.inl (Or.inl q)
    · exact Or.inl (Or.inr (Or.inl q))
    · exact Or.inl (Or.inr (Or.inr (Or.inl q)))
    · exact qfr
    · exact qfo
    · rcases ct b q with q|q;exact Or.inl (Or.inr (Or.inr (Or.inr (Or.inr (Or.inr q)))));exact Or.inr q
theorem Es.set1 (k:Es w B v R) (hb:Dk w b T) (h1:T≠97) (h2:T≠128) (h3:T≠125) (x:Value):Es (w.setCell ⟨b,j,none⟩ x) B v R:=by
  obtain⟨xs,cv,lv,r⟩:=k;exact⟨xs,cv,lv,Al r.row hb h1 x,r.fil,fun i hi=>by obtain⟨ys,a,b⟩:=r.code i hi;exact⟨ys,Al a hb h2 x,b⟩,fun i hi=>by obtain⟨ys,a,b⟩:=r.look i hi;exact⟨ys,Al a hb h3 x,b⟩,r.apc,r.apl⟩
theorem Fo.setTx {v:Hv} (k:Fo B h sv tv n w ms s st v) (fy:B<=w.heap.size) (hb:Bw w w1) {T':List By} {g p:Nat} (ho:w1.ownsRow B 9 1 (.slice (p_ g) T'.length p) T'.length (Ax T')) (hg:v.tx.ownBlock=some g\/w.heap.size<=g) :
    Fo B h sv tv n (((w1.setCell ⟨h,2,none⟩ (I n)).setCell ⟨h,3,none⟩ (.slice (p_ g) T'.length p)).setCell ⟨h,4,none⟩ v.qv) ms ⟨T',s.R,s.ran,s.held⟩ st ⟨.slice (p_ g) T'.length p,v.qv,v.mv,v.kv,v.nv,v.ev⟩/\Cz B (Bu h v) (Bu h ⟨.slice (p_ g) T'.length p,v.qv,v.mv,v.kv,v.nv,v.ev⟩) w (((w1.setCell ⟨h,2,none⟩ (I n)).setCell ⟨h,3,none⟩ (.slice (p_ g) T'.length p)).setCell ⟨h,4,none⟩ v.qv):=by
  have q:=k.bl hb;obtain⟨xs,m1,m2⟩:=q.made;have hh:Dk w1 h 61:=⟨_,q.blk⟩;obtain⟨x2,ex2⟩:∃ x:Value,I n=x:=⟨_,rfl⟩;obtain⟨x3,ex3⟩:∃ x:Value,.slice (p_ g) T'.length p=x:=⟨_,rfl⟩;have a1:Dk (w1.setCell ⟨h,2,none⟩ x2) h 61:=hh.set x2;have a2:Dk ((w1.setCell ⟨h,2,none⟩ x2).setCell ⟨h,3,none⟩ x3) h 61:=a1.set x3;have ip:=Ei (Ei (Ei q.blk 2 x2) 3 x3) 4 v.qv;simp only[List.setIfInBounds_toArray,List.set_cons_zero,List.set_cons_succ] at ip;have s3:∀ {e sz l:Nat} {u:Value} {ys:List Value},w1.ownsRow B e sz u l ys->61≠e->(((w1.setCell ⟨h,2,none⟩ x2).setCell ⟨h,3,none⟩ x3).setCell ⟨h,4,none⟩ v.qv).ownsRow B e sz u l ys:=fun r hne=>Al (Al (Al r hh hne x2) a1 hne x3) a2 hne v.qv
  have hd:∀ b,(Value.slice (p_ g) T'.length p).ownBlock=some b->v.kv.ownBlock≠some b/\v.nv.ownBlock≠some b/\v.ev.ownBlock≠some b:=fun b e=>by
    obtain rfl:g=b:=qby
    rcases hg with q|q
    · exact k.tk g q
    · exact⟨fun e=>by have:=(k.stk.lt g e).2;omega,fun e=>by have:=(k.ran.lt g e).2;omega,fun e=>by have:=(k.held.lt g e).2;omega⟩
  have hrc:=((q.rcs.set1 (j:=2) hh qd qd qd x2).set1 (j:=3) a1 qd qd qd x3).set1 (j:=4) a2 qd qd qd v.qv;rw[ex2,ex3];rw[ex3] at ho hd;refine⟨⟨k.hB,by rw[ex2];exact ip,s3 ho qd,hrc,⟨xs,s3 m1 qd,m2⟩,s3 q.stk qd,s3 q.ran qd,s3 q.held qd,⟨g,p,ex3.symm⟩,hd,k.kn,k.ne⟩,?_⟩;refine⟨(((hb.mono fy).setCell (p:=⟨h,2,none⟩) k.hB _).setCell (p:=⟨h,3,none⟩) k.hB _).setCell (p:=⟨h,4,none⟩) k.hB _,fun b hl hx=>?_,fun b hx=>Or.inl hx⟩;have hne:b≠h:=fun e=>hx (Or.inl e);rw[hC _ ⟨h,4,none⟩ _ b hne,hC _ ⟨h,3,none⟩ _ b hne,hC _ ⟨h,2,none⟩ _ b hne];exact hb.block b hl
theorem Cz.set1 (h:Cz B X X' w w') (hb:w.heap.size<=b) (hB:B<=b) (j:Nat) (u:Value):Cz B X X' w (w'.setCell ⟨b,j,none⟩ u):=
  ⟨h.bel.setCell (p:=⟨b,j,none⟩) hB u,fun c hc hx=>by rw[hC w' ⟨b,j,none⟩ u c (by show c≠b;omega)];exact h.keep c hc hx,h.new⟩
theorem Cz.set3 (h:Cz B X X' w w') (hb:w.heap.size<=b) (hB:B<=b) (u0 u1 u2:Value):Cz B X X' w (((w'.setCell ⟨b,0,none⟩ u0).setCell ⟨b,1,none⟩ u1).setCell ⟨b,2,none⟩ u2):=((h.set1 hb hB 0 u0).set1 hb hB 1 u1).set1 hb hB 2 u2
theorem Fo.set1 {v:Hv} (k:Fo B h sv tv n w ms s st v) (hb:Dk w b T) (h1:T≠61/\T≠9/\T≠131/\T≠97/\T≠128/\T≠125) (j:Nat) (x:Value):Fo B h sv tv n (w.setCell ⟨b,j,none⟩ x) ms s st v:=by
  obtain⟨a1,a2,a3,a4,a5,a6⟩:=h1;obtain⟨xs,m1,m2⟩:=k.made
  have hne:h≠b:=fun e=>by
    obtain⟨cs,hc⟩:=hb;have:=k.blk;rw[e,hc] at this;injection this with this;injection this with _ h5;exact a1 h5
  exact⟨k.hB,Ez k.blk hne x,Al k.txt hb a2 x,k.rcs.set1 hb a4 a5 a6 x,⟨xs,Al m1 hb a3 x,m2⟩,Al k.stk hb a2 x,Al k.ran hb a2 x,Al k.held hb a2 x,k.txa,k.tk,k.kn,k.ne⟩
theorem Fo.set3 {v:Hv} (k:Fo B h sv tv n w ms s st v) (hb:Dk w b T) (h1:T≠61/\T≠9/\T≠131/\T≠97/\T≠128/\T≠125) (u0 u1 u2:Value):Fo B h sv tv n (((w.setCell ⟨b,0,none⟩ u0).setCell ⟨b,1,none⟩ u1).setCell ⟨b,2,none⟩ u2) ms s st v:=((k.set1 hb h1 0 u0).set1 (hb.set u0) h1 1 u1).set1 ((hb.set u0).set u1) h1 2 u2
end Go.Proofs.YtfgoholldpeabaaGreatDoor
