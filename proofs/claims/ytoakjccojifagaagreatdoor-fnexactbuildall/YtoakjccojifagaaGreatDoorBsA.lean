import Derived.Test.YtoakjccojifagaaGreatDoorBdA
namespace Go.Proofs.YtoakjccojifagaaGreatDoor
open _root_.Go.Proofs.Tryz Go.RowKit Go.Deep
open Value renaming slice->J,string->S
open Option renaming some->M,none->N
open Go renaming Value->Z,World->E
open _root_ renaming List->L,Nat->X
set_option linter.unusedVariables false
set_option linter.unusedSimpArgs false
variable {B b e sz n i cap h m:X} {AM X':X->Prop} {w w':E} {u v nv sv tv:Z} {xs ys:L Z} {ms:Mm} {a:Option Addr} {s:Sb} {st:L By}
structure Dc (B:X) (AM X':X->Prop) (w w':E):Prop where
 bel:Below B w w'
 keep:∀b,b<w.heap.size->¬ AM b->w'.heap[b]?=w.heap[b]?
 new:∀b,X' b->AM b\/w.heap.size<=b
theorem Dc.no(h:Dc B AM X' w w')(hb:b<w.heap.size)(hx:¬ AM b):¬ X' b:=λk=>by
 rcases h.new b k with q|q
 ·exact hx q
 ·omega
theorem Dc.trans{X'':X->Prop}{w1 w2:E}(h:Dc B AM X' w w1)(k:Dc B X' X'' w1 w2):Dc B AM X'' w w2:=by
 have hs:=h.bel.size;refine⟨h.bel.trans k.bel,λb hb hx=>(k.keep b qb (h.no hb hx)).trans (h.keep b hb hx),λb hb=>?_⟩
 rcases k.new b hb with q|q
 ·exact h.new b q
 ·right;omega
theorem Dc.refl(w:E):Dc B AM AM w w:=⟨Below.refl _ _,λ_ _ _=>rfl,λ_ h=>Or.inl h⟩
theorem Dc.of_below(h:Bw w w')(hB:B<=w.heap.size):Dc B AM AM w w':=⟨h.mono hB,λb hb _=>h.block b hb,λ_ h=>Or.inl h⟩
theorem Dc.blk(h:Dc B AM X' w w'){o:Obj}(hb:w.heap[b]?=M o)(hx:¬ AM b):w'.heap[b]?=M o:=(h.keep b (Ag hb) hx).trans hb
theorem Dc.own(h:Dc B AM X' w w'){B':X}(ho:w.ownsRow B' e sz u n xs)(hx:∀b,u.ownBlock=M b->¬ AM b):w'.ownsRow B' e sz u n xs:=Al ho λb e=>h.keep b (ho.lt b e).2 (hx b e)
structure Hv where
 tx:Z
 qv:Z
 mv:Z
 kv:Z
 nv:Z
 ev:Z
def Cj(h:X)(v:Hv)(b:X):Prop:=b=h\/v.qv.ownBlock=M b\/v.mv.ownBlock=M b\/v.kv.ownBlock=M b\/v.nv.ownBlock=M b\/v.ev.ownBlock=M b
def mm(ms:Mm)(i:X):By×Md:=ms.getD i (⟨#[]⟩,⟨0,⟨#[]⟩,[]⟩)
def FilM(ms:Mm)(xs:L Z):Prop:=∀i,i<ms.length->xs[i*5]?=M (S (mm ms i).1)/\xs[i*5+1]?=M (I (mm ms i).2.c)/\xs[i*5+2]?=M (S (mm ms i).2.t)/\xs[i*5+3]?=M nS/\∃r,xs[i*5+4]?=M (I r)
theorem mm_lt{e:By×Md}(h:i<ms.length):mm (ms++[e]) i=mm ms i:=by
 unfold mm;rw[gG,List.getElem?_append_left h,gG]
theorem mm_at(ms:Mm)(e:By×Md):mm (ms++[e]) ms.length=e:=by
 unfold mm;rw[gG,List.getElem?_append_right (Nat.le_refl _)];simp
theorem FilM.snoc(h:FilM ms xs)(hl:xs.length=ms.length*5)(nm:By)(d:Md)(r:Int):FilM (ms++[(nm,d)]) (xs++[S nm,I d.c,S d.t,nS,I r]):=by
 intro i hi;rw[List.length_append,List.length_singleton]at hi
 rcases Nat.lt_or_ge i ms.length with k|k
 ·obtain⟨a,b,c,e,q,f⟩:=h i k
  rw[mm_lt k];refine⟨?_,?_,?_,?_,q,?_⟩<;>rw[List.getElem?_append_left qb]<;>assumption
 ·obtain rfl:i=ms.length:=qb
  rw[mm_at];refine⟨?_,?_,?_,?_,r,?_⟩
  ·rw[List.getElem?_append_right qb,show ms.length*5-xs.length=0 from qb];rfl
  ·rw[List.getElem?_append_right qb,show ms.length*5+1-xs.length=1 from qb];rfl
  ·rw[List.getElem?_append_right qb,show ms.length*5+2-xs.length=2 from qb];rfl
  ·rw[List.getElem?_append_right qb,show ms.length*5+3-xs.length=3 from qb];rfl
  ·rw[List.getElem?_append_right qb,show ms.length*5+4-xs.length=4 from qb];rfl
structure Hp (w:E) (B:X) (v:Z) (R:L T3) (xs:L Z) (cv lv:X->Z):Prop where
 row:w.ownsRow B 95 3 v R.length xs
 fil:∀i,i<R.length->xs[i*3]?=M (cv i)/\xs[i*3+1]?=M (lv i)/\xs[i*3+2]?=M (S (qx R i).out)
 code:∀i,i<R.length->∃ys,w.ownsRow B 139 3 (cv i) (qx R i).code.length ys/\Ct (qx R i).code (qx R i).code.length ys
 look:∀i,i<R.length->∃ys,w.ownsRow B 136 3 (lv i) (qx R i).looks.length ys/\Bn (qx R i).looks (qx R i).looks.length ys
 apc:∀i j,i<j->j<R.length->∀b,(cv i).ownBlock=M b->(cv j).ownBlock≠M b
 apl:∀i j,i<j->j<R.length->∀b,(lv i).ownBlock=M b->(lv j).ownBlock≠M b
def Fx(w:E)(B:X)(v:Z)(R:L T3):Prop:=∃xs cv lv,Hp w B v R xs cv lv
theorem Ax(h:w.ownsRow B e sz v n xs):∃a cap,v=J a n cap:=by
 rcases h.2 with⟨e,h0⟩|⟨g,c,cur,e,_⟩
 ·exact qeb
 ·exact⟨_,c,e⟩
theorem Pw{is:L I3}(h:w.ownsRow B 139 3 v is.length ys)(hf:Ct is is.length ys):∃a cap,v=J a is.length cap/\Ch w a is:=by
 have h':=h
 rcases h.2 with⟨e,h0⟩|⟨g,c,cur,e,_⟩
 ·exact⟨N,0,by rw[e,h0],λi hi=>qb⟩
 ·rw[e]at h'
  exact⟨_,c,e,row3_own rfl h' hf⟩
theorem Gc{T:X}{gs:L G3}(h:w.ownsRow B T 3 v gs.length ys)(hf:Bn gs gs.length ys):∃a cap,v=J a gs.length cap/\Gk w a gs:=by
 have h':=h
 rcases h.2 with⟨e,h0⟩|⟨g,c,cur,e,_⟩
 ·exact⟨N,0,by rw[e,h0],λi hi=>qb⟩
 ·rw[e]at h'
  exact⟨_,c,e,Qbd rfl h' hf⟩
theorem Cv{j:X}(h:w.ownsRow B e sz (J a n cap) n xs)(hj:xs[j]?=M u):∃b,a=p_ b/\w.cell? ⟨b,j,N⟩=M u:=by
 rcases h.2 with⟨e,h0⟩|⟨g,c,cur,e,hg,hh,h1,h2,h3,h4⟩
 ·have:=h.1
  rw[h0,Nat.zero_mul]at this;rw[List.eq_nil_of_length_eq_zero this]at hj;simp at hj
 ·cases e
  refine⟨g,rfl,?_⟩;rw[cH hh,←Array.getElem?_toList];rw[←h4,List.getElem?_take]at hj
  split at hj
  ·exact hj
  ·cases hj
theorem Fx.at{R:L T3}(h:Fx w B (J a R.length cap) R)(hi:i<R.length):∃b ca cc la lc,a=p_ b/\w.cell? ⟨b,i*3,N⟩=M (J ca (qx R i).code.length cc)/\w.cell? ⟨b,i*3+1,N⟩=M (J la (qx R i).looks.length lc)/\w.cell? ⟨b,i*3+2,N⟩=M (S (qx R i).out)/\Ch w ca (qx R i).code/\Gk w la (qx R i).looks:=by
 obtain⟨xs,cv,lv,h⟩:=h;obtain⟨f1,f2,f3⟩:=h.fil i hi;obtain⟨ys,k1,k2⟩:=h.code i hi;obtain⟨zs,l1,l2⟩:=h.look i hi;obtain⟨ca,cc,e1,r1⟩:=Pw k1 k2;obtain⟨la,lc,e2,r2⟩:=Gc l1 l2;rw[e1]at f1;rw[e2]at f2;obtain⟨b,rfl,c1⟩:=Cv h.row f1;obtain⟨b',q,c2⟩:=Cv h.row f2;cases q;obtain⟨b',q,c3⟩:=Cv h.row f3;cases q;exact⟨b,ca,cc,la,lc,rfl,c1,c2,c3,r1,r2⟩
structure Gb (B h:X) (sv tv:Z) (n:X) (w:E) (ms:Mm) (s:Sb) (st:L By) (v:Hv):Prop where
 hB:B<=h
 blk:w.heap[h]?=M (.cells #[sv,tv,I n,v.tx,v.qv,v.mv,v.kv,v.nv,v.ev,.bool false,I 0,ze,nS,I 0,nS,nS,nS,nS,ze,ze] 105 (0,0))
 txt:w.ownsRow B 9 1 v.tx s.T.length (Av s.T)
 rcs:Fx w B v.qv s.R
 made:∃xs,w.ownsRow B 166 5 v.mv ms.length xs/\FilM ms xs
 stk:w.ownsRow B 9 1 v.kv st.length (Av st)
 ran:w.ownsRow B 9 1 v.nv s.ran.length (Av s.ran)
 held:w.ownsRow B 9 1 v.ev s.held.length (Av s.held)
 txa:∃g p,v.tx=J (p_ g) s.T.length p
 tk:∀b,v.tx.ownBlock=M b->v.kv.ownBlock≠M b/\v.nv.ownBlock≠M b/\v.ev.ownBlock≠M b
 kn:∀b,v.kv.ownBlock=M b->v.nv.ownBlock≠M b/\v.ev.ownBlock≠M b
 ne:∀b,v.nv.ownBlock=M b->v.ev.ownBlock≠M b
def Oh(B:X)(w:E)(b:Gl)(e:L Z):Prop:=
 match b with
 | .circle ch=>∃cv,w.ownsRow B 9 1 cv ch.length (Av ch)/\e=[I 6,ze,cv,I 0,nS,nS,nS,nS,ze,ze]
 | .deep nm=>e=[I 7,S nm,nS,I 0,nS,nS,nS,nS,ze,ze]
 | .clash A B=>e=[I 10,ze,nS,I 0,nS,nS,nS,nS,S A,S B]
 | .full=>e=[I 11,ze,nS,I 0,nS,nS,nS,nS,ze,ze]
def Ja:Gl->Int
 | .circle _=>6
 | .deep _=>7
 | .clash _ _=>10
 | .full=>11
def Zh(h:X)(nv:Z)(b:X):Prop:=b=h\/nv.ownBlock=M b
def DeadR(B k:X)(nv:Z)(w:E)(pre e:L Z):Prop:=pre[7]?=M nv/\(∃xs:L By,w.ownsRow B 9 1 nv xs.length (Av xs)/\xs.length+k<=1000)/\∀u b,e[2]?=M u->u.ownBlock=M b->nv.ownBlock≠M b
def Fz(B h k:X)(nv:Z)(w:E)(b:Gl):Prop:=∃pre e,pre.length=9/\w.heap[h]?=M (.cells ((pre++[Value.bool true]++e).toArray) 105 (0,0))/\Oh B w b e/\DeadR B k nv w pre e
theorem Oh.code{b:Gl}{e:L Z}(h:Oh B w b e):e.length=10/\e[0]?=M (I (Ja b)):=by
 cases b with
 | circle ch=>obtain⟨cv,_,rfl⟩:=h;exact⟨rfl,rfl⟩
 | deep nm=>cases h;exact⟨rfl,rfl⟩
 | clash A B=>cases h;exact⟨rfl,rfl⟩
 | full=>cases h;exact⟨rfl,rfl⟩
theorem Fz.cells{b:Gl}(k:Fz B h m nv w b):w.cell? ⟨h,9,N⟩=M (.bool true)/\w.cell? ⟨h,10,N⟩=M (I (Ja b))/\h<w.heap.size:=by
 obtain⟨pre,e,hl,hb,he,_⟩:=k;obtain⟨e1,e2⟩:=he.code;refine⟨?_,?_,Ag hb⟩
 ·rw[cH hb]
  simp[List.getElem?_append,hl]
 ·rw[cH hb]
  simp[List.getElem?_append,hl,e2]
theorem Fz.frx{b:Gl}(k:Fz B h m nv w b)(hb:Bw w w'):Fz B h m nv w' b:=by
 obtain⟨pre,e,hl,hk,he,d1,⟨xs,d2,d4⟩,d3⟩:=k;refine⟨pre,e,hl,Af hk hb,?_,d1,⟨xs,Ac d2 hb,d4⟩,d3⟩
 cases b with
 | circle ch=>obtain⟨cv,h1,h2⟩:=he;exact⟨cv,Ac h1 hb,h2⟩
 | deep nm=>exact he
 | clash A B=>exact he
 | full=>exact he
theorem Gb.bl{v:Hv}(k:Gb B h sv tv n w ms s st v)(hb:Bw w w'):Gb B h sv tv n w' ms s st v:=by
 obtain⟨xs,m1,m2⟩:=k.made;refine⟨k.hB,Af k.blk hb,Ac k.txt hb,?_,⟨xs,Ac m1 hb,m2⟩,Ac k.stk hb,Ac k.ran hb,Ac k.held hb,k.txa,k.tk,k.kn,k.ne⟩;obtain⟨xs,cv,lv,r⟩:=k.rcs;exact⟨xs,cv,lv,Ac r.row hb,r.fil,λi hi=>by obtain⟨ys,a,b⟩:=r.code i hi;exact⟨ys,Ac a hb,b⟩,λi hi=>by obtain⟨ys,a,b⟩:=r.look i hi;exact⟨ys,Ac a hb,b⟩,r.apc,r.apl⟩
theorem Gb.not{v:Hv}(k:Gb B h sv tv n w ms s st v)(hb:w.heap.size<=b):¬ Cj h v b:=by
 have h0:=Ag k.blk;obtain⟨xs,m1,m2⟩:=k.made;obtain⟨ys,cv,lv,r⟩:=k.rcs;rintro(e|e|e|e|e|e)
 ·omega
 ·have:=(r.row.lt b e).2;omega
 ·have:=(m1.lt b e).2;omega
 ·have:=(k.stk.lt b e).2;omega
 ·have:=(k.ran.lt b e).2;omega
 ·have:=(k.held.lt b e).2;omega
end Go.Proofs.YtoakjccojifagaaGreatDoor
