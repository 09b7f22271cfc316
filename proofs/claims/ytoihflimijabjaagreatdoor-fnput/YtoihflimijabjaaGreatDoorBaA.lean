import Derived.Test.YtoihflimijabjaaGreatDoorBdC
import Derived.Test.YtoihflimijabjaaGreatDoorBsT
import Derived.Test.YtoihflimijabjaaGreatDoorBsU
import Derived.Test.YtoihflimijabjaaGreatDoorBtB
namespace Go.Proofs.YtoihflimijabjaaGreatDoor
open Value renaming slice->J,string->S,bool->F,agg->G,pointer->D,tuple->Y
open Option renaming some->M,none->N
open Obj renaming cells->O
open Go renaming Value->Z,World->E
open Ending renaming returned->H
open _root_ renaming List->L,Nat->X
set_option maxHeartbeats 8000000
set_option maxRecDepth 100000
open _root_.Go.Proofs.Tryz Go.RowKit Go.Deep
set_option linter.unusedVariables false
set_option linter.unusedSimpArgs false
variable {B h n k m p:X} {sv tv nw nv:Z} {w3 w':E} {ms:Mm} {s:Sb} {v:Hv} {b:He} {T:L By} {xs:L Z} {x:By} {ls:L G3} {R:L T3} {cv lv:X->Z}
def Uh(n:X)(T:L By)(x:By)(b:He):Prop:=∃r,Oe n T (Ap n x) r/\((∃A B,b=.clash A B/\Hc n T x r 2 T A B)\/(b=.full/\Hc n T x r 3 T ⟨#[]⟩ ⟨#[]⟩))
theorem Fl.fall{w w2:E}{st:L By}(k:Fl B h sv tv n w ms s st v)(hb:Bw w w2)(aj:B<=w.heap.size)(h3:Below h w2 w3)(hk:∀b,b<w2.heap.size->b≠h->w3.heap[b]?=w2.heap[b]?):Cp B (Bs h v) (Vd h v.nv) w w3:=by
 have hs:=hb.size;exact⟨(hb.mono aj).trans (h3.mono k.hB),λb hl hx=>(hk b qg (λe=>hx (Or.inl e))).trans (hb.block b hl),λb q=>Or.inl (by rcases q with q|q;exact Or.inl q;exact Or.inr (Or.inr (Or.inr (Or.inr (Or.inl q)))))⟩
theorem Fl.dead{w:E}{st:L By}(k:Fl B h sv tv n w ms s st v)(hk:∀b,b<w.heap.size->b≠h->w3.heap[b]?=w.heap[b]?)(e:L Z)(kt:w3.heap[h]?=M (O (([sv,tv,I n,v.tx,v.qv,v.mv,v.kv,v.nv,v.ev]++[Value.bool true]++e).toArray) 120 (0,0)))(he:Jd B w3 b e)(ha:∀u b,e[2]?=M u->u.ownBlock=M b->v.nv.ownBlock≠M b)(hr:s.ran.length+st.length<=1000):Fk B h st.length v.nv w3 b:=
 ⟨_,e,rfl,kt,he,rfl,⟨s.ran,Cc k.ran (λb q=>hk b (k.ran.lt b q).2 (λe=>Ah k.ran qh k.blk (by rw[←e];exact q))),hr⟩,ha⟩
theorem noOwn{cs:L Z}(hc:cs[2]?=M nS)(nv:Z):∀u b,cs[2]?=M u->u.ownBlock=M b->nv.ownBlock≠M b:=λu b h q=>by
 rw[hc]at h;cases h;cases q
theorem shopPut(B h n:X)(sv tv:Z)(ms:Mm)(s:Sb)(st:L By)(v:Hv)(x:By)(w:E)(hs:Fl B h sv tv n w ms s st v)(hB:B<=w.heap.size)(h1:1<=n)(h8:n<=8)(cm:Yd n s.T)(hx:x.size<=2002)(hrn:s.ran.length+st.length<=1000):Calls prog 108 #[D (p_ h),S x] w λe w'=>(e=H (F true)/\∃T' v',(∃r,Oe n s.T (Ap n x) r/\Hc n s.T x r 0 T' ⟨#[]⟩ ⟨#[]⟩)/\Cp B (Bs h v) (Bs h v') w w'/\Fl B h sv tv n w' ms ⟨T',s.R,s.ran,s.held⟩ st v')\/(e=H (F false)/\∃b nv,Uh n s.T x b/\Cp B (Bs h v) (Vd h nv) w w'/\Fk B h st.length nv w' b):=by
 obtain⟨g1,p1,etx⟩:=hs.txa;obtain⟨a2,p2,eqv⟩:∃a cap,v.qv=J a s.R.length cap:=by obtain⟨xs,cv,lv,r⟩:=hs.rcs;exact Ax r.row
 have HX:Hd (w.ownsRow B 9 1 (J (p_ g1) s.T.length p1) s.T.length (s.T.map Value.string)):=by have:=hs.txt;rw[etx]at this;exact this
 have k2:=cK hs.blk 2;have k3:w.cell? ⟨h,3,N⟩=M (J (p_ g1) s.T.length p1):=by rw[cH hs.blk,←etx];rfl
 have k4:w.cell? ⟨h,4,N⟩=M (J a2 s.R.length p2):=by rw[cH hs.blk,←eqv];rfl
 have HS:=Ad hs;have HE:=Ad (And.intro etx eqv);clear hs etx eqv;go_enter func108,ntmps108;go_wp2_with fail;refine(l4Put_b n B g1 p1 a2 _ p2 s.T x w HX.o hB h1 h8 cm hx).mono ?_;rintro e w1 ⟨ah,r,cd,T',A,B',hp,hr,hcs⟩;have pe:=Ad hp;have xy:=Ad (HS.o.bl ah);have pg:=Ad ah;clear hp k2 k3 k4
 rcases hcs with⟨aq,rfl⟩|⟨rfl,rfl,rfl,g,p,rfl,ho,hg⟩
 ·go_upto_region 2 with fail
  obtain⟨P,eP⟩:=Aj w1.heap.size;obtain⟨w2,e2⟩:=Aj (w1.alloc (O #[I cd,I 0,nS,nS,S A,S B'] 31));(have ke:Hd (Bw w1 w2):=by show Below _ _ _;rw[←e2];exact aN _ _);(have HK:w2.heap[P]?=M (O #[I cd,I 0,nS,nS,S A,S B'] 31 (0,0)):=by rw[←e2,←eP];exact Am _ _);rw[e2,eP];clear e2;have fo:=Ad (xy.o.bl ke.o);obtain⟨c0,c1,c2,c3,c4,c5⟩:=Bx HK;clear HK
  have pw:(cd=2/\Hc n s.T x r 2 s.T A B')\/(cd=3/\A=⟨#[]⟩/\B'=⟨#[]⟩/\Hc n s.T x r 3 s.T ⟨#[]⟩ ⟨#[]⟩):=by
   rcases hr with⟨a,b,rfl,rfl,rfl,rfl⟩|⟨a,b,rfl,rfl,rfl,rfl⟩|⟨a,b,rfl,rfl,rfl,rfl⟩|⟨a,b,rfl,rfl,rfl,rfl⟩
   ·exact Or.inl ⟨rfl,Or.inl ⟨a,b,rfl,rfl,rfl,rfl⟩⟩
   ·exact absurd rfl aq
   ·exact Or.inr ⟨rfl,rfl,rfl,Or.inr (Or.inr (Or.inl ⟨a,b,rfl,rfl,rfl,rfl⟩))⟩
   ·exact absurd rfl aq
  clear hr aq
  rcases pw with⟨rfl,hr⟩|⟨rfl,rfl,rfl,hr⟩
  ·have HF:Hd (Uh n s.T x (.clash A B')):=⟨r,pe.o,Or.inl ⟨A,B',rfl,hr⟩⟩
   clear hr;go_wp2_with fail;clear eP c0 c1 c2 c3 c4 c5;refine(Kx h _ _ _ _ _ _ _ _ _ _ _ _ _ _ _ _ _ _ _ 10 ⟨#[]⟩ A B' N 0 0 w2 fo.o.blk).mono ?_;rintro e w3 ⟨rfl,bh,o7,kt⟩;have fk:=Ad (HS.o.fall (bt pg.o ke.o) hB bh o7);have HD:Hd (Fk B h st.length v.nv w3 (.clash A B')):=fo.o.dead o7 [I 10,ze,nS,I 0,nS,nS,nS,nS,S A,S B'] kt rfl (noOwn rfl _) hrn;exact qkx
  ·have HF:Hd (Uh n s.T x .full):=⟨r,pe.o,Or.inr ⟨rfl,hr⟩⟩
   clear hr;go_wp2_with fail;clear eP c0 c1 c2 c3 c4 c5;refine(Kx h _ _ _ _ _ _ _ _ _ _ _ _ _ _ _ _ _ _ _ 11 ⟨#[]⟩ ⟨#[]⟩ ⟨#[]⟩ N 0 0 w2 fo.o.blk).mono ?_;rintro e w3 ⟨rfl,bh,o7,kt⟩;have fk:=Ad (HS.o.fall (bt pg.o ke.o) hB bh o7);have HD:Hd (Fk B h st.length v.nv w3 .full):=fo.o.dead o7 [I 11,ze,nS,I 0,nS,nS,nS,nS,ze,ze] kt rfl (noOwn rfl _) hrn;exact qkx
 ·have HR:Hd (Hc n s.T x r 0 T' ⟨#[]⟩ ⟨#[]⟩):=hr
  go_upto_region 2 with fail
  obtain⟨P,eP⟩:=Aj w1.heap.size;obtain⟨w2,e2⟩:=Aj (w1.alloc (O #[I 0,I (n:Int),J (p_ g) T'.length p,J a2 s.R.length p2,ze,ze] 31));(have ke:Hd (Bw w1 w2):=by show Below _ _ _;rw[←e2];exact aN _ _);(have HK:w2.heap[P]?=M (O #[I 0,I (n:Int),J (p_ g) T'.length p,J a2 s.R.length p2,ze,ze] 31 (0,0)):=by rw[←e2,←eP];exact Am _ _);rw[e2,eP];clear e2;have fo:=Ad (xy.o.bl ke.o);have HB12:=Ad (bt pg.o ke.o);have HG:=Ad (HS.o.setTx hB HB12.o (Ae ho ke.o) (by rw[HE.o.1];rcases hg with q|q;exact Or.inl (by rw[q];rfl);exact Or.inr q));obtain⟨c0,c1,c2,c3,c4,c5⟩:=Bx HK;obtain⟨-,-,k2,k3,k4⟩:=ck5 fo.o.blk;have kf:=fZ fo.o.blk;have hPh:P≠h:=zo (Bq xy.o.blk);clear hr ho hg HK;rw[HE.o.2]at HG;go_wp2_with fail;go_ret;exact Or.inl ⟨rfl,T',_,⟨r,pe.o,HR.o⟩,HG.o.2,HG.o.1⟩
theorem Fd.app{xs T1:L By}{a:Option He}(h:Fd n T xs T1 a):a=N->∀ {ys T2 a2},Fd n T1 ys T2 a2->Fd n T (xs++ys) T2 a2:=by
 induction h with
 | nil=>intro _ ys T2 a2 k;exact k
 | go h1 h2 _ ih=>intro e ys T2 a2 k;exact .go h1 h2 (ih e k)
 | clash=>intro e;cases e
 | full=>intro e;cases e
theorem Fd.one{T':L By}(h:∃r,Oe n T (Ap n x) r/\Hc n T x r 0 T' ⟨#[]⟩ ⟨#[]⟩):Fd n T [x] T' N:=by
 obtain⟨r,h1,h2⟩:=h;exact .go h1 h2 .nil
theorem Uh.put(h:Uh n T x b)(ys:L By):Fd n T (x::ys) T (M b):=by
 obtain⟨r,h1,⟨A,B,rfl,h2⟩|⟨rfl,h2⟩⟩:=h
 ·exact .clash h1 h2
 ·exact .full h1 h2
theorem Uf(ls:L G3)(g:G3):Kq (ls++[g])=Kq ls++(if g.ask=true then [g.sum] else []):=by
 unfold Kq;rw[List.filter_append,List.map_append]
 cases hg:g.ask<;>simp[hg]
theorem Un(h:k<ls.length):ls.take (k+1)=ls.take k++[gx ls k]:=by
 unfold gx;rw[List.take_add_one,gQ h,gG,gQ h];rfl
theorem askT_take(h:k<ls.length):∃ys,Kq ls=Kq (ls.take k)++((if (gx ls k).ask=true then [(gx ls k).sum] else [])++ys):=by
 refine⟨Kq (ls.drop (k+1)),?_⟩;have:ls=ls.take (k+1)++ls.drop (k+1):=(List.take_append_drop _ _).symm
 conv=>lhs;rw[this]
 unfold Kq;rw[List.filter_append,List.map_append,Un h,List.filter_append,List.map_append,List.append_assoc]
 cases hg:(gx ls k).ask<;>simp[hg]
theorem Tryz.info97x:(prog.info? 56).map (λi=>(i.zero,i.size,i.bytes))=M (M (G #[nS,nS,ze]),3,64):=qk
theorem Qz{s x:Operand}{W:E}{ops:Array Oper}{o:Oper}{a:Act}{K:Act->E->Prop}{Q:Exit->Act->E->Prop}{AG:Prop}(mg:o.guard=N)(ho:o.op=.call { callee:=.builtin .append,args:=#[s,x],argTypes:=#[24,24] })(B:X)(v:Z)(nn:X)(xs:L Z)(hs:a.eval s=v)(ak:W.ownsRow B 56 3 v nn xs)(d:X)(u0 u1 u2:Z)(hx:a.eval x=J (p_ d) 1 1)(hc:W.heap[d]?=M (O #[u0,u1,u2] 56 (0,0)))(h1:∀u∈[u0,u1,u2],u.oneCell'=true)(hB:B<=W.heap.size)(hn:nn<=10000)(h:∀g' ai w',w'.ownsRow B 56 3 (J (p_ g') (nn+1) ai) (nn+1) (xs++[u0,u1,u2])->W.grownBy w' v.ownBlock->(v.ownBlock=M g'\/g'=W.heap.size)->K (a.put o.dst (J (p_ g') (nn+1) ai)) w'):if Region.wanted o (yielded ops a.tmps)=true then Oper.wp prog o a W K Q else AG:=by
 obtain⟨i0,hi,bm,bg,bi⟩:=info_parts Tryz.info97x
 refine step_append_lies (w:=W) mg s x 24 ho B 56 i0 (G #[nS,nS,ze]) 3 64 underlying24 hi bm bg bi rfl qh _ nn xs hs ak ⟨d,0,N⟩ 1 1 [u0,u1,u2] hx rfl
  (World.news_of_block (cs:=#[u0,u1,u2]) (t:=56) (fr:=(0,0)) hc) h1 qg qn qg hB W.heap.size rfl ?_
 exact qcy
theorem qx_lt{r:T3}{i:X}(h:i<R.length):qx (R++[r]) i=qx R i:=by
 unfold qx;rw[gG,List.getElem?_append_left h,gG]
theorem qx_at(R:L T3)(r:T3):qx (R++[r]) R.length=r:=by
 unfold qx;rw[gG,List.getElem?_append_right (Nat.le_refl _)];simp
theorem Oc.add{w:E}{v c d:Z}{rec:T3}{cs:Array Z}(r:Oc w B v R xs cv lv)(hg:w.grownBy w' v.ownBlock)(ho:w'.ownsRow B 56 3 nw (R.length+1) (xs++[c,d,S rec.out])){zs us:L Z}(h1:w.ownsRow B 103 3 c rec.code.length zs)(h2:Cf rec.code rec.code.length zs)(h3:w.ownsRow B 79 3 d rec.looks.length us)(h4:Be rec.looks rec.looks.length us)(hc:∀i,i<R.length->∀b,(cv i).ownBlock=M b->c.ownBlock≠M b)(hd:∀i,i<R.length->∀b,(lv i).ownBlock=M b->d.ownBlock≠M b)(hb:w'.heap[h]?=M (O cs 120 (0,0)))(x:Z):Gr (w'.setCell ⟨h,4,N⟩ x) B nw (R++[rec]):=by
 have ht:Ai w' h 120:=⟨_,hb⟩;have pi:xs.length=R.length*3:=r.row.1;have ne:∀ {e sz n:X} {u:Z} {ys:L Z},w.ownsRow B e sz u n ys->e≠56->∀b,u.ownBlock=M b->v.ownBlock≠M b:=λq he=>apart q r.row he;refine⟨_,λi=>if i<R.length then cv i else c,λi=>if i<R.length then lv i else d,by rw[List.length_append];exact Ak ho ht qh x,λi hi=>?_,λi hi=>?_,λi hi=>?_,λi j l7 hj b e=>?_,λi j l7 hj b e=>?_⟩
 ·rw[List.length_append,List.length_singleton]at hi
  rcases Nat.lt_or_ge i R.length with k|k
  ·obtain⟨a,b,e⟩:=r.fil i k
   rw[if_pos k,if_pos k,qx_lt k];refine⟨?_,?_,?_⟩<;>rw[List.getElem?_append_left qg]<;>assumption
  ·obtain rfl:i=R.length:=qg
   rw[if_neg qg,if_neg qg,qx_at];refine⟨?_,?_,?_⟩
   ·rw[List.getElem?_append_right qg,show R.length*3-xs.length=0 from qg];rfl
   ·rw[List.getElem?_append_right qg,show R.length*3+1-xs.length=1 from qg];rfl
   ·rw[List.getElem?_append_right qg,show R.length*3+2-xs.length=2 from qg];rfl
 ·rw[List.length_append,List.length_singleton]at hi
  rcases Nat.lt_or_ge i R.length with k|k
  ·obtain⟨ys,a,b⟩:=r.code i k
   show ∃ys,World.ownsRow _ _ _ _ (if i<R.length then cv i else c) _ _/\_;exact qlg
  ·obtain rfl:i=R.length:=qg
   show ∃ys,World.ownsRow _ _ _ _ (if R.length<R.length then cv R.length else c) _ _/\_;rw[if_neg qg,qx_at];exact⟨zs,Cw h1 hg (ne h1 qh) hb qh,h2⟩
 ·rw[List.length_append,List.length_singleton]at hi
  rcases Nat.lt_or_ge i R.length with k|k
  ·obtain⟨ys,a,b⟩:=r.look i k
   show ∃ys,World.ownsRow _ _ _ _ (if i<R.length then lv i else d) _ _/\_;exact qlg
  ·obtain rfl:i=R.length:=qg
   show ∃ys,World.ownsRow _ _ _ _ (if R.length<R.length then lv R.length else d) _ _/\_;rw[if_neg qg,qx_at];exact⟨us,Cw h3 hg (ne h3 qh) hb qh,h4⟩
 ·rw[List.length_append,List.length_singleton]at hj
  have hi:i<R.length:=qg;simp only[if_pos hi]at e
  rcases Nat.lt_or_ge j R.length with k|k
  ·simp only[if_pos k];exact r.apc i j l7 k b e
  ·simp only[if_neg (show ¬ j<R.length from qg)];exact hc i hi b e
 ·rw[List.length_append,List.length_singleton]at hj
  have hi:i<R.length:=qg;simp only[if_pos hi]at e
  rcases Nat.lt_or_ge j R.length with k|k
  ·simp only[if_pos k];exact r.apl i j l7 k b e
  ·simp only[if_neg (show ¬ j<R.length from qg)];exact hd i hi b e
theorem Fl.growQ{w:E}{st:L By}(k:Fl B h sv tv n w ms s st v)(aj:B<=w.heap.size){R':L T3}(hq:w.ownsRow B 56 3 v.qv s.R.length xs)(hg:w.grownBy w' v.qv.ownBlock)(br:∀b,nw.ownBlock=M b->v.qv.ownBlock=M b\/w.heap.size<=b)(hr:Gr (w'.setCell ⟨h,4,N⟩ nw) B nw R'):Fl B h sv tv n (w'.setCell ⟨h,4,N⟩ nw) ms ⟨s.T,R',s.ran,s.held⟩ st ⟨v.tx,nw,v.mv,v.kv,v.nv,v.ev⟩/\Cp B (Bs h v) (Bs h ⟨v.tx,nw,v.mv,v.kv,v.nv,v.ev⟩) w (w'.setCell ⟨h,4,N⟩ nw):=by
 obtain⟨ys,m1,m2⟩:=k.made;have hh:v.qv.ownBlock≠M h:=Ah hq qh k.blk;have hb:w'.heap[h]?=_:=Ao k.blk hg hh;have gy:=Ej hb 4 nw;simp only[List.setIfInBounds_toArray,List.set_cons_zero,List.set_cons_succ]at gy;refine⟨⟨k.hB,gy,Cw k.txt hg (apart k.txt hq qh) hb qh,hr,⟨ys,Cw m1 hg (apart m1 hq qh) hb qh,m2⟩,Cw k.stk hg (apart k.stk hq qh) hb qh,Cw k.ran hg (apart k.ran hq qh) hb qh,Cw k.held hg (apart k.held hq qh) hb qh,k.txa,k.tk,k.kn,k.ne⟩,?_⟩;refine⟨((Below.refl B w).grown hg aj (λj q=>(hq.lt j q).1)).setCell (p:=⟨h,4,N⟩) k.hB _,λb di hx=>?_,λb hx=>?_⟩
 ·rw[hC w' ⟨h,4,N⟩ _ b (λe=>hx (Or.inl e)),hg.block b di (λq=>hx (Or.inr (Or.inl q.symm)))]
 ·rcases hx with q|q|q
  ·exact Or.inl (Or.inl q)
  ·rcases br b q with q|q;exact Or.inl (Or.inr (Or.inl q));exact Or.inr q
  ·exact Or.inl (Or.inr (Or.inr q))
theorem Ca.one{ss:L S2}{ts:L T2}(hv:SpV ss ts)(hl:ts.length≤200){nm:By}{ms':Mm}{s':Sb}{d:Md}(hs:Ka n s)(hn:Ay nm)(h:Ca ss ts n [] s [] (.make nm) ms' s' (.ok d)):Ka n s'∧s'.ran.length+s'.held.length≤s.ran.length+s.held.length+200∧d.c≤5:=by
 obtain⟨i1,i2,_,i4⟩:=Ca.inv hv h (Fj.nil ss ts) hs hn (λb q=>qz);have hc:=Ca.cnt (s.ran.length+s.held.length) hv h (Fj.nil ss ts) hs hn (λb q=>qz) 0 qg;have h4:=My ts ms' [];simp only[Tm]at hc;exact⟨i2,qg,(i1.done nm _ i4).c5⟩
theorem Oh.row{w:E}{a:Option Addr}{is:L I3}(h:Oh B w a is):Dl w a is:=h.1
def NoteE(B h n:X)(sv tv:Z)(ms:Mm)(s:Sb)(st:L By)(v:Hv)(is:L I3)(ls:L G3)(c:Int)(t:By)(w:E)(e:Ending)(w':E):Prop:=
 (∃s' v' r,Gv n s is ls c t s' N/\e=H (Y #[G #[I c,S t,nS],I r])/\0<=r/\Cp B (Bs h v) (Bs h v') w w'/\Fl B h sv tv n w' ms s' st v')\/
 (∃s' b nv,Gv n s is ls c t s' (M b)/\e=H (Y #[G #[I 0,ze,nS],I (-1)])/\Cp B (Bs h v) (Vd h nv) w w'/\Fk B h st.length nv w' b)
theorem Uv{c:Int}{t:By}(h0:0<=c)(h5:c<=5)(ht:t.size<=2000)(a:Option Addr)(cap:X)(w:E):Calls prog 106 #[G #[I c,S t,J a 0 cap]] w λe w'=>e=H (S (Co c t))/\Bw w w':=by
 obtain⟨m,rfl⟩:=Int.eq_ofNat_of_zero_le h0;exact Nb m t a cap w qg ht
theorem formB_ne(c:Int)(t:By):Co c t≠⟨#[]⟩:=λh=>by
 have:(Co c t).size=0:=by rw[h];rfl
 unfold Co at this;rw[ByteArray.size_append,ByteArray.size_append]at this;have e:(⟨#[58]⟩:By).size=1:=rfl;omega
theorem gx_name(h:Qm ls)(i:X):(gx ls i).name.size<=9223372036854775807:=by
 rcases Nat.lt_or_ge i ls.length with k|k
 ·have:=(h _ (Rx k)).1.2.1;omega
 ·unfold gx;rw[gG,List.getElem?_eq_none k];show 0≤_;omega
theorem Oc.bl{w:E}{v:Z}(r:Oc w B v R xs cv lv)(hb:Bw w w'):Oc w' B v R xs cv lv:=
 ⟨Ae r.row hb,r.fil,λi hi=>by obtain⟨ys,a,b⟩:=r.code i hi;exact⟨ys,Ae a hb,b⟩,λi hi=>by obtain⟨ys,a,b⟩:=r.look i hi;exact⟨ys,Ae a hb,b⟩,r.apc,r.apl⟩
theorem Fk.set1{w:E}(k:Fk B h m nv w b){T:X}(hp:Ai w p T)(h1:T≠120)(h2:T≠9)(j:X)(x:Z):Fk B h m nv (w.setCell ⟨p,j,N⟩ x) b:=by
 obtain⟨pre,e,hl,hk,he,d1,⟨xs,d2,d4⟩,d3⟩:=k
 have aq:h≠p:=λq=>by
  obtain⟨cs,hc⟩:=hp;rw[q,hc]at hk;injection hk with hk;injection hk with _ h5;exact h1 h5
 refine⟨pre,e,hl,Af hk aq x,?_,d1,⟨xs,Ak d2 hp h2 x,d4⟩,d3⟩
 cases b with
 | circle ch=>obtain⟨cv,a,b⟩:=he;exact⟨cv,Ak a hp h2 x,b⟩
 | deep nm=>exact he
 | clash A B=>exact he
 | full=>exact he
theorem Fk.set3{w:E}(k:Fk B h m nv w b){T:X}(hp:Ai w p T)(h1:T≠120)(h2:T≠9)(u0 u1 u2:Z):Fk B h m nv (((w.setCell ⟨p,0,N⟩ u0).setCell ⟨p,1,N⟩ u1).setCell ⟨p,2,N⟩ u2) b:=((k.set1 hp h1 h2 0 u0).set1 (hp.set u0) h1 h2 1 u1).set1 ((hp.set u0).set u1) h1 h2 2 u2
theorem shopNote(B h n:X)(sv tv:Z)(ms:Mm)(s:Sb)(st:L By)(v:Hv)(a la:Option Addr)(ac lc:X)(is:L I3)(ls:L G3)(xs:L Z)(c:Int)(t:By)(w:E)(hs:Fl B h sv tv n w ms s st v)(hB:B<=w.heap.size)(h1:1<=n)(h8:n<=8)(cm:Ka n s)(gn:Oh B w a is)(hp:Aq is=true)(hx:∀i,(ix is i).text.size<=9223372036854775807)(hl:w.ownsRow B 160 3 (J la ls.length lc) ls.length xs)(hf:Be ls ls.length xs)(gz:∀b,(Value.slice la ls.length lc).ownBlock=M b->¬ Bs h v b)(hle:ls.length<=200)(hls:Qm ls)(c0:0<=c)(c5:c<=5)(ht:t.size<=2000)(hrn:s.ran.length+st.length<=1000):Calls prog 104 #[D (p_ h),G #[J a is.length ac],J la ls.length lc,G #[I c,S t,nS]] w λe w'=>NoteE B h n sv tv ms s st v is ls c t w e w':=by
 obtain⟨W,eW⟩:=Aj (((w.alloc (O #[J a is.length ac] 53)).alloc (O #[I c,S t,nS] 134)).alloc (O #[I 0,ze,nS] 134));have HW:Hd (Bw w W):=by show Below _ _ _;rw[←eW];exact((aN _ _).alloc qi _).alloc qj _
 obtain⟨Q,eQ⟩:=Aj w.heap.size;have HP0:Hd (W.heap[Q]?=M (O #[J a is.length ac] 53 (0,0))):=by show _=_;rw[←eW,←eQ];exact Rm (Rm (Ma _ _))
 have yb:Hd (W.heap[Q+1]?=M (O #[I c,S t,nS] 134 (0,0))):=by
  show _=_;rw[←eW,←eQ];have:=Ma (w.alloc (O #[J a is.length ac] 53)) (O #[I c,S t,nS] 134);rw[show(w.alloc (O #[J a is.length ac] 53)).heap.size=w.heap.size+1 from qi]at this;exact Rm this
 have lm:Hd (W.heap[Q+2]?=M (O #[I 0,ze,nS] 134 (0,0))):=by
  show _=_;rw[←eW,←eQ];have:=Ma ((w.alloc (O #[J a is.length ac] 53)).alloc (O #[I c,S t,nS] 134)) (O #[I 0,ze,nS] 134)
  rwa [show((w.alloc (O #[J a is.length ac] 53)).alloc (O #[I c,S t,nS] 134)).heap.size=w.heap.size+2 from qi]at this
 have HN:Hd (∀b,Q<=b->¬ Bs h v b):=λb hb=>hs.not qg;have ue:Hd (Cp B (Bs h v) (Bs h v) w W):=Cp.of_below HW.o hB;have Id:=Ad (hs.bl HW.o);have HHB:=Ad hs.hB;have HLW:=Ad (Ae hl HW.o);have HFL:=Ad hf;have wz:=Ad gz;have HCW:=Ad (gn.belowB (HW.o.mono hB));have uw:B<=W.heap.size:=Nat.le_trans hB HW.o.size;have In:=Ad hls;have im:=Ad cm;have X5:=Ad hp;have HIX:=Ad hx;have A4:=Eo hp;have hW3:Q+2<W.heap.size:=Bq lm.o;clear hs hl hf gz gn hls cm hp hx;obtain⟨m,em⟩:=Aj ls.length;have EM:=Ad em;rw[em]at hle ⊢;clear em;go_enter func104,ntmps104;go_wp2_with fail
 try rw[eQ]
 clear eW
 go_loopw [10] (λi wr=>∃(k:X)(U:L By)(v':Hv),k<=m/\i=I k/\Hd (Fd n s.T (Kq (ls.take k)) U N)/\Hd (Yd n U)/\Hd (Cp B (Bs h v) (Bs h v') W wr)/\Hd (Fl B h sv tv n wr ms ⟨U,s.R,s.ran,s.held⟩ st v')) (λi _=>m-(intOf i).toNat)
 case atStart=>exact⟨0,s.T,v,Nat.zero_le _,rfl,.nil,im.o.1,Cp.refl _,Id⟩
 case round=>
  obtain⟨k,U,v',hk,rfl,HPA,jl,fk,HS⟩:=hrel;have bo:B<=wr.heap.size:=Nat.le_trans uw fk.o.bel.size;have L7:=Ad (fk.o.blk lm.o (HN.o _ qg));have zq:Hd (∀b,Q<=b->b<W.heap.size->¬ Bs h v' b):=λb h1 h2=>fk.o.no h2 (HN.o b h1)
  by_cases au:k<m
  ·have gi:(k:Int)<(m:Int):=qg
   have fe:(0:Int)<=(k:Int):=qg;have pq:k<ls.length:=qdq;obtain⟨a2,c2,e2,hrg⟩:=Hl (fk.o.own HLW.o wz.o) HFL.o;rw[EM.o]at e2;cases e2;obtain⟨b,off,rfl,g1,g2,g3⟩:=hrg k pq;have hz:(gx ls k).sum.size<=2002:=(In.o _ (Rx pq)).2;(have HSKIP:Hd ((gx ls k).ask=false->Fd n s.T (Kq (ls.take (k+1))) U N):=λq=>by rw[Un pq,Uf,q];simpa using HPA.o);have HNEXT:Hd ((gx ls k).ask=true->∀U',Fd n U [(gx ls k).sum] U' N->Fd n s.T (Kq (ls.take (k+1))) U' N):=λq U' k=>by rw[Un pq,Uf,q];exact HPA.o.app rfl k
   have HFALL:Hd ((gx ls k).ask=true->∀b,Uh n U (gx ls k).sum b->Fd n s.T (Kq ls++[Co c t]) U (M b)):=λq b k=>by
    obtain⟨ys,ey⟩:=askT_take pq;rw[ey,q,List.append_assoc];exact HPA.o.app rfl (by simpa using k.put (ys++[Co c t]))
   clear hrg;generalize (gx ls k).name=x at *;generalize (gx ls k).sum=z at *;generalize (gx ls k).ask=y at *;cases y
   ·go_wp2_with fail
    go_roundw
    case rel=>exact⟨k+1,U,v',qg,qp,HSKIP.o qaj,jl,fk,HS⟩
    case measure=>simp[intOf];omega
   ·go_wp2_with fail
    refine(shopPut B h n sv tv ms _ st v' z wr HS.o bo h1 h8 jl.o hz hrn).mono ?_;rintro e w1 (⟨rfl,U',v2,vm,cu,dx⟩|⟨rfl,b',nb,hfa,cu,nj⟩)
    ·have lm:=Ad (HNEXT.o qaj U' (Fd.one vm))
     have HT2:Hd (Yd n U'):=(Fd.one vm).ok jl.o (λx hx=>by rw[List.mem_singleton]at hx;rw[hx];exact hz);have dp:=Ad (fk.o.trans cu);have fo:=Ad dx;clear vm cu dx g1 g2 g3;go_wp2_with fail;go_roundw
     case rel=>exact⟨k+1,U',v2,qg,qp,lm,HT2,dp,fo⟩
     case measure=>simp[intOf];omega
    ·have dp:=Ad (fk.o.trans cu)
     have ko:=Ad nj;have dh:=Ad (HFALL.o qaj b' hfa);have ky:=Ad (dp.o.blk lm.o (HN.o _ qg));clear hfa cu nj g1 g2 g3;exact qia
  ·have gi:¬ (k:Int)<(m:Int):=qg
   (have HPA2:Hd (Fd n s.T (Kq ls) U N):=by have:=HPA.o;rwa [List.take_of_length_le (by rw[EM.o];omega)]at this);have kz:=Ad (fk.o.blk yb.o (HN.o _ qg));obtain⟨x0,x1,x2⟩:=Ab kz.o;go_wp2_with fail;clear x0 x1 x2;refine(La c t wr c0 c5 ht).mono ?_;rintro e w0 ⟨rfl,ba⟩;have HFR0:=Ad (fk.o.trans (Cp.of_below ba bo));have xy:=Ad (HS.o.bl ba);have hB0:B<=w0.heap.size:=Nat.le_trans bo ba.size;clear ba kz L7;go_wp2_with fail;refine(shopPut B h n sv tv ms _ st v' (Co c t) w0 xy.o hB0 h1 h8 jl.o (Fc ht) hrn).mono ?_;rintro e w1 (⟨rfl,U',v2,vm,cu,dx⟩|⟨rfl,b',nb,hfa,cu,nj⟩);rotate_left 1
   ·have dp:=Ad (HFR0.o.trans cu)
    have ko:=Ad nj;have dh:Hd (Fd n s.T (Kq ls++[Co c t]) U (M b')):=HPA2.o.app rfl (hfa.put []);have ky:=Ad (dp.o.blk lm.o (HN.o _ qg));clear hfa cu nj;exact qia
   have HPC:Hd (Fd n s.T (Kq ls++[Co c t]) U' N):=HPA2.o.app rfl (Fd.one vm);have dp:=Ad (HFR0.o.trans cu);have fo:=Ad dx;have bp:B<=w1.heap.size:=Nat.le_trans hB0 cu.bel.size;clear vm cu dx HS xy fk HFR0 HPA HPA2 jl;have ky:=Ad (dp.o.blk lm.o (HN.o _ qg));obtain⟨ys,cv,lw,pm⟩:=fo.o.rcs;obtain⟨a2,p2,eqv⟩:=Ax pm.row;replace eqv:v2.qv=J a2 s.R.length p2:=eqv;have k4:w1.cell? ⟨h,4,N⟩=M (J a2 s.R.length p2):=by rw[cH fo.o.blk,←eqv];rfl
   by_cases h2k:2000<=s.R.length
   ·have d2k:decide ((2000:Int)<=(s.R.length:Int))=true:=qj
    have HNR:Hd (Gv n s is ls c t ⟨U',s.R,s.ran,s.held⟩ (M .full)):=.recs HPC.o h2k;clear h2k pm eqv;go_wp2_with fail;clear k4;refine(Kx h _ _ _ _ _ _ _ _ _ _ _ _ _ _ _ _ _ _ _ 11 ⟨#[]⟩ ⟨#[]⟩ ⟨#[]⟩ N 0 0 w1 fo.o.blk).mono ?_;rintro e w3 ⟨rfl,bh,o7,kt⟩;have HF3:=Ad (dp.o.trans (fo.o.fall (Below.refl _ _) bp bh o7));have ko:Hd (Fk B h st.length v2.nv w3 .full):=fo.o.dead o7 [I 11,ze,nS,I 0,nS,nS,nS,nS,ze,ze] kt rfl (noOwn rfl _) hrn;replace ky:=Ad (HF3.o.blk lm.o (HN.o _ qg));replace dp:=HF3;clear bh o7 kt;obtain⟨z0,z1,z2,zf⟩:=Jp ky.o;go_wp2_with fail;obtain⟨y0,y1,y2,_⟩:=Jp (Cx ky.o (I 0) ze nS);exact bR (v:=Y #[G #[I 0,ze,nS],I (-1)]) (by simp[results,results104,go_sem,y0,y1,y2]) rfl (Or.inr ⟨_,_,_,HNR.o,rfl,(ue.o.trans dp.o).set3 qg qg _ _ _,ko.o.set3 ⟨_,ky.o⟩ qh qh _ _ _⟩)
   have d2k:decide ((2000:Int)<=(s.R.length:Int))=false:=qj;have md:Hd (Gv n s is ls c t ⟨U',s.R++[⟨is,ls.map (Mr n),Ap n (Co c t)⟩],s.ran,s.held⟩ N):=.ok HPC.o qg;have HREC:=Ad pm;have EQV:=Ad eqv;clear pm eqv;go_wp2_with fail;clear k4 d2k;have L9:=Ad (dp.o.blk HP0.o (HN.o _ qg));have kz:=Ad (dp.o.blk yb.o (HN.o _ qg));have fb:=Ad (HCW.o.belowB dp.o.bel);have HLR:=Ad (dp.o.own HLW.o wz.o);have l9:B<=w1.heap.size:=bp;refine Lt.begin 20 (λw'=>w'.cell? ⟨h,2,N⟩=M (I n)/\w'.cell? ⟨h,4,N⟩=M (J a2 s.R.length p2)/\w'.heap[Q]?=M (O #[J a is.length ac] 53 (0,0))/\w'.heap[Q+1]?=M (O #[I c,S t,nS] 134 (0,0))) qk ?_;obtain⟨wD,eD⟩:=Aj w1.drew;rw[eD];have ao:Bw w1 wD:=qq;clear eD;replace fo:=Ad (fo.o.bl ao);replace L9:=Ad (Ac L9.o ao);replace kz:=Ad (Ac kz.o ao);replace ky:=Ad (Ac ky.o ao);replace dp:=Ad (dp.o.trans (Cp.of_below ao l9));replace fb:=Ad (fb.o.belowB (Below.mono ao l9));replace HLR:=Ad (Ae HLR.o ao);have aw:(λw'=>w'.cell? ⟨h,2,N⟩=M (I n)/\w'.cell? ⟨h,4,N⟩=M (J a2 s.R.length p2)/\w'.heap[Q]?=M (O #[J a is.length ac] 53 (0,0))/\w'.heap[Q+1]?=M (O #[I c,S t,nS] 134 (0,0))) wD:=⟨qbt,qfh,L9.o,kz.o⟩;replace l9:B<=wD.heap.size:=Nat.le_trans l9 ao.size;change K 0 _
   iterate 14
    refine Lt.ti (v:=?_) aw ?_ ?_;rotate_left 1
    ·exact qka
    simp only[gX]
   refine Lt.sp (i:=14) (λK hK=>?_);go_simp;have U1:=Sv a la N ac lc 0 is ls c t 0 n (Co c t) wD fb.o.1 (by obtain⟨a3,c3,e3,q3⟩:=Hl HLR.o HFL.o;cases e3;exact q3) qg HIX.o (by rw[EM.o];exact hle) (λa cap w=>Uv c0 c5 ht a cap w) X5.o h1 h8 (formB_ne c t) (Fc ht) (λi hi=>by have:=(In.o _ (Rx hi)).2;omega) (λi=>gx_name In.o i);rw[EM.o]at U1;refine U1.mono ?_;rintro e wN ⟨P0,⟨hnn,u1,u2,rfl,hro⟩|⟨⟨i,hi,nh⟩,_⟩⟩;rotate_left 1
   ·exact absurd (In.o _ (Rx (by rw[EM.o];exact hi))).1 nh
   obtain⟨zs,us,q1,q2,q3,q4⟩:=hro;have X4:=Ad q1;have xz:=Ad q2;have HQ3:=Ad q3;have HQ4:=Ad q4;clear q1 q2 q3 q4 hnn U1;have hDN:wD.heap.size<=wN.heap.size:=P0.size;have hBD:=l9;replace fo:=Ad (fo.o.bl P0);replace L9:=Ad (Ac L9.o P0);replace kz:=Ad (Ac kz.o P0);replace ky:=Ad (Ac ky.o P0);replace dp:=Ad (dp.o.trans (Cp.of_below P0 l9));replace fb:=Ad (fb.o.belowB (Below.mono P0 l9));replace HLR:=Ad (Ae HLR.o P0);have bj:(λw'=>w'.cell? ⟨h,2,N⟩=M (I n)/\w'.cell? ⟨h,4,N⟩=M (J a2 s.R.length p2)/\w'.heap[Q]?=M (O #[J a is.length ac] 53 (0,0))/\w'.heap[Q+1]?=M (O #[I c,S t,nS] 134 (0,0))) wN:=⟨qbt,qfh,L9.o,kz.o⟩;replace l9:B<=wN.heap.size:=Nat.le_trans l9 P0.size;refine hK.out _ _ (λ_=>bj) (λ_=>?_);clear hK K 
   try simp only[gX]
   refine Lt.sp (i:=15) (λK hK=>?_);go_simp;obtain⟨ua,uc,eu1⟩:=Ax X4.o;obtain⟨ub,ud,eu2⟩:=Ax HQ3.o;subst eu1;subst eu2;refine Bm (Q:=λx=>K _ x) ?_;intro wL bz HL
   try dsimp only
   obtain⟨dL,edL⟩:=Aj wN.heap.size;rw[edL]at HL ⊢;replace X4:=Ad (Ae X4.o bz);replace HQ3:=Ad (Ae HQ3.o bz);replace fo:=Ad (fo.o.bl bz);replace L9:=Ad (Ac L9.o bz);replace kz:=Ad (Ac kz.o bz);replace ky:=Ad (Ac ky.o bz);replace dp:=Ad (dp.o.trans (Cp.of_below bz l9));replace fb:=Ad (fb.o.belowB (Below.mono bz l9));replace HLR:=Ad (Ae HLR.o bz);have cz:(λw'=>w'.cell? ⟨h,2,N⟩=M (I n)/\w'.cell? ⟨h,4,N⟩=M (J a2 s.R.length p2)/\w'.heap[Q]?=M (O #[J a is.length ac] 53 (0,0))/\w'.heap[Q+1]?=M (O #[I c,S t,nS] 134 (0,0))) wL:=⟨qbt,qfh,L9.o,kz.o⟩;replace l9:B<=wL.heap.size:=Nat.le_trans l9 bz.size;refine hK.out _ _ (λ_=>cz) (λ_=>?_);clear hK K 
   try simp only[gX]
   refine Lt.sp (i:=16) (λK hK=>?_);have zy:=((HREC.o.bl ao).bl P0).bl bz;have hq:=zy.row;rw[EQV.o]at hq;refine Qz rfl qo B (J a2 s.R.length p2) s.R.length ys qo hq dL _ _ _ qo HL.o qcu l9 qg ?_;intro g' ai w7 ak ae br;have hqr:w7.heap[h]?=_:=Ao fo.o.blk ae (Ah hq qh fo.o.blk);rw[←EQV.o]at ae;have D7:=zy.add (rec:=⟨is,ls.map (Mr n),Ap n (Co c t)⟩) ae ak (Al X4.o hBD) xz.o (Al HQ3.o hBD) HQ4.o (λi hi b q1 q2=>by have:=(X4.o.lt b q2).1;obtain⟨ys,r1,_⟩:=HREC.o.code i hi;have:=(r1.lt b q1).2;have:=ao.size;omega) (λi hi b q1 q2=>by have:=(HQ3.o.lt b q2).1;obtain⟨ys,r1,_⟩:=HREC.o.look i hi;have:=(r1.lt b q1).2;have:=ao.size;omega) hqr (J (p_ g') (s.R.length+1) ai)
   have oc:∀b,(Value.slice (p_ g') (s.R.length+1) ai).ownBlock=M b->v2.qv.ownBlock=M b\/wL.heap.size<=b:=λb q=>by
    obtain rfl:g'=b:=qcr
    rcases br with q|q
    ·exact Or.inl (by rw[EQV.o];exact q)
    ·right;omega
   have HG:=Ad (fo.o.growQ l9 zy.row ae oc D7);have I2:=Ad hqr;have hq0:=Ah hq qh L9.o;have jv:=Ah hq qh kz.o;have hq3:=Ah hq qh ky.o;rw[←EQV.o]at hq0 jv hq3;have HR07:=Ad (Ao L9.o ae hq0);have HR17:=Ad (Ao kz.o ae jv);have HR37:=Ad (Ao ky.o ae hq3);have li:(λw'=>w'.cell? ⟨h,2,N⟩=M (I n)/\w'.cell? ⟨h,4,N⟩=M (J a2 s.R.length p2)/\w'.heap[Q]?=M (O #[J a is.length ac] 53 (0,0))/\w'.heap[Q+1]?=M (O #[I c,S t,nS] 134 (0,0))) w7:=⟨(by rw[cH I2.o];rfl),(by rw[cH I2.o,←EQV.o];rfl),HR07.o,HR17.o⟩;refine hK.out _ _ (λ_=>li) (λ_=>?_);clear hK K ae ak D7 zy hq hqr hq0 jv hq3;simp only[gX];refine Lt.sp (i:=17) (λK hK=>?_);go_simp;refine hK.out _ _ (λ_=>li) (λ_=>?_);clear hK K 
   try simp only[gX]
   refine Lt.sp (i:=18) (λK hK=>?_);go_simp;refine hK.out _ _ (λ_=>li) (λ_=>?_);clear hK K 
   try simp only[gX]
   refine Lt.ti (i:=19) (v:=?_) li ?_ ?_;rotate_left 1
   ·exact qka
   simp only[gX];have k4:w7.cell? ⟨h,4,N⟩=M (J a2 s.R.length p2):=li.2.1;have kf:=fZ I2.o;refine Lt.sp (i:=20) (λK hK=>?_);go_simp;refine hK.out _ _ (λh=>absurd rfl h) (λ_=>?_);clear hK K;refine Lt.done qk ?_ _;obtain⟨V,eV⟩:=Aj (w7.setCell ⟨h,4,N⟩ (J (p_ g') (s.R.length+1) ai));rw[eV]at HG ⊢;(have HR1V:V.heap[Q+1]?=M (O #[I c,S t,nS] 134 (0,0)):=by rw[←eV];exact Af HR17.o (λq=>HN.o _ (Nat.le_succ Q) (Or.inl q)) _);(have F5:V.heap[Q+2]?=M (O #[I 0,ze,nS] 134 (0,0)):=by rw[←eV];exact Af HR37.o (λq=>HN.o _ (Nat.le_add_right Q 2) (Or.inl q)) _);have HFV:=Ad (ue.o.trans (dp.o.trans HG.o.2));have HSV:=Ad HG.o.1;clear eV k4 kf li HG I2 HR07 HR17 HR37;have k4:=cK HSV.o.blk 4;obtain⟨x0,x1,x2⟩:=Ab HR1V;obtain⟨z0,z1,z2,zf⟩:=Jp F5;have aq:h≠Q+2:=λq=>HN.o _ (Nat.le_add_right Q 2) (Or.inl q.symm);go_wp2_with fail;have ve:=Ad HR1V;have HV3:=Ad F5;have d9:=Ad k4;clear HR1V F5 k4 x0 x1 x2 z0 z1 z2 zf;refine Lt.begin 9 (λw'=>w'.cell? ⟨h,4,N⟩=M (J (p_ g') (s.R.length+1) ai)/\w'.heap[Q+1]?=M (O #[I c,S t,nS] 134 (0,0))) qk ?_;obtain⟨wE,eD⟩:=Aj V.drew;rw[eD];have ao:Bw V wE:=qq;clear eD;replace ve:=Ad (Ac ve.o ao);replace HV3:=Ad (Ac HV3.o ao);replace d9:=Ad (Aa ao d9.o);replace HSV:=Ad (HSV.o.bl ao);replace HFV:=Ad (HFV.o.trans (Cp.of_below ao (Nat.le_trans hB HFV.o.bel.size)));have aw:(λw'=>w'.cell? ⟨h,4,N⟩=M (J (p_ g') (s.R.length+1) ai)/\w'.heap[Q+1]?=M (O #[I c,S t,nS] 134 (0,0))) wE:=⟨d9.o,ve.o⟩;change K 0 _
   iterate 8
    refine Lt.ti (v:=?_) aw ?_ ?_;rotate_left 1
    ·rintro w ⟨s1,s2⟩
     obtain⟨x0,x1,x2⟩:=Ab s2;go_simp
     first|done|with_reducible rfl
    simp only[gX]
   obtain⟨z0,z1,z2,zf⟩:=Jp HV3.o;refine Lt.sp (i:=8) (λK hK=>?_);go_simp;have fw:(λw'=>w'.cell? ⟨h,4,N⟩=M (J (p_ g') (s.R.length+1) ai)/\w'.heap[Q+1]?=M (O #[I c,S t,nS] 134 (0,0))) (((wE.setCell ⟨Q+2,0,N⟩ (I c)).setCell ⟨Q+2,1,N⟩ (S t)).setCell ⟨Q+2,2,N⟩ nS):=⟨by rw[World.cell?_setCell_far _ _ _ _ qj,World.cell?_setCell_far _ _ _ _ qj,World.cell?_setCell_far _ _ _ _ qj];exact d9.o,Af (Af (Af ve.o qg _) qg _) qg _⟩;refine hK.out _ _ (λ_=>fw) (λ_=>?_);clear hK K z0 z1 z2 zf
   try simp only[gX]
   refine Lt.sp (i:=9) (λK hK=>?_);go_simp;refine hK.out _ _ (λh=>absurd rfl h) (λ_=>?_);clear hK K;refine Lt.done qk ?_ _;go_wp2_with fail;have F5:=HV3.o;obtain⟨y0,y1,y2,_⟩:=Jp (Cx F5 (I c) (S t) nS);exact bR (v:=Y #[G #[I c,S t,nS],I (s.R.length:Int)]) (by simp[results,results104,go_sem,y0,y1,y2];try exact IntWalk.i64_in _ ⟨qg,qg⟩) rfl (Or.inl ⟨_,_,_,md.o,rfl,qg,HFV.o.set3 qg qg _ _ _,HSV.o.set3 ⟨_,F5⟩ qh _ _ _⟩)
def MakeP5(B h:X)(sv tv:Z)(n:X)(ss:L S2)(ts:L T2)(ms:Mm)(s:Sb)(st:L By)(v:Hv)(nm:By)(w:E)(e:Ending)(w':E):Prop:=
 ∃ms' s' a,Ca ss ts n ms s st (.make nm) ms' s' a/\((∃d v',a=.ok d/\e=H (G #[I d.c,S d.t,nS])/\Cp B (Bs h v) (Bs h v') w w'/\Fl B h sv tv n w' ms' s' st v')\/(∃b nv,a=.bad b/\e=H (G #[I (Jm b),ze,nS])/\Cp B (Bs h v) (Vd h nv) w w'/\Fk B h st.length nv w' b))
def Ly(W0:E)(h:X)(sv tv:Z)(n:X)(ss:L S2)(ts:L T2)(st:L By):Prop:=∀(ms:Mm)(s:Sb)(v:Hv)(nm:By)(w:E),Bw W0 w->Fl W0.heap.size h sv tv n w ms s st v->Fj ss ts ms st->Ka n s->Ay nm->ms.length<=400200*Hj ts ms st->Mb ts ms s st->Calls prog 87 #[D (p_ h),S nm] w λe w'=>MakeP5 W0.heap.size h sv tv n ss ts ms s st v nm w e w'
def HoldsP(B h:X)(sv tv:Z)(n:X)(ss:L S2)(ts:L T2)(ms:Mm)(s:Sb)(st:L By)(v:Hv)(gs:L G3)(w:E)(e:Ending)(w':E):Prop:=
 ∃ms' s' a,Ca ss ts n ms s st (.holds gs 0) ms' s' a/\((∃y v',a=(if y then .yes else .no)/\e=H (F y)/\Cp B (Bs h v) (Bs h v') w w'/\Fl B h sv tv n w' ms' s' st v')\/(∃b nv,a=.bad b/\e=H (F false)/\Cp B (Bs h v) (Vd h nv) w w'/\Fk B h st.length nv w' b))
theorem Fl.notT{w:E}{st:L By}(k:Fl B h sv tv n w ms s st v){B' e sz l:X}{u:Z}(ho:w.ownsRow B' e sz u l xs)(h1:e≠120)(h2:e≠56)(h3:e≠140)(h4:e≠9):∀b,u.ownBlock=M b->¬ Bs h v b:=by
 intro b q;obtain⟨xs,m1,m2⟩:=k.made;obtain⟨ys,cv,lv,r⟩:=k.rcs;rintro(q2|q2|q2|q2|q2|q2)
 ·subst q2;exact Ah ho (Ne.symm h1) k.blk q
 ·exact apart ho r.row h2 b q q2
 ·exact apart ho m1 h3 b q q2
 ·exact apart ho k.stk h4 b q q2
 ·exact apart ho k.ran h4 b q q2
 ·exact apart ho k.held h4 b q q2
theorem Sx(c:Int)(w:E)(h5:5<c):Calls prog 106 #[G #[I c,ze,nS]] w λe w'=>e=H ze/\Bw w w':=by
 have d1:decide (c<0)=false:=qj;have d2:decide (5<c)=true:=qj;obtain⟨W,eW⟩:=Aj (w.alloc (O #[I c,ze,nS] 134));have hb:=aB eW;have k0:W.cell? ⟨w.heap.size,0,N⟩=M (I c):=qbf;have k1:W.cell? ⟨w.heap.size,1,N⟩=M ze:=qbf;have k2:W.cell? ⟨w.heap.size,2,N⟩=M nS:=qbf;go_enter func106,ntmps106;go_wp2;go_ret;exact⟨rfl,hb⟩
theorem codeB_gt(b:He):5<Jm b:=by cases b<;>simp[Jm]
theorem Cp.drewN{AN X':X->Prop}{w:E}(h:Cp B AN X' w w')(k:X):Cp B AN X' w (w'.drewN k):=⟨below_drewN h.bel k,λb hb hx=>by rw[World.heap_drewN];exact h.keep b hb hx,h.new⟩
theorem Fk.drewN{w:E}(d:Fk B h m nv w b)(k:X):Fk B h m nv (w.drewN k) b:=d.frx (below_drewN (Below.refl _ _) k)
theorem holds_any(W0:E)(h:X)(sa ta:Option Addr)(c1 c2 n:X)(ss:L S2)(ts:L T2)(hE:EnvS W0 sa ta ss ts)(st:L By)(hM:Ly W0 h (J sa ss.length c1) (J ta ts.length c2) n ss ts st)(h1:1<=n)(h8:n<=8)(ms:Mm)(s:Sb)(v:Hv)(qa la:Option Addr)(ql qc lc:X)(gs:L G3)(ys:L Z)(out:By)(w:E)(hb:Bw W0 w)(hs:Fl W0.heap.size h (J sa ss.length c1) (J ta ts.length c2) n w ms s st v)(hi:Fj ss ts ms st)(cm:Ka n s)(hgs:GsOk gs)(hr:w.ownsRow W0.heap.size 79 3 (J la gs.length lc) gs.length ys)(hf:Be gs gs.length ys)(iz:∀i,i<gs.length->(gx gs i).sum.size<=1048576)(J4:ms.length+gs.length<=400200*Hj ts ms st)(A5:Mb ts ms s st):Calls prog 102 #[D (p_ h),G #[J qa ql qc,J la gs.length lc,S out]] w λe w'=>HoldsP W0.heap.size h (J sa ss.length c1) (J ta ts.length c2) n ss ts ms s st v gs w e w':=by
 obtain⟨m,em⟩:=Aj gs.length;have EM:=Ad em;obtain⟨W,eW⟩:=Aj (w.alloc (O #[J qa ql qc,J la m lc,S out] 56));have HW:Hd (Bw w W):=by show Below _ _ _;rw[←eW];exact aN _ _
 obtain⟨Q,eQ⟩:=Aj w.heap.size;have HX:=Ad (nW eW eQ);have HN:Hd (¬ Bs h v Q):=hs.not qg;have aj:W0.heap.size<=w.heap.size:=hb.size;have ue:Hd (Cp W0.heap.size (Bs h v) (Bs h v) w W):=Cp.of_below HW.o aj;have Id:=Ad (hs.bl HW.o);have N7:=Ad (hb.trans (HW.o.mono aj));have HLW:=Ad (Ae hr HW.o);have HFL:=Ad hf;have wz:=Ad (hs.notT hr qh qh qh qh);have HI0:=Ad hi;have xh:=Ad cm;have HGS:=Ad hgs;have pc:=Ad iz;have HM:=Ad hM;have HE:=Ad hE;have HPH:=Ad J4;have N6:=Ad A5;have hm2:m<=200:=by rw[←em];exact hgs.1
 rw[em];clear hs hb hr hf hi cm hgs iz hM hE em J4 A5;go_enter func102,ntmps102;go_wp2_with fail
 try rw[eQ]
 clear eW
 go_loopw [5] (λi wr=>∃(k:X)(ms':Mm)(s':Sb)(v':Hv),k<=m/\i=I k/\Hd (∀d7 s2 a,Ca ss ts n ms' s' st (.holds gs k) d7 s2 a->Ca ss ts n ms s st (.holds gs 0) d7 s2 a)/\Hd (Fj ss ts ms' st)/\Hd (Ka n s')/\Hd (400200*Hj ts ms st+ms'.length<=ms.length+k+400200*Hj ts ms' st)/\Hd (Mb ts ms' s' st)/\Hd (Cp W0.heap.size (Bs h v) (Bs h v') W wr)/\Hd (Fl W0.heap.size h (J sa ss.length c1) (J ta ts.length c2) n wr ms' s' st v')) (λi _=>m-(intOf i).toNat)
 case atStart=>exact⟨0,ms,s,v,Nat.zero_le _,rfl,(λ_ _ _ k=>k),HI0,xh,(by show _<=_;omega:400200*Hj ts ms st+ms.length<=ms.length+0+400200*Hj ts ms st),N6,Cp.refl _,Id⟩
 case round=>
  obtain⟨k,ms',s',v',hk,rfl,fb,HI,HK,HC,ug,fk,HS⟩:=hrel;have n7:=Ad (N7.o.trans fk.o.bel);have bo:W0.heap.size<=wr.heap.size:=n7.o.size;have HXr:=Ad (fk.o.blk HX.o HN.o);obtain⟨x0,x1,x2⟩:=Ab HXr.o
  by_cases au:k<m
  rotate_left 1
  ·have gi:¬ (k:Int)<(m:Int):=qg
   have HY:=Ad (fb.o _ _ _ (.hend (ss:=ss) (ts:=ts) (n:=n) (ms:=ms') (s:=s') (st:=st) (gs:=gs) (k:=k) (by rw[EM.o];omega)));go_wp2_with fail;go_ret;exact⟨ms',s',.yes,HY.o,Or.inl ⟨true,v',rfl,rfl,ue.o.trans fk.o,HS.o⟩⟩
  have gi:(k:Int)<(m:Int):=qg;have fe:(0:Int)<=(k:Int):=qg;have pq:k<gs.length:=qdq;obtain⟨a2,cc2,e2,hrg⟩:=Hl (fk.o.own HLW.o wz.o) HFL.o;rw[EM.o]at e2;cases e2;obtain⟨b,off,rfl,g1,g2,g3⟩:=hrg k pq;have vi:=Ad (HGS.o.2 k pq);have HZS:=Ad (pc.o k pq);have F8:Hd ((gx gs k).ask=false->Ap n (De (Du ss ts (gx gs k).name))=(gx gs k).sum->∀d7 s2 a,Ca ss ts n ms' s' st (.holds gs (k+1)) d7 s2 a->Ca ss ts n ms s st (.holds gs 0) d7 s2 a):=λq1 q2 d7 s2 a q3=>fb.o _ _ _ (.hhas pq q1 q2 q3);have HHNO:Hd ((gx gs k).ask=false->Ap n (De (Du ss ts (gx gs k).name))≠(gx gs k).sum->Ca ss ts n ms s st (.holds gs 0) ms' s' .no):=λq1 q2=>fb.o _ _ _ (.hhasno pq q1 q2);have Y4:Hd ((gx gs k).ask=true->∀ms1 s1 d,Ca ss ts n ms' s' st (.make (gx gs k).name) ms1 s1 (.ok d)->Ap n (Co d.c d.t)=(gx gs k).sum->∀d7 s2 a,Ca ss ts n ms1 s1 st (.holds gs (k+1)) d7 s2 a->Ca ss ts n ms s st (.holds gs 0) d7 s2 a):=λq1 ms1 s1 d q2 q3 d7 s2 a q4=>fb.o _ _ _ (.hask pq q1 q2 q3 q4);have HANO:Hd ((gx gs k).ask=true->∀ms1 s1 d,Ca ss ts n ms' s' st (.make (gx gs k).name) ms1 s1 (.ok d)->Ap n (Co d.c d.t)≠(gx gs k).sum->Ca ss ts n ms s st (.holds gs 0) ms1 s1 .no):=λq1 ms1 s1 d q2 q3=>fb.o _ _ _ (.haskno pq q1 q2 q3);have Y5:Hd ((gx gs k).ask=true->∀ms1 s1 b,Ca ss ts n ms' s' st (.make (gx gs k).name) ms1 s1 (.bad b)->Ca ss ts n ms s st (.holds gs 0) ms1 s1 (.bad b)):=λq1 ms1 s1 b q2=>fb.o _ _ _ (.haskbad pq q1 q2);clear hrg;generalize (gx gs k).name=x at *;generalize (gx gs k).sum=z at *;generalize (gx gs k).ask=y at *;obtain⟨AI,eG⟩:=Aj wr.heap.size;obtain⟨wG,eWG⟩:=Aj (wr.alloc (O #[S x,F y,S z] 79));(have HBG:Hd (Bw wr wG):=by show Below _ _ _;rw[←eWG];exact aN _ _);have HG:=Ad (nW eWG eG);have B7:=Ad (HS.o.bl HBG.o);have R5:=Ad (fk.o.trans (Cp.of_below HBG.o bo));have zv:=Ad (n7.o.trans (HBG.o.mono bo));have HNG:Hd (¬ Bs h v' AI):=HS.o.not qg;obtain⟨d0,d1,d2⟩:=Ab HG.o;go_wp2_with fail;clear eWG d0 d1 d2 x0 x1 x2 g1 g2 g3;refine(has_any h sa ta c1 c2 ss ts x wG qcf qcf (HE.o.rs.bl zv.o) (HE.o.rt.bl zv.o) (zo HE.o.l1) (zo HE.o.l2)).mono ?_;rintro e w1 ⟨ah,rfl⟩;have hBG:W0.heap.size<=wG.heap.size:=zv.o.size;replace B7:=Ad (B7.o.bl ah);replace HG:=Ad (Ac HG.o ah);replace R5:=Ad (R5.o.trans (Cp.of_below ah hBG));replace zv:=Ad (zv.o.trans (ah.mono hBG));have hGw:AI<w1.heap.size:=Bq HG.o;have db:W0.heap.size<=w1.heap.size:=zv.o.size;clear ah hBG;obtain⟨tb,etb⟩:=Aj (Du ss ts x);rw[etb];rw[etb]at F8 HHNO;clear etb;go_wp2_with fail;refine(Ey tb w1).mono ?_;rintro e w1' ⟨rfl,rfl⟩;obtain⟨d0,d1,d2⟩:=Ab HG.o;have hfs:(De tb).size<=1048576:=zo (Et tb);cases y
  ·go_wp2_with fail
   clear d0 d1 d2;have l9:=db;obtain⟨sm,esm⟩:=Aj (Ap n (De tb));(have B6:Hd (∀V:E,Calls prog 18 #[S (De tb),I n] V λe w'=>e=H (S sm)/\Bw V w'):=λV=>by rw[←esm];exact Cl _ n V hfs h1 h8);have ESM:=Ad esm;clear esm;refine Lt.begin 99 (λw'=>w'.cell? ⟨h,2,N⟩=M (I n)/\w'.cell? ⟨h,9,N⟩=M (F false)/\w'.heap[AI]?=M (O #[S x,F false,S z] 79 (0,0))) qk ?_;obtain⟨wD,eD⟩:=Aj w1.drew;rw[eD];have ao:Bw w1 wD:=qq;clear eD;replace B7:=Ad (B7.o.bl ao);replace HG:=Ad (Ac HG.o ao);replace R5:=Ad (R5.o.trans (Cp.of_below ao l9));have aw:(λw'=>w'.cell? ⟨h,2,N⟩=M (I n)/\w'.cell? ⟨h,9,N⟩=M (F false)/\w'.heap[AI]?=M (O #[S x,F false,S z] 79 (0,0))) wD:=⟨qcf,qcf,HG.o⟩;replace l9:W0.heap.size<=wD.heap.size:=Nat.le_trans l9 ao.size;change K 0 _
   iterate 11
    refine Lt.ti (v:=?_) aw ?_ ?_;rotate_left 1
    ·exact qax
    simp only[gX]
   change K 12 _
   iterate 2
    refine Lt.ti (v:=?_) aw ?_ ?_;rotate_left 1
    ·exact qax
    simp only[gX]
   refine Lt.sp (i:=11) (λK hK=>?_);go_simp;refine(B6.o _).mono ?_;rintro e wS ⟨rfl,zd⟩;replace B7:=Ad (B7.o.bl zd);replace HG:=Ad (Ac HG.o zd);replace R5:=Ad (R5.o.trans (Cp.of_below zd l9));have bj:(λw'=>w'.cell? ⟨h,2,N⟩=M (I n)/\w'.cell? ⟨h,9,N⟩=M (F false)/\w'.heap[AI]?=M (O #[S x,F false,S z] 79 (0,0))) wS:=⟨qcf,qcf,HG.o⟩;replace l9:W0.heap.size<=wS.heap.size:=Nat.le_trans l9 zd.size;refine hK.out _ _ (λ_=>bj) (λ_=>?_);clear hK K zd
   try simp only[gX]
   by_cases hq:sm=z
   ·have dq:=Eu hq
    change K 14 _
    iterate 2
     refine Lt.ti (v:=?_) bj ?_ ?_;rotate_left 1
     ·exact qax
     simp only[gX]
    refine Lt.done qk ?_ _;go_wp2_with fail;go_roundw
    case rel=>exact⟨k+1,ms',s',v',qg,qp,(F8.o qaj qdr),HI,HK,(by have:=HC.o;show _<=_;omega:400200*Hj ts ms st+ms'.length<=ms.length+(k+1)+400200*Hj ts ms' st),ug,R5,B7⟩
    case measure=>simp[intOf];omega
   ·have dq:=Fx hq
    change K 14 _
    iterate 2
     refine Lt.ti (v:=?_) bj ?_ ?_;rotate_left 1
     ·exact qax
     simp only[gX]
    refine Lt.done qk ?_ _;go_wp2_with fail;go_ret;exact⟨ms',s',.no,(HHNO.o qaj qdr),Or.inl ⟨false,v',rfl,rfl,ue.o.trans R5.o,B7.o⟩⟩
  ·go_wp2_with fail
   clear d0 d1 d2;refine(HM.o ms' s' v' x w1 zv.o B7.o HI.o HK.o vi.o (by have:=HC.o;have:=HPH.o;rw[EM.o]at this;omega) ug.o).mono ?_;rintro e w2 ⟨d7,s2,a2,di,⟨dd,v2,rfl,rfl,cu,dx⟩|⟨bb,nb,rfl,rfl,cu,nj⟩⟩;rotate_left 1
   ·have jg:=Ad (Y5.o qaj _ _ _ di)
    have dp:=Ad (R5.o.trans cu);have ko:=Ad nj;have bp:W0.heap.size<=w2.heap.size:=Nat.le_trans db cu.bel.size;clear di cu nj;go_wp2_with fail;refine(Sx _ w2 (codeB_gt bb)).mono ?_;rintro e w3 ⟨rfl,bh⟩;replace dp:=Ad (dp.o.trans (Cp.of_below bh bp));replace ko:=Ad (ko.o.frx bh);clear bh;obtain⟨k9,_,_⟩:=ko.o.cells;go_wp2_with fail
    go_quiet (fail)
    go_wp2_with fail;go_ret;exact⟨_,_,_,jg.o,Or.inr ⟨bb,nb,rfl,rfl,ue.o.trans (dp.o.drewN _),ko.o.drewN _⟩⟩
   obtain⟨i1,i2,i3,i4⟩:=Ca.inv HE.o.v di HI.o HK.o vi.o (λb q=>qz);have jx:=Ca.cost HE.o.v di HI.o HK.o vi.o (λb q=>qz);have N4:=Ad (Ca.cntM HE.o.v di HI.o HK.o vi.o (λb q=>qz) rfl ug.o);have HMD:=Ad (i1.done _ _ i4);have zr:=Ad i1;have lu:=Ad i2;have jg:=Ad di;(have zu:Hd (400200*Hj ts ms st+d7.length<=ms.length+(k+1)+400200*Hj ts d7 st):=by have:=HC.o;show _<=_;simp only[Qi]at jx;omega);have dp:=Ad (R5.o.trans cu);have fo:=Ad dx;have bp:W0.heap.size<=w2.heap.size:=Nat.le_trans db cu.bel.size;have HG2:=Ad (cu.blk HG.o HNG.o);clear di cu dx i1 i2 i3 i4 jx;obtain⟨dc,edc⟩:=Aj dd.c;obtain⟨dt,edt⟩:=Aj dd.t;rw[edc,edt];have HFO:Hd (∀V:E,Calls prog 106 #[G #[I dc,S dt,nS]] V λe w'=>e=H (S (Co dc dt))/\Bw V w'):=λV=>La dc dt V (by rw[←edc];exact HMD.o.c0) (by rw[←edc];exact HMD.o.c5) qge;have hfz:(Co dc dt).size<=1048576:=zo (Fc (c:=dc) (t:=dt) qge);have rh:Hd (Ap n (Co dc dt)=z->∀ms3 s3 a,Ca ss ts n d7 s2 st (.holds gs (k+1)) ms3 s3 a->Ca ss ts n ms s st (.holds gs 0) ms3 s3 a):=λq=>Y4.o qaj _ _ _ jg.o (by rw[edc,edt];exact q);have HNOO:Hd (Ap n (Co dc dt)≠z->Ca ss ts n ms s st (.holds gs 0) d7 s2 .no):=λq=>HANO.o qaj _ _ _ jg.o (by rw[edc,edt];exact q);clear edc edt;go_wp2_with fail;refine(HFO.o w2).mono ?_;rintro e w3 ⟨rfl,bh⟩;replace dp:=Ad (dp.o.trans (Cp.of_below bh bp));replace fo:=Ad (fo.o.bl bh);replace HG2:=Ad (Ac HG2.o bh);have l9:W0.heap.size<=w3.heap.size:=Nat.le_trans bp bh.size;clear bh;go_wp2_with fail;obtain⟨sm,esm⟩:=Aj (Ap n (Co dc dt));(have B6:Hd (∀V:E,Calls prog 18 #[S (Co dc dt),I n] V λe w'=>e=H (S sm)/\Bw V w'):=λV=>by rw[←esm];exact Cl _ n V hfz h1 h8);have ESM:=Ad esm;clear esm;refine Lt.begin 99 (λw'=>w'.cell? ⟨h,2,N⟩=M (I n)/\w'.cell? ⟨h,9,N⟩=M (F false)/\w'.heap[AI]?=M (O #[S x,F true,S z] 79 (0,0))) qk ?_;obtain⟨wD,eD⟩:=Aj w3.drew;rw[eD];have ao:Bw w3 wD:=qq;clear eD;replace fo:=Ad (fo.o.bl ao);replace HG2:=Ad (Ac HG2.o ao);replace dp:=Ad (dp.o.trans (Cp.of_below ao l9));have aw:(λw'=>w'.cell? ⟨h,2,N⟩=M (I n)/\w'.cell? ⟨h,9,N⟩=M (F false)/\w'.heap[AI]?=M (O #[S x,F true,S z] 79 (0,0))) wD:=⟨qbt,qbt,HG2.o⟩;replace l9:W0.heap.size<=wD.heap.size:=Nat.le_trans l9 ao.size;change K 0 _
   iterate 11
    refine Lt.ti (v:=?_) aw ?_ ?_;rotate_left 1
    ·exact qax
    simp only[gX]
   change K 12 _
   iterate 2
    refine Lt.ti (v:=?_) aw ?_ ?_;rotate_left 1
    ·exact qax
    simp only[gX]
   refine Lt.sp (i:=11) (λK hK=>?_);go_simp;refine(B6.o _).mono ?_;rintro e wS ⟨rfl,zd⟩;replace fo:=Ad (fo.o.bl zd);replace HG2:=Ad (Ac HG2.o zd);replace dp:=Ad (dp.o.trans (Cp.of_below zd l9));have bj:(λw'=>w'.cell? ⟨h,2,N⟩=M (I n)/\w'.cell? ⟨h,9,N⟩=M (F false)/\w'.heap[AI]?=M (O #[S x,F true,S z] 79 (0,0))) wS:=⟨qbt,qbt,HG2.o⟩;replace l9:W0.heap.size<=wS.heap.size:=Nat.le_trans l9 zd.size;refine hK.out _ _ (λ_=>bj) (λ_=>?_);clear hK K zd
   try simp only[gX]
   by_cases hq:sm=z
   ·have dq:=Eu hq
    change K 14 _
    iterate 2
     refine Lt.ti (v:=?_) bj ?_ ?_;rotate_left 1
     ·exact qax
     simp only[gX]
    refine Lt.done qk ?_ _;go_wp2_with fail;go_roundw
    case rel=>exact⟨k+1,d7,s2,v2,qg,qp,(rh.o qdr),zr,lu,zu,N4,dp,fo⟩
    case measure=>simp[intOf];omega
   ·have dq:=Fx hq
    change K 14 _
    iterate 2
     refine Lt.ti (v:=?_) bj ?_ ?_;rotate_left 1
     ·exact qax
     simp only[gX]
    refine Lt.done qk ?_ _;go_wp2_with fail;go_ret;exact⟨d7,s2,.no,(HNOO.o qdr),Or.inl ⟨false,v2,rfl,rfl,ue.o.trans dp.o,fo.o⟩⟩
end Go.Proofs.YtoihflimijabjaaGreatDoor
