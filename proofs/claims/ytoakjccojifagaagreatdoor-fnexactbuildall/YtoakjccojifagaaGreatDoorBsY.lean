import Derived.Test.YtoakjccojifagaaGreatDoorBdC
import Derived.Test.YtoakjccojifagaaGreatDoorBsQ
import Derived.Test.YtoakjccojifagaaGreatDoorBsT
import Derived.Test.YtoakjccojifagaaGreatDoorBsU
namespace Go.Proofs.YtoakjccojifagaaGreatDoor
open Value renaming slice->J,string->S,bool->F,agg->G,pointer->D,tuple->Y
open Option renaming some->M,none->N
open Obj renaming cells->O
open Go renaming Value->Z,World->E
open Ending renaming returned->H
open _root_ renaming List->L,Nat->X
set_option maxHeartbeats 8000000
set_option maxRecDepth 100000
open _root_.Go.Proofs.Tryz Go.RowKit Go.Deep
set_option linter.unusedVariables false
set_option linter.unusedSimpArgs false
variable {B h n k m p:X} {sv tv nw nv:Z} {w w3 w':E} {ms:Mm} {s:Sb} {st T:L By} {v:Hv} {b:Gl} {xs:L Z} {x:By} {ls:L G3} {R:L T3} {cv lv:X->Z}
def Yb(n:X)(T:L By)(x:By)(b:Gl):Prop:=∃r,Vk n T (Aq n x) r/\((∃A B,b=.clash A B/\Jd n T x r 2 T A B)\/(b=.full/\Jd n T x r 3 T ⟨#[]⟩ ⟨#[]⟩))
theorem Gb.fall{w2:E}(k:Gb B h sv tv n w ms s st v)(hb:Bw w w2)(gi:B<=w.heap.size)(h3:Below h w2 w3)(hk:∀b,b<w2.heap.size->b≠h->w3.heap[b]?=w2.heap[b]?):Dc B (Cj h v) (Zh h v.nv) w w3:=by
 have hs:=hb.size;exact⟨(hb.mono gi).trans (h3.mono k.hB),λb hl hx=>(hk b qb (λe=>hx (Or.inl e))).trans (hb.block b hl),λb q=>Or.inl (by rcases q with q|q;exact Or.inl q;exact Or.inr (Or.inr (Or.inr (Or.inr (Or.inl q)))))⟩
theorem Gb.dead(k:Gb B h sv tv n w ms s st v)(hk:∀b,b<w.heap.size->b≠h->w3.heap[b]?=w.heap[b]?)(e:L Z)(aw:w3.heap[h]?=M (O (([sv,tv,I n,v.tx,v.qv,v.mv,v.kv,v.nv,v.ev]++[Value.bool true]++e).toArray) 105 (0,0)))(he:Oh B w3 b e)(ha:∀u b,e[2]?=M u->u.ownBlock=M b->v.nv.ownBlock≠M b)(hr:s.ran.length+st.length<=1000):Fz B h st.length v.nv w3 b:=
 ⟨_,e,rfl,aw,he,rfl,⟨s.ran,Al k.ran (λb q=>hk b (k.ran.lt b q).2 (λe=>Ae k.ran qd k.blk (by rw[←e];exact q))),hr⟩,ha⟩
theorem noOwn{cs:L Z}(hc:cs[2]?=M nS)(nv:Z):∀u b,cs[2]?=M u->u.ownBlock=M b->nv.ownBlock≠M b:=λu b h q=>by
 rw[hc]at h;cases h;cases q
theorem shopPut(B h n:X)(sv tv:Z)(ms:Mm)(s:Sb)(st:L By)(v:Hv)(x:By)(w:E)(hs:Gb B h sv tv n w ms s st v)(hB:B<=w.heap.size)(h1:1<=n)(h8:n<=8)(fw:Vg n s.T)(hx:x.size<=2002)(D7:s.ran.length+st.length<=1000):Calls prog 147 #[D (p_ h),S x] w λe w'=>(e=H (F true)/\∃T' v',(∃r,Vk n s.T (Aq n x) r/\Jd n s.T x r 0 T' ⟨#[]⟩ ⟨#[]⟩)/\Dc B (Cj h v) (Cj h v') w w'/\Gb B h sv tv n w' ms ⟨T',s.R,s.ran,s.held⟩ st v')\/(e=H (F false)/\∃b nv,Yb n s.T x b/\Dc B (Cj h v) (Zh h nv) w w'/\Fz B h st.length nv w' b):=by
 obtain⟨g1,p1,etx⟩:=hs.txa;obtain⟨a2,p2,eqv⟩:∃a cap,v.qv=J a s.R.length cap:=by obtain⟨xs,cv,lv,r⟩:=hs.rcs;exact Ax r.row
 have HX:Hd (w.ownsRow B 9 1 (J (p_ g1) s.T.length p1) s.T.length (s.T.map Value.string)):=by have:=hs.txt;rw[etx]at this;exact this
 have k2:=cK hs.blk 2;have k3:w.cell? ⟨h,3,N⟩=M (J (p_ g1) s.T.length p1):=by rw[cH hs.blk,←etx];rfl
 have k4:w.cell? ⟨h,4,N⟩=M (J a2 s.R.length p2):=by rw[cH hs.blk,←eqv];rfl
 have HS:=Ad hs;have HE:=Ad (And.intro etx eqv);clear hs etx eqv;go_enter func147,ntmps147;go_wp2_with fail;refine(l4Put_b n B g1 p1 a2 _ p2 s.T x w HX.o hB h1 h8 fw hx).mono ?_;rintro e w1 ⟨af,r,cd,T',A,B',hp,hr,jh⟩;have A2:=Ad hp;have ir:=Ad (HS.o.bl af);have d7:=Ad af;clear hp k2 k3 k4
 rcases jh with⟨hne,rfl⟩|⟨rfl,rfl,rfl,g,p,rfl,ho,hg⟩
 ·go_upto_region 2 with fail
  obtain⟨P,eP⟩:=Aj w1.heap.size;obtain⟨w2,e2⟩:=Aj (w1.alloc (O #[I cd,I 0,nS,nS,S A,S B'] 115));(have fj:Hd (Bw w1 w2):=by show Below _ _ _;rw[←e2];exact aN _ _);(have HK:w2.heap[P]?=M (O #[I cd,I 0,nS,nS,S A,S B'] 115 (0,0)):=by rw[←e2,←eP];exact Cu _ _);rw[e2,eP];clear e2;have cu:=Ad (ir.o.bl fj.o);obtain⟨c0,c1,c2,c3,c4,c5⟩:=Ho HK;clear HK
  have hcd:(cd=2/\Jd n s.T x r 2 s.T A B')\/(cd=3/\A=⟨#[]⟩/\B'=⟨#[]⟩/\Jd n s.T x r 3 s.T ⟨#[]⟩ ⟨#[]⟩):=by
   rcases hr with⟨a,b,rfl,rfl,rfl,rfl⟩|⟨a,b,rfl,rfl,rfl,rfl⟩|⟨a,b,rfl,rfl,rfl,rfl⟩|⟨a,b,rfl,rfl,rfl,rfl⟩
   ·exact Or.inl ⟨rfl,Or.inl ⟨a,b,rfl,rfl,rfl,rfl⟩⟩
   ·exact absurd rfl hne
   ·exact Or.inr ⟨rfl,rfl,rfl,Or.inr (Or.inr (Or.inl ⟨a,b,rfl,rfl,rfl,rfl⟩))⟩
   ·exact absurd rfl hne
  clear hr hne
  rcases hcd with⟨rfl,hr⟩|⟨rfl,rfl,rfl,hr⟩
  ·have HF:Hd (Yb n s.T x (.clash A B')):=⟨r,A2.o,Or.inl ⟨A,B',rfl,hr⟩⟩
   clear hr;go_wp2_with fail;clear eP c0 c1 c2 c3 c4 c5;refine(Mx h _ _ _ _ _ _ _ _ _ _ _ _ _ _ _ _ _ _ _ 10 ⟨#[]⟩ A B' N 0 0 w2 cu.o.blk).mono ?_;rintro e w3 ⟨rfl,au,gv,aw⟩;have gj:=Ad (HS.o.fall (bt d7.o fj.o) hB au gv);have HD:Hd (Fz B h st.length v.nv w3 (.clash A B')):=cu.o.dead gv [I 10,ze,nS,I 0,nS,nS,nS,nS,S A,S B'] aw rfl (noOwn rfl _) D7;exact qmk
  ·have HF:Hd (Yb n s.T x .full):=⟨r,A2.o,Or.inr ⟨rfl,hr⟩⟩
   clear hr;go_wp2_with fail;clear eP c0 c1 c2 c3 c4 c5;refine(Mx h _ _ _ _ _ _ _ _ _ _ _ _ _ _ _ _ _ _ _ 11 ⟨#[]⟩ ⟨#[]⟩ ⟨#[]⟩ N 0 0 w2 cu.o.blk).mono ?_;rintro e w3 ⟨rfl,au,gv,aw⟩;have gj:=Ad (HS.o.fall (bt d7.o fj.o) hB au gv);have HD:Hd (Fz B h st.length v.nv w3 .full):=cu.o.dead gv [I 11,ze,nS,I 0,nS,nS,nS,nS,ze,ze] aw rfl (noOwn rfl _) D7;exact qmk
 ·have HR:Hd (Jd n s.T x r 0 T' ⟨#[]⟩ ⟨#[]⟩):=hr
  go_upto_region 2 with fail
  obtain⟨P,eP⟩:=Aj w1.heap.size;obtain⟨w2,e2⟩:=Aj (w1.alloc (O #[I 0,I (n:Int),J (p_ g) T'.length p,J a2 s.R.length p2,ze,ze] 115));(have fj:Hd (Bw w1 w2):=by show Below _ _ _;rw[←e2];exact aN _ _);(have HK:w2.heap[P]?=M (O #[I 0,I (n:Int),J (p_ g) T'.length p,J a2 s.R.length p2,ze,ze] 115 (0,0)):=by rw[←e2,←eP];exact Cu _ _);rw[e2,eP];clear e2;have cu:=Ad (ir.o.bl fj.o);have HB12:=Ad (bt d7.o fj.o);have HG:=Ad (HS.o.setTx hB HB12.o (Ac ho fj.o) (by rw[HE.o.1];rcases hg with q|q;exact Or.inl (by rw[q];rfl);exact Or.inr q));obtain⟨c0,c1,c2,c3,c4,c5⟩:=Ho HK;obtain⟨-,-,k2,k3,k4⟩:=ck5 cu.o.blk;have kf:=fZ cu.o.blk;have hPh:P≠h:=zo (Ag ir.o.blk);clear hr ho hg HK;rw[HE.o.2]at HG;go_wp2_with fail;go_ret;exact Or.inl ⟨rfl,T',_,⟨r,A2.o,HR.o⟩,HG.o.2,HG.o.1⟩
theorem Dq.app{xs T1:L By}{a:Option Gl}(h:Dq n T xs T1 a):a=N->∀ {ys T2 a2},Dq n T1 ys T2 a2->Dq n T (xs++ys) T2 a2:=by
 induction h with
 | nil=>intro _ ys T2 a2 k;exact k
 | go h1 h2 _ ih=>intro e ys T2 a2 k;exact .go h1 h2 (ih e k)
 | clash=>intro e;cases e
 | full=>intro e;cases e
theorem Dq.one{T':L By}(h:∃r,Vk n T (Aq n x) r/\Jd n T x r 0 T' ⟨#[]⟩ ⟨#[]⟩):Dq n T [x] T' N:=by
 obtain⟨r,h1,h2⟩:=h;exact .go h1 h2 .nil
theorem Yb.put(h:Yb n T x b)(ys:L By):Dq n T (x::ys) T (M b):=by
 obtain⟨r,h1,⟨A,B,rfl,h2⟩|⟨rfl,h2⟩⟩:=h
 ·exact .clash h1 h2
 ·exact .full h1 h2
theorem Oa(ls:L G3)(g:G3):Jc (ls++[g])=Jc ls++(if g.ask=true then [g.sum] else []):=by
 unfold Jc;rw[List.filter_append,List.map_append]
 cases hg:g.ask<;>simp[hg]
theorem Po(h:k<ls.length):ls.take (k+1)=ls.take k++[gx ls k]:=by
 unfold gx;rw[List.take_add_one,Jr h,gG,Jr h];rfl
theorem Xx(h:k<ls.length):∃ys,Jc ls=Jc (ls.take k)++((if (gx ls k).ask=true then [(gx ls k).sum] else [])++ys):=by
 refine⟨Jc (ls.drop (k+1)),?_⟩;have:ls=ls.take (k+1)++ls.drop (k+1):=(List.take_append_drop _ _).symm
 conv=>lhs;rw[this]
 unfold Jc;rw[List.filter_append,List.map_append,Po h,List.filter_append,List.map_append,List.append_assoc]
 cases hg:(gx ls k).ask<;>simp[hg]
theorem Tryz.info97x:(prog.info? 95).map (λi=>(i.zero,i.size,i.bytes))=M (M (G #[nS,nS,ze]),3,64):=qi
theorem step_appQR{s x:Operand}{W:E}{ops:Array Oper}{o:Oper}{a:Act}{K:Act->E->Prop}{Q:Exit->Act->E->Prop}{AF:Prop}(ru:o.guard=N)(ho:o.op=.call { callee:=.builtin .append,args:=#[s,x],argTypes:=#[33,33] })(B:X)(v:Z)(nn:X)(xs:L Z)(hs:a.eval s=v)(ah:W.ownsRow B 95 3 v nn xs)(d:X)(u0 u1 u2:Z)(hx:a.eval x=J (p_ d) 1 1)(hc:W.heap[d]?=M (O #[u0,u1,u2] 95 (0,0)))(h1:∀u∈[u0,u1,u2],u.oneCell'=true)(hB:B<=W.heap.size)(hn:nn<=10000)(h:∀g' ai w',w'.ownsRow B 95 3 (J (p_ g') (nn+1) ai) (nn+1) (xs++[u0,u1,u2])->W.grownBy w' v.ownBlock->(v.ownBlock=M g'\/g'=W.heap.size)->K (a.put o.dst (J (p_ g') (nn+1) ai)) w'):if Region.wanted o (yielded ops a.tmps)=true then Oper.wp prog o a W K Q else AF:=by
 obtain⟨i0,hi,bo,bm,cm⟩:=info_parts Tryz.info97x
 refine step_append_lies (w:=W) ru s x 33 ho B 95 i0 (G #[nS,nS,ze]) 3 64 underlying33 hi bo bm cm rfl qd _ nn xs hs ah ⟨d,0,N⟩ 1 1 [u0,u1,u2] hx rfl
  (World.news_of_block (cs:=#[u0,u1,u2]) (t:=95) (fr:=(0,0)) hc) h1 qb qm qb hB W.heap.size rfl ?_
 exact qgd
theorem qx_lt{r:T3}{i:X}(h:i<R.length):qx (R++[r]) i=qx R i:=by
 exact qmd
theorem qx_at(R:L T3)(r:T3):qx (R++[r]) R.length=r:=by
 unfold qx;rw[gG,List.getElem?_append_right (Nat.le_refl _)];simp
theorem Hp.add{v c d:Z}{rec:T3}{cs:Array Z}(r:Hp w B v R xs cv lv)(hg:w.grownBy w' v.ownBlock)(ho:w'.ownsRow B 95 3 nw (R.length+1) (xs++[c,d,S rec.out])){zs us:L Z}(h1:w.ownsRow B 139 3 c rec.code.length zs)(h2:Ct rec.code rec.code.length zs)(h3:w.ownsRow B 136 3 d rec.looks.length us)(h4:Bn rec.looks rec.looks.length us)(hc:∀i,i<R.length->∀b,(cv i).ownBlock=M b->c.ownBlock≠M b)(hd:∀i,i<R.length->∀b,(lv i).ownBlock=M b->d.ownBlock≠M b)(hb:w'.heap[h]?=M (O cs 105 (0,0)))(x:Z):Fx (w'.setCell ⟨h,4,N⟩ x) B nw (R++[rec]):=by
 have ht:Dn w' h 105:=⟨_,hb⟩;exact qhm
theorem Gb.growQ(k:Gb B h sv tv n w ms s st v)(gi:B<=w.heap.size){R':L T3}(hq:w.ownsRow B 95 3 v.qv s.R.length xs)(hg:w.grownBy w' v.qv.ownBlock)(ct:∀b,nw.ownBlock=M b->v.qv.ownBlock=M b\/w.heap.size<=b)(hr:Fx (w'.setCell ⟨h,4,N⟩ nw) B nw R'):Gb B h sv tv n (w'.setCell ⟨h,4,N⟩ nw) ms ⟨s.T,R',s.ran,s.held⟩ st ⟨v.tx,nw,v.mv,v.kv,v.nv,v.ev⟩/\Dc B (Cj h v) (Cj h ⟨v.tx,nw,v.mv,v.kv,v.nv,v.ev⟩) w (w'.setCell ⟨h,4,N⟩ nw):=by
 obtain⟨ys,m1,m2⟩:=k.made;have hh:v.qv.ownBlock≠M h:=Ae hq qd k.blk;have hb:w'.heap[h]?=_:=Bx k.blk hg hh;have li:=Er hb 4 nw;simp only[List.setIfInBounds_toArray,List.set_cons_zero,List.set_cons_succ]at li;refine⟨⟨k.hB,li,Dg k.txt hg (apart k.txt hq qd) hb qd,hr,⟨ys,Dg m1 hg (apart m1 hq qd) hb qd,m2⟩,Dg k.stk hg (apart k.stk hq qd) hb qd,Dg k.ran hg (apart k.ran hq qd) hb qd,Dg k.held hg (apart k.held hq qd) hb qd,k.txa,k.tk,k.kn,k.ne⟩,?_⟩;refine⟨((Below.refl B w).grown hg gi (λj q=>(hq.lt j q).1)).setCell (p:=⟨h,4,N⟩) k.hB _,λb bu hx=>?_,λb hx=>?_⟩
 ·rw[Dj w' ⟨h,4,N⟩ _ b (λe=>hx (Or.inl e)),hg.block b bu (λq=>hx (Or.inr (Or.inl q.symm)))]
 ·rcases hx with q|q|q
  ·exact Or.inl (Or.inl q)
  ·rcases ct b q with q|q;exact Or.inl (Or.inr (Or.inl q));exact Or.inr q
  ·exact Or.inl (Or.inr (Or.inr q))
def NoteE(B h n:X)(sv tv:Z)(ms:Mm)(s:Sb)(st:L By)(v:Hv)(is:L I3)(ls:L G3)(c:Int)(t:By)(w:E)(e:Ending)(w':E):Prop:=
 (∃s' v' r,Fb n s is ls c t s' N/\e=H (Y #[G #[I c,S t,nS],I r])/\0<=r/\Dc B (Cj h v) (Cj h v') w w'/\Gb B h sv tv n w' ms s' st v')\/
 (∃s' b nv,Fb n s is ls c t s' (M b)/\e=H (Y #[G #[I 0,ze,nS],I (-1)])/\Dc B (Cj h v) (Zh h nv) w w'/\Fz B h st.length nv w' b)
theorem Yx{c:Int}{t:By}(h0:0<=c)(h5:c<=5)(ht:t.size<=2000)(a:Option Addr)(cap:X)(w:E):Calls prog 125 #[G #[I c,S t,J a 0 cap]] w λe w'=>e=H (S (Bj c t))/\Bw w w':=by
 obtain⟨m,rfl⟩:=Int.eq_ofNat_of_zero_le h0;exact Ps m t a cap w qb ht
theorem formB_ne(c:Int)(t:By):Bj c t≠⟨#[]⟩:=λh=>by
 have:(Bj c t).size=0:=by rw[h];rfl
 unfold Bj at this;rw[ByteArray.size_append,ByteArray.size_append]at this;have e:(⟨#[58]⟩:By).size=1:=rfl;omega
theorem gx_name(h:Mp ls)(i:X):(gx ls i).name.size<=9223372036854775807:=by
 rcases Nat.lt_or_ge i ls.length with k|k
 ·have:=(h _ (Lx k)).1.2.1;omega
 ·unfold gx;rw[gG,List.getElem?_eq_none k];show 0≤_;omega
theorem Hp.bl{v:Z}(r:Hp w B v R xs cv lv)(hb:Bw w w'):Hp w' B v R xs cv lv:=
 ⟨Ac r.row hb,r.fil,λi hi=>by obtain⟨ys,a,b⟩:=r.code i hi;exact⟨ys,Ac a hb,b⟩,λi hi=>by obtain⟨ys,a,b⟩:=r.look i hi;exact⟨ys,Ac a hb,b⟩,r.apc,r.apl⟩
theorem Fz.set1(k:Fz B h m nv w b){T:X}(hp:Dn w p T)(h1:T≠105)(h2:T≠9)(j:X)(x:Z):Fz B h m nv (w.setCell ⟨p,j,N⟩ x) b:=by
 obtain⟨pre,e,hl,hk,he,d1,⟨xs,d2,d4⟩,d3⟩:=k
 have hne:h≠p:=λq=>by
  obtain⟨cs,hc⟩:=hp;rw[q,hc]at hk;injection hk with hk;injection hk with _ h5;exact h1 h5
 refine⟨pre,e,hl,Fk hk hne x,?_,d1,⟨xs,Ap d2 hp h2 x,d4⟩,d3⟩
 cases b with
 | circle ch=>obtain⟨cv,a,b⟩:=he;exact⟨cv,Ap a hp h2 x,b⟩
 | deep nm=>exact he
 | clash A B=>exact he
 | full=>exact he
theorem Fz.set3(k:Fz B h m nv w b){T:X}(hp:Dn w p T)(h1:T≠105)(h2:T≠9)(u0 u1 u2:Z):Fz B h m nv (((w.setCell ⟨p,0,N⟩ u0).setCell ⟨p,1,N⟩ u1).setCell ⟨p,2,N⟩ u2) b:=((k.set1 hp h1 h2 0 u0).set1 (hp.set u0) h1 h2 1 u1).set1 ((hp.set u0).set u1) h1 h2 2 u2
theorem shopNote(B h n:X)(sv tv:Z)(ms:Mm)(s:Sb)(st:L By)(v:Hv)(a la:Option Addr)(ac lc:X)(is:L I3)(ls:L G3)(xs:L Z)(c:Int)(t:By)(w:E)(hs:Gb B h sv tv n w ms s st v)(hB:B<=w.heap.size)(h1:1<=n)(h8:n<=8)(fw:Gi n s)(du:Lp B w a is)(hp:Ao is=true)(hx:∀i,(ix is i).text.size<=9223372036854775807)(hl:w.ownsRow B 201 3 (J la ls.length lc) ls.length xs)(hf:Bn ls ls.length xs)(Eq:∀b,(Value.slice la ls.length lc).ownBlock=M b->¬ Cj h v b)(hle:ls.length<=200)(hls:Mp ls)(c0:0<=c)(c5:c<=5)(ht:t.size<=2000)(D7:s.ran.length+st.length<=1000):Calls prog 122 #[D (p_ h),G #[J a is.length ac],J la ls.length lc,G #[I c,S t,nS]] w λe w'=>NoteE B h n sv tv ms s st v is ls c t w e w':=by
 obtain⟨W,eW⟩:=Aj (((w.alloc (O #[J a is.length ac] 92)).alloc (O #[I c,S t,nS] 121)).alloc (O #[I 0,ze,nS] 121));have HW:Hd (Bw w W):=by show Below _ _ _;rw[←eW];exact((aN _ _).alloc qg _).alloc qh _
 obtain⟨Q,eQ⟩:=Aj w.heap.size;have HP0:Hd (W.heap[Q]?=M (O #[J a is.length ac] 92 (0,0))):=by show _=_;rw[←eW,←eQ];exact Sl (Sl (Hj _ _))
 have jp:Hd (W.heap[Q+1]?=M (O #[I c,S t,nS] 121 (0,0))):=by
  show _=_;rw[←eW,←eQ];have:=Hj (w.alloc (O #[J a is.length ac] 92)) (O #[I c,S t,nS] 121);rw[show(w.alloc (O #[J a is.length ac] 92)).heap.size=w.heap.size+1 from qg]at this;exact Sl this
 have tr:Hd (W.heap[Q+2]?=M (O #[I 0,ze,nS] 121 (0,0))):=by
  show _=_;rw[←eW,←eQ];have:=Hj ((w.alloc (O #[J a is.length ac] 92)).alloc (O #[I c,S t,nS] 121)) (O #[I 0,ze,nS] 121)
  rwa [show((w.alloc (O #[J a is.length ac] 92)).alloc (O #[I c,S t,nS] 121)).heap.size=w.heap.size+2 from qg]at this
 have HN:Hd (∀b,Q<=b->¬ Cj h v b):=λb hb=>hs.not qb;have No:Hd (Dc B (Cj h v) (Cj h v) w W):=Dc.of_below HW.o hB;have M2:=Ad (hs.bl HW.o);have HLW:=Ad (Ac hl HW.o);have HFL:=Ad hf;have HLN:=Ad Eq;have HCW:=Ad (du.belowB (HW.o.mono hB));have yp:B<=W.heap.size:=Nat.le_trans hB HW.o.size;have X1:=Ad hls;have oh:=Ad fw;have vh:=Ad hp;have HIX:=Ad hx;have E4:=Eb hp;clear hs hl hf Eq du hls fw hp hx;obtain⟨m,em⟩:=Aj ls.length;have EM:=Ad em;rw[em]at hle ⊢;clear em;go_enter func122,ntmps122;go_wp2_with fail
 try rw[eQ]
 clear eW
 go_loopw [10] (λi wr=>∃(k:X)(U:L By)(v':Hv),k<=m/\i=I k/\Hd (Dq n s.T (Jc (ls.take k)) U N)/\Hd (Vg n U)/\Hd (Dc B (Cj h v) (Cj h v') W wr)/\Hd (Gb B h sv tv n wr ms ⟨U,s.R,s.ran,s.held⟩ st v')) (λi _=>m-(intOf i).toNat)
 case atStart=>exact⟨0,s.T,v,Nat.zero_le _,rfl,.nil,oh.o.1,Dc.refl _,M2⟩
 case round=>
  obtain⟨k,U,v',hk,rfl,yw,pq,gj,HS⟩:=hrel;have bp:B<=wr.heap.size:=Nat.le_trans yp gj.o.bel.size;have pd:=Ad (gj.o.blk tr.o (HN.o _ qb))
  by_cases aj:k<m
  ·have iy:(k:Int)<(m:Int):=qb
   have jr:(0:Int)<=(k:Int):=qb;have t6:k<ls.length:=qbb;obtain⟨a2,c2,e2,J8⟩:=Gc (gj.o.own HLW.o HLN.o) HFL.o;rw[EM.o]at e2;cases e2;obtain⟨b,off,rfl,g1,g2,g3⟩:=J8 k t6;have hz:(gx ls k).sum.size<=2002:=(X1.o _ (Lx t6)).2;(have HSKIP:Hd ((gx ls k).ask=false->Dq n s.T (Jc (ls.take (k+1))) U N):=λq=>by rw[Po t6,Oa,q];simpa using yw.o);have HNEXT:Hd ((gx ls k).ask=true->∀U',Dq n U [(gx ls k).sum] U' N->Dq n s.T (Jc (ls.take (k+1))) U' N):=λq U' k=>by rw[Po t6,Oa,q];exact yw.o.app rfl k
   have HFALL:Hd ((gx ls k).ask=true->∀b,Yb n U (gx ls k).sum b->Dq n s.T (Jc ls++[Bj c t]) U (M b)):=λq b k=>by
    obtain⟨ys,ey⟩:=Xx t6;rw[ey,q,List.append_assoc];exact yw.o.app rfl (by simpa using k.put (ys++[Bj c t]))
   clear J8;generalize (gx ls k).name=x at *;generalize (gx ls k).sum=z at *;generalize (gx ls k).ask=y at *;cases y
   ·go_wp2_with fail
    go_roundw
    case rel=>exact⟨k+1,U,v',qb,qj,HSKIP.o qae,pq,gj,HS⟩
    case measure=>simp[intOf];omega
   ·go_wp2_with fail
    refine(shopPut B h n sv tv ms _ st v' z wr HS.o bp h1 h8 pq.o hz D7).mono ?_;rintro e w1 (⟨rfl,U',v2,tz,ci,di⟩|⟨rfl,b',nb,hfa,ci,rv⟩)
    ·have tr:=Ad (HNEXT.o qae U' (Dq.one tz))
     have HT2:Hd (Vg n U'):=(Dq.one tz).ok pq.o (λx hx=>by rw[List.mem_singleton]at hx;rw[hx];exact hz);have fy:=Ad (gj.o.trans ci);have cu:=Ad di;clear tz ci di g1 g2 g3;go_wp2_with fail;go_roundw
     case rel=>exact⟨k+1,U',v2,qb,qj,tr,HT2,fy,cu⟩
     case measure=>simp[intOf];omega
    ·have fy:=Ad (gj.o.trans ci)
     have vt:=Ad rv;have I0:=Ad (HFALL.o qae b' hfa);have it:=Ad (fy.o.blk tr.o (HN.o _ qb));clear hfa ci rv g1 g2 g3;exact qif
  ·have iy:¬ (k:Int)<(m:Int):=qb
   (have M5:Hd (Dq n s.T (Jc ls) U N):=by have:=yw.o;rwa [List.take_of_length_le qas]at this);have je:=Ad (gj.o.blk jp.o (HN.o _ qb));obtain⟨x0,x1,x2⟩:=Bb je.o;go_wp2_with fail;clear x0 x1 x2;refine(My c t wr c0 c5 ht).mono ?_;rintro e w0 ⟨rfl,ak⟩;have HFR0:=Ad (gj.o.trans (Dc.of_below ak bp));have ir:=Ad (HS.o.bl ak);have hB0:B<=w0.heap.size:=Nat.le_trans bp ak.size;clear ak je pd;go_wp2_with fail;refine(shopPut B h n sv tv ms _ st v' (Bj c t) w0 ir.o hB0 h1 h8 pq.o (Dt ht) D7).mono ?_;rintro e w1 (⟨rfl,U',v2,tz,ci,di⟩|⟨rfl,b',nb,hfa,ci,rv⟩);rotate_left 1
   ·have fy:=Ad (HFR0.o.trans ci)
    have vt:=Ad rv;have I0:Hd (Dq n s.T (Jc ls++[Bj c t]) U (M b')):=M5.o.app rfl (hfa.put []);have it:=Ad (fy.o.blk tr.o (HN.o _ qb));clear hfa ci rv;exact qif
   have HPC:Hd (Dq n s.T (Jc ls++[Bj c t]) U' N):=M5.o.app rfl (Dq.one tz);have fy:=Ad (HFR0.o.trans ci);have cu:=Ad di;have bg:B<=w1.heap.size:=Nat.le_trans hB0 ci.bel.size;clear tz ci di HS ir gj HFR0 yw M5 pq;have it:=Ad (fy.o.blk tr.o (HN.o _ qb));obtain⟨ys,cv,lw,um⟩:=cu.o.rcs;obtain⟨a2,p2,eqv⟩:=Ax um.row;replace eqv:v2.qv=J a2 s.R.length p2:=eqv;have k4:w1.cell? ⟨h,4,N⟩=M (J a2 s.R.length p2):=by rw[cH cu.o.blk,←eqv];rfl
   by_cases h2k:2000<=s.R.length
   ·have d2k:decide ((2000:Int)<=(s.R.length:Int))=true:=qh
    have HNR:Hd (Fb n s is ls c t ⟨U',s.R,s.ran,s.held⟩ (M .full)):=.recs HPC.o h2k;clear h2k um eqv;go_wp2_with fail;clear k4;refine(Mx h _ _ _ _ _ _ _ _ _ _ _ _ _ _ _ _ _ _ _ 11 ⟨#[]⟩ ⟨#[]⟩ ⟨#[]⟩ N 0 0 w1 cu.o.blk).mono ?_;rintro e w3 ⟨rfl,au,gv,aw⟩;have HF3:=Ad (fy.o.trans (cu.o.fall (Below.refl _ _) bg au gv));have vt:Hd (Fz B h st.length v2.nv w3 .full):=cu.o.dead gv [I 11,ze,nS,I 0,nS,nS,nS,nS,ze,ze] aw rfl (noOwn rfl _) D7;replace it:=Ad (HF3.o.blk tr.o (HN.o _ qb));replace fy:=HF3;clear au gv aw;obtain⟨z0,z1,z2,zf⟩:=Dx it.o;go_wp2_with fail;obtain⟨y0,y1,y2,_⟩:=Dx (Bp it.o (I 0) ze nS);exact bR (v:=Y #[G #[I 0,ze,nS],I (-1)]) (by simp[results,results122,go_sem,y0,y1,y2]) rfl (Or.inr ⟨_,_,_,HNR.o,rfl,(No.o.trans fy.o).set3 qb qb _ _ _,vt.o.set3 ⟨_,it.o⟩ qd qd _ _ _⟩)
   have d2k:decide ((2000:Int)<=(s.R.length:Int))=false:=qh;have jk:Hd (Fb n s is ls c t ⟨U',s.R++[⟨is,ls.map (Hm n),Aq n (Bj c t)⟩],s.ran,s.held⟩ N):=.ok HPC.o qb;have HREC:=Ad um;have EQV:=Ad eqv;clear um eqv;go_wp2_with fail;clear k4 d2k;have xk:=Ad (fy.o.blk HP0.o (HN.o _ qb));have je:=Ad (fy.o.blk jp.o (HN.o _ qb));have ig:=Ad (HCW.o.belowB fy.o.bel);have HLR:=Ad (fy.o.own HLW.o HLN.o);have uh:B<=w1.heap.size:=bg;refine Lt.begin 20 (λw'=>w'.cell? ⟨h,2,N⟩=M (I n)/\w'.cell? ⟨h,4,N⟩=M (J a2 s.R.length p2)/\w'.heap[Q]?=M (O #[J a is.length ac] 92 (0,0))/\w'.heap[Q+1]?=M (O #[I c,S t,nS] 121 (0,0))) qi ?_;obtain⟨wD,eD⟩:=Aj w1.drew;rw[eD];have dj:Bw w1 wD:=qab;clear eD;replace cu:=Ad (cu.o.bl dj);replace xk:=Ad (Af xk.o dj);replace je:=Ad (Af je.o dj);replace it:=Ad (Af it.o dj);replace fy:=Ad (fy.o.trans (Dc.of_below dj uh));replace ig:=Ad (ig.o.belowB (Below.mono dj uh));replace HLR:=Ad (Ac HLR.o dj);have ia:(λw'=>w'.cell? ⟨h,2,N⟩=M (I n)/\w'.cell? ⟨h,4,N⟩=M (J a2 s.R.length p2)/\w'.heap[Q]?=M (O #[J a is.length ac] 92 (0,0))/\w'.heap[Q+1]?=M (O #[I c,S t,nS] 121 (0,0))) wD:=⟨qbg,qgu,xk.o,je.o⟩;replace uh:B<=wD.heap.size:=Nat.le_trans uh dj.size;change K 0 _
   iterate 6
    refine Lt.ti (v:=?_) ia ?_ ?_;rotate_left 1
    ·exact qfp
    simp only[gX]
   refine Lt.ti (i:=6) (v:=?_) ia ?_ ?_;rotate_left 1
   ·rintro w ⟨s1,s2,s3,s4⟩
    have p0:=Jk s3;obtain⟨x0,x1,x2⟩:=Bb s4;exact qam
   simp only[gX];change K 7 _
   iterate 7
    refine Lt.ti (v:=?_) ia ?_ ?_;rotate_left 1
    ·exact qfp
    simp only[gX]
   refine Lt.sp (i:=14) (λK hK=>?_);go_simp;have hnt:=Wc a la N ac lc 0 is ls c t 0 n (Bj c t) wD ig.o.1 (by obtain⟨a3,c3,e3,q3⟩:=Gc HLR.o HFL.o;cases e3;exact q3) qb HIX.o (by rw[EM.o];exact hle) (λa cap w=>Yx c0 c5 ht a cap w) vh.o h1 h8 (formB_ne c t) (Dt ht) (λi hi=>by have:=(X1.o _ (Lx hi)).2;omega) (λi=>gx_name X1.o i);rw[EM.o]at hnt;refine hnt.mono ?_;rintro e wN ⟨hbN,⟨T4,u1,u2,rfl,hro⟩|⟨⟨i,hi,im⟩,_⟩⟩;rotate_left 1
   ·exact absurd (X1.o _ (Lx (by rw[EM.o];exact hi))).1 im
   obtain⟨zs,us,q1,q2,q3,q4⟩:=hro;have ki:=Ad q1;have Is:=Ad q2;have HQ3:=Ad q3;have HQ4:=Ad q4;clear q1 q2 q3 q4 T4 hnt;have hBD:=uh;replace cu:=Ad (cu.o.bl hbN);replace xk:=Ad (Af xk.o hbN);replace je:=Ad (Af je.o hbN);replace it:=Ad (Af it.o hbN);replace fy:=Ad (fy.o.trans (Dc.of_below hbN uh));replace ig:=Ad (ig.o.belowB (Below.mono hbN uh));replace HLR:=Ad (Ac HLR.o hbN);have wg:(λw'=>w'.cell? ⟨h,2,N⟩=M (I n)/\w'.cell? ⟨h,4,N⟩=M (J a2 s.R.length p2)/\w'.heap[Q]?=M (O #[J a is.length ac] 92 (0,0))/\w'.heap[Q+1]?=M (O #[I c,S t,nS] 121 (0,0))) wN:=⟨qbg,qgu,xk.o,je.o⟩;replace uh:B<=wN.heap.size:=Nat.le_trans uh hbN.size;refine hK.out _ _ (λ_=>wg) (λ_=>?_);clear hK K 
   try simp only[gX]
   refine Lt.sp (i:=15) (λK hK=>?_);go_simp;obtain⟨ua,uc,eu1⟩:=Ax ki.o;obtain⟨ub,ud,eu2⟩:=Ax HQ3.o;subst eu1;subst eu2;refine Bq (Q:=λx=>K _ x) ?_;intro wL ib HL
   try dsimp only
   obtain⟨dL,edL⟩:=Aj wN.heap.size;rw[edL]at HL ⊢;replace ki:=Ad (Ac ki.o ib);replace HQ3:=Ad (Ac HQ3.o ib);replace cu:=Ad (cu.o.bl ib);replace xk:=Ad (Af xk.o ib);replace je:=Ad (Af je.o ib);replace it:=Ad (Af it.o ib);replace fy:=Ad (fy.o.trans (Dc.of_below ib uh));have hS2:(λw'=>w'.cell? ⟨h,2,N⟩=M (I n)/\w'.cell? ⟨h,4,N⟩=M (J a2 s.R.length p2)/\w'.heap[Q]?=M (O #[J a is.length ac] 92 (0,0))/\w'.heap[Q+1]?=M (O #[I c,S t,nS] 121 (0,0))) wL:=⟨qbg,qgu,xk.o,je.o⟩;replace uh:B<=wL.heap.size:=Nat.le_trans uh ib.size;refine hK.out _ _ (λ_=>hS2) (λ_=>?_);clear hK K 
   try simp only[gX]
   refine Lt.sp (i:=16) (λK hK=>?_);have O8:=((HREC.o.bl dj).bl hbN).bl ib;have hq:=O8.row;rw[EQV.o]at hq;refine step_appQR rfl qo B (J a2 s.R.length p2) s.R.length ys qo hq dL _ _ _ qo HL.o qcx uh qb ?_;intro g' ai w7 ah ae ct;have hqr:w7.heap[h]?=_:=Bx cu.o.blk ae (Ae hq qd cu.o.blk);rw[←EQV.o]at ae;have hadd:=O8.add (rec:=⟨is,ls.map (Hm n),Aq n (Bj c t)⟩) ae ah (Ah ki.o hBD) Is.o (Ah HQ3.o hBD) HQ4.o (λi hi b q1 q2=>by have:=(ki.o.lt b q2).1;obtain⟨ys,r1,_⟩:=HREC.o.code i hi;have:=(r1.lt b q1).2;have:=dj.size;omega) (λi hi b q1 q2=>by have:=(HQ3.o.lt b q2).1;obtain⟨ys,r1,_⟩:=HREC.o.look i hi;have:=(r1.lt b q1).2;have:=dj.size;omega) hqr (J (p_ g') (s.R.length+1) ai)
   have sw:∀b,(Value.slice (p_ g') (s.R.length+1) ai).ownBlock=M b->v2.qv.ownBlock=M b\/wL.heap.size<=b:=λb q=>by
    obtain rfl:g'=b:=qar
    rcases ct with q|q
    ·exact Or.inl (by rw[EQV.o];exact q)
    ·right;omega
   have HG:=Ad (cu.o.growQ uh O8.row ae sw hadd);have N6:=Ad hqr;have hq0:=Ae hq qd xk.o;have l7:=Ae hq qd je.o;have hq3:=Ae hq qd it.o;rw[←EQV.o]at hq0 l7 hq3;have HR07:=Ad (Bx xk.o ae hq0);have HR17:=Ad (Bx je.o ae l7);have HR37:=Ad (Bx it.o ae hq3);have H9:(λw'=>w'.cell? ⟨h,2,N⟩=M (I n)/\w'.cell? ⟨h,4,N⟩=M (J a2 s.R.length p2)/\w'.heap[Q]?=M (O #[J a is.length ac] 92 (0,0))/\w'.heap[Q+1]?=M (O #[I c,S t,nS] 121 (0,0))) w7:=⟨(by rw[cH N6.o];rfl),(by rw[cH N6.o,←EQV.o];rfl),HR07.o,HR17.o⟩;refine hK.out _ _ (λ_=>H9) (λ_=>?_);clear hK K ae ah hadd O8 hq hqr hq0 l7 hq3;simp only[gX];refine Lt.sp (i:=17) (λK hK=>?_);go_simp;refine hK.out _ _ (λ_=>H9) (λ_=>?_);clear hK K 
   try simp only[gX]
   refine Lt.sp (i:=18) (λK hK=>?_);go_simp;refine hK.out _ _ (λ_=>H9) (λ_=>?_);clear hK K 
   try simp only[gX]
   refine Lt.ti (i:=19) (v:=?_) H9 ?_ ?_;rotate_left 1
   ·exact qfp
   simp only[gX];have k4:w7.cell? ⟨h,4,N⟩=M (J a2 s.R.length p2):=H9.2.1;have kf:=fZ N6.o;refine Lt.sp (i:=20) (λK hK=>?_);go_simp;refine hK.out _ _ (λh=>absurd rfl h) (λ_=>?_);clear hK K;refine Lt.done qi ?_ _;obtain⟨V,eV⟩:=Aj (w7.setCell ⟨h,4,N⟩ (J (p_ g') (s.R.length+1) ai));rw[eV]at HG ⊢;(have HR1V:V.heap[Q+1]?=M (O #[I c,S t,nS] 121 (0,0)):=by rw[←eV];exact Fk HR17.o (λq=>HN.o _ (Nat.le_succ Q) (Or.inl q)) _);(have W3:V.heap[Q+2]?=M (O #[I 0,ze,nS] 121 (0,0)):=by rw[←eV];exact Fk HR37.o (λq=>HN.o _ (Nat.le_add_right Q 2) (Or.inl q)) _);have Z8:=Ad (No.o.trans (fy.o.trans HG.o.2));have bh:=Ad HG.o.1;clear eV k4 kf H9 HG N6 HR07 HR17 HR37;have k4:=cK bh.o.blk 4;obtain⟨x0,x1,x2⟩:=Bb HR1V;obtain⟨z0,z1,z2,zf⟩:=Dx W3;have hne:h≠Q+2:=λq=>HN.o _ (Nat.le_add_right Q 2) (Or.inl q.symm);go_wp2_with fail;have HV1:=Ad HR1V;have HV3:=Ad W3;have I1:=Ad k4;clear HR1V W3 k4 x0 x1 x2 z0 z1 z2 zf;refine Lt.begin 9 (λw'=>w'.cell? ⟨h,4,N⟩=M (J (p_ g') (s.R.length+1) ai)/\w'.heap[Q+1]?=M (O #[I c,S t,nS] 121 (0,0))) qi ?_;obtain⟨wE,eD⟩:=Aj V.drew;rw[eD];have dj:Bw V wE:=qab;clear eD;replace HV1:=Ad (Af HV1.o dj);replace HV3:=Ad (Af HV3.o dj);replace I1:=Ad (Aa dj I1.o);replace bh:=Ad (bh.o.bl dj);replace Z8:=Ad (Z8.o.trans (Dc.of_below dj (Nat.le_trans hB Z8.o.bel.size)));have ia:(λw'=>w'.cell? ⟨h,4,N⟩=M (J (p_ g') (s.R.length+1) ai)/\w'.heap[Q+1]?=M (O #[I c,S t,nS] 121 (0,0))) wE:=⟨I1.o,HV1.o⟩;change K 0 _
   iterate 8
    refine Lt.ti (v:=?_) ia ?_ ?_;rotate_left 1
    ·exact qbm
    simp only[gX]
   obtain⟨z0,z1,z2,zf⟩:=Dx HV3.o;refine Lt.sp (i:=8) (λK hK=>?_);go_simp;have lm:(λw'=>w'.cell? ⟨h,4,N⟩=M (J (p_ g') (s.R.length+1) ai)/\w'.heap[Q+1]?=M (O #[I c,S t,nS] 121 (0,0))) (((wE.setCell ⟨Q+2,0,N⟩ (I c)).setCell ⟨Q+2,1,N⟩ (S t)).setCell ⟨Q+2,2,N⟩ nS):=⟨by rw[World.cell?_setCell_far _ _ _ _ qh,World.cell?_setCell_far _ _ _ _ qh,World.cell?_setCell_far _ _ _ _ qh];exact I1.o,Fk (Fk (Fk HV1.o qb _) qb _) qb _⟩;refine hK.out _ _ (λ_=>lm) (λ_=>?_);clear hK K z0 z1 z2 zf
   try simp only[gX]
   refine Lt.sp (i:=9) (λK hK=>?_);go_simp;refine hK.out _ _ (λh=>absurd rfl h) (λ_=>?_);clear hK K;refine Lt.done qi ?_ _;go_wp2_with fail;have W3:=HV3.o;obtain⟨y0,y1,y2,_⟩:=Dx (Bp W3 (I c) (S t) nS);exact bR (v:=Y #[G #[I c,S t,nS],I (s.R.length:Int)]) (by simp[results,results122,go_sem,y0,y1,y2];try exact IntWalk.i64_in _ ⟨qb,qb⟩) rfl (Or.inl ⟨_,_,_,jk.o,rfl,qb,Z8.o.set3 qb qb _ _ _,bh.o.set3 ⟨_,W3⟩ qd _ _ _⟩)
def MakeP5(B h:X)(sv tv:Z)(n:X)(ss:L S2)(ts:L T2)(ms:Mm)(s:Sb)(st:L By)(v:Hv)(nm:By)(w:E)(e:Ending)(w':E):Prop:=
 ∃ms' s' a,Ba ss ts n ms s st (.make nm) ms' s' a/\((∃d v',a=.ok d/\e=H (G #[I d.c,S d.t,nS])/\Dc B (Cj h v) (Cj h v') w w'/\Gb B h sv tv n w' ms' s' st v')\/(∃b nv,a=.bad b/\e=H (G #[I (Ja b),ze,nS])/\Dc B (Cj h v) (Zh h nv) w w'/\Fz B h st.length nv w' b))
def Ob(W0:E)(h:X)(sv tv:Z)(n:X)(ss:L S2)(ts:L T2)(st:L By):Prop:=∀(ms:Mm)(s:Sb)(v:Hv)(nm:By)(w:E),Bw W0 w->Gb W0.heap.size h sv tv n w ms s st v->Fy ss ts ms st->Gi n s->Ar nm->ms.length<=400200*Dh ts ms st->Pf ts ms s st->Calls prog 70 #[D (p_ h),S nm] w λe w'=>MakeP5 W0.heap.size h sv tv n ss ts ms s st v nm w e w'
def HoldsP(B h:X)(sv tv:Z)(n:X)(ss:L S2)(ts:L T2)(ms:Mm)(s:Sb)(st:L By)(v:Hv)(gs:L G3)(w:E)(e:Ending)(w':E):Prop:=
 ∃ms' s' a,Ba ss ts n ms s st (.holds gs 0) ms' s' a/\((∃y v',a=(if y then .yes else .no)/\e=H (F y)/\Dc B (Cj h v) (Cj h v') w w'/\Gb B h sv tv n w' ms' s' st v')\/(∃b nv,a=.bad b/\e=H (F false)/\Dc B (Cj h v) (Zh h nv) w w'/\Fz B h st.length nv w' b))
theorem Gb.notT(k:Gb B h sv tv n w ms s st v){B' e sz l:X}{u:Z}(ho:w.ownsRow B' e sz u l xs)(h1:e≠105)(h2:e≠95)(h3:e≠166)(h4:e≠9):∀b,u.ownBlock=M b->¬ Cj h v b:=by
 intro b q;obtain⟨xs,m1,m2⟩:=k.made;obtain⟨ys,cv,lv,r⟩:=k.rcs;rintro(q2|q2|q2|q2|q2|q2)
 ·subst q2;exact Ae ho (Ne.symm h1) k.blk q
 ·exact apart ho r.row h2 b q q2
 ·exact apart ho m1 h3 b q q2
 ·exact apart ho k.stk h4 b q q2
 ·exact apart ho k.ran h4 b q q2
 ·exact apart ho k.held h4 b q q2
theorem Wd(c:Int)(w:E)(h5:5<c):Calls prog 125 #[G #[I c,ze,nS]] w λe w'=>e=H ze/\Bw w w':=by
 have d1:decide (c<0)=false:=qh;obtain⟨W,eW⟩:=Aj (w.alloc (O #[I c,ze,nS] 121));have hb:Bw w W:=qgo;have k0:W.cell? ⟨w.heap.size,0,N⟩=M (I c):=by rw[←eW];simp[go_sem]
 go_enter func125,ntmps125;go_wp2;go_ret;exact⟨rfl,hb⟩
theorem codeB_gt(b:Gl):5<Ja b:=by cases b<;>simp[Ja]
theorem Dc.drewN{AM X':X->Prop}(h:Dc B AM X' w w')(k:X):Dc B AM X' w (w'.drewN k):=⟨below_drewN h.bel k,λb hb hx=>by rw[World.heap_drewN];exact h.keep b hb hx,h.new⟩
theorem Fz.drewN(d:Fz B h m nv w b)(k:X):Fz B h m nv (w.drewN k) b:=d.frx (below_drewN (Below.refl _ _) k)
theorem holds_any(W0:E)(h:X)(sa ta:Option Addr)(c1 c2 n:X)(ss:L S2)(ts:L T2)(hE:He W0 sa ta ss ts)(st:L By)(hM:Ob W0 h (J sa ss.length c1) (J ta ts.length c2) n ss ts st)(h1:1<=n)(h8:n<=8)(ms:Mm)(s:Sb)(v:Hv)(qa la:Option Addr)(ql qc lc:X)(gs:L G3)(ys:L Z)(out:By)(w:E)(hb:Bw W0 w)(hs:Gb W0.heap.size h (J sa ss.length c1) (J ta ts.length c2) n w ms s st v)(hi:Fy ss ts ms st)(fw:Gi n s)(hgs:GsOk gs)(hr:w.ownsRow W0.heap.size 136 3 (J la gs.length lc) gs.length ys)(hf:Bn gs gs.length ys)(cz:∀i,i<gs.length->(gx gs i).sum.size<=1048576)(hph:ms.length+gs.length<=400200*Dh ts ms st)(P7:Pf ts ms s st):Calls prog 120 #[D (p_ h),G #[J qa ql qc,J la gs.length lc,S out]] w λe w'=>HoldsP W0.heap.size h (J sa ss.length c1) (J ta ts.length c2) n ss ts ms s st v gs w e w':=by
 obtain⟨m,em⟩:=Aj gs.length;have EM:=Ad em;obtain⟨W,eW⟩:=Aj (w.alloc (O #[J qa ql qc,J la m lc,S out] 95));have HW:Hd (Bw w W):=by show Below _ _ _;rw[←eW];exact aN _ _
 obtain⟨Q,eQ⟩:=Aj w.heap.size;have HX:=Ad (nW eW eQ);have HN:Hd (¬ Cj h v Q):=hs.not qb;have gi:W0.heap.size<=w.heap.size:=hb.size;have No:Hd (Dc W0.heap.size (Cj h v) (Cj h v) w W):=Dc.of_below HW.o gi;have M2:=Ad (hs.bl HW.o);have I7:=Ad (hb.trans (HW.o.mono gi));have HLW:=Ad (Ac hr HW.o);have HFL:=Ad hf;have HLN:=Ad (hs.notT hr qd qd qd qd);have HI0:=Ad hi;have sj:=Ad fw;have HGS:=Ad hgs;have HSZ:=Ad cz;have HM:=Ad hM;have HE:=Ad hE;have HPH:=Ad hph;have HCN0:=Ad P7;have rm:m<=200:=by rw[←em];exact hgs.1
 rw[em];clear hs hb hr hf hi fw hgs cz hM hE em hph P7;go_enter func120,ntmps120;go_wp2_with fail
 try rw[eQ]
 clear eW
 go_loopw [5] (λi wr=>∃(k:X)(ms':Mm)(s':Sb)(v':Hv),k<=m/\i=I k/\Hd (∀bv s2 a,Ba ss ts n ms' s' st (.holds gs k) bv s2 a->Ba ss ts n ms s st (.holds gs 0) bv s2 a)/\Hd (Fy ss ts ms' st)/\Hd (Gi n s')/\Hd (400200*Dh ts ms st+ms'.length<=ms.length+k+400200*Dh ts ms' st)/\Hd (Pf ts ms' s' st)/\Hd (Dc W0.heap.size (Cj h v) (Cj h v') W wr)/\Hd (Gb W0.heap.size h (J sa ss.length c1) (J ta ts.length c2) n wr ms' s' st v')) (λi _=>m-(intOf i).toNat)
 case atStart=>exact⟨0,ms,s,v,Nat.zero_le _,rfl,(λ_ _ _ k=>k),HI0,sj,(by show _<=_;omega:400200*Dh ts ms st+ms.length<=ms.length+0+400200*Dh ts ms st),HCN0,Dc.refl _,M2⟩
 case round=>
  obtain⟨k,ms',s',v',hk,rfl,ig,HI,HK,HC,om,gj,HS⟩:=hrel;have wt:=Ad (I7.o.trans gj.o.bel);have bp:W0.heap.size<=wr.heap.size:=wt.o.size;have HXr:=Ad (gj.o.blk HX.o HN.o);obtain⟨x0,x1,x2⟩:=Bb HXr.o
  by_cases aj:k<m
  rotate_left 1
  ·have iy:¬ (k:Int)<(m:Int):=qb
   have HY:=Ad (ig.o _ _ _ (.hend (ss:=ss) (ts:=ts) (n:=n) (ms:=ms') (s:=s') (st:=st) (gs:=gs) (k:=k) qas));go_wp2_with fail;go_ret;exact⟨ms',s',.yes,HY.o,Or.inl ⟨true,v',rfl,rfl,No.o.trans gj.o,HS.o⟩⟩
  have iy:(k:Int)<(m:Int):=qb;have jr:(0:Int)<=(k:Int):=qb;have t6:k<gs.length:=qbb;obtain⟨a2,cc2,e2,J8⟩:=Gc (gj.o.own HLW.o HLN.o) HFL.o;rw[EM.o]at e2;cases e2;obtain⟨b,off,rfl,g1,g2,g3⟩:=J8 k t6;have sf:=Ad (HGS.o.2 k t6);have HZS:=Ad (HSZ.o k t6);have X2:Hd ((gx gs k).ask=false->Aq n (Cq (Ck ss ts (gx gs k).name))=(gx gs k).sum->∀bv s2 a,Ba ss ts n ms' s' st (.holds gs (k+1)) bv s2 a->Ba ss ts n ms s st (.holds gs 0) bv s2 a):=λq1 q2 bv s2 a q3=>ig.o _ _ _ (.hhas t6 q1 q2 q3);have HHNO:Hd ((gx gs k).ask=false->Aq n (Cq (Ck ss ts (gx gs k).name))≠(gx gs k).sum->Ba ss ts n ms s st (.holds gs 0) ms' s' .no):=λq1 q2=>ig.o _ _ _ (.hhasno t6 q1 q2);have X4:Hd ((gx gs k).ask=true->∀ms1 s1 d,Ba ss ts n ms' s' st (.make (gx gs k).name) ms1 s1 (.ok d)->Aq n (Bj d.c d.t)=(gx gs k).sum->∀bv s2 a,Ba ss ts n ms1 s1 st (.holds gs (k+1)) bv s2 a->Ba ss ts n ms s st (.holds gs 0) bv s2 a):=λq1 ms1 s1 d q2 q3 bv s2 a q4=>ig.o _ _ _ (.hask t6 q1 q2 q3 q4);have HANO:Hd ((gx gs k).ask=true->∀ms1 s1 d,Ba ss ts n ms' s' st (.make (gx gs k).name) ms1 s1 (.ok d)->Aq n (Bj d.c d.t)≠(gx gs k).sum->Ba ss ts n ms s st (.holds gs 0) ms1 s1 .no):=λq1 ms1 s1 d q2 q3=>ig.o _ _ _ (.haskno t6 q1 q2 q3);have HABD:Hd ((gx gs k).ask=true->∀ms1 s1 b,Ba ss ts n ms' s' st (.make (gx gs k).name) ms1 s1 (.bad b)->Ba ss ts n ms s st (.holds gs 0) ms1 s1 (.bad b)):=λq1 ms1 s1 b q2=>ig.o _ _ _ (.haskbad t6 q1 q2);clear J8;generalize (gx gs k).name=x at *;generalize (gx gs k).sum=z at *;generalize (gx gs k).ask=y at *;obtain⟨AH,eG⟩:=Aj wr.heap.size;obtain⟨wG,eWG⟩:=Aj (wr.alloc (O #[S x,F y,S z] 136));(have HBG:Hd (Bw wr wG):=by show Below _ _ _;rw[←eWG];exact aN _ _);have HG:=Ad (nW eWG eG);have wo:=Ad (HS.o.bl HBG.o);have HFG:=Ad (gj.o.trans (Dc.of_below HBG.o bp));have N4:=Ad (wt.o.trans (HBG.o.mono bp));have HNG:Hd (¬ Cj h v' AH):=HS.o.not qb;obtain⟨d0,d1,d2⟩:=Bb HG.o;go_wp2_with fail;clear eWG d0 d1 d2 x0 x1 x2 g1 g2 g3;refine(has_any h sa ta c1 c2 ss ts x wG qbv qbv (HE.o.rs.bl N4.o) (HE.o.rt.bl N4.o) (zo HE.o.l1) (zo HE.o.l2)).mono ?_;rintro e w1 ⟨af,rfl⟩;have hBG:W0.heap.size<=wG.heap.size:=N4.o.size;replace wo:=Ad (wo.o.bl af);replace HG:=Ad (Af HG.o af);replace HFG:=Ad (HFG.o.trans (Dc.of_below af hBG));replace N4:=Ad (N4.o.trans (af.mono hBG));have bj:W0.heap.size<=w1.heap.size:=N4.o.size;clear af hBG;obtain⟨tb,etb⟩:=Aj (Ck ss ts x);rw[etb];rw[etb]at X2 HHNO;clear etb;go_wp2_with fail;refine(Lv tb w1).mono ?_;rintro e w1' ⟨rfl,rfl⟩;obtain⟨d0,d1,d2⟩:=Bb HG.o;have hfs:(Cq tb).size<=1048576:=zo (Ih tb);cases y
  ·go_wp2_with fail
   clear d0 d1 d2;have uh:=bj;obtain⟨sm,esm⟩:=Aj (Aq n (Cq tb));(have tj:Hd (∀V:E,Calls prog 45 #[S (Cq tb),I n] V λe w'=>e=H (S sm)/\Bw V w'):=λV=>by rw[←esm];exact Fp _ n V hfs h1 h8);have ESM:=Ad esm;clear esm;refine Lt.begin 99 (λw'=>w'.cell? ⟨h,2,N⟩=M (I n)/\w'.cell? ⟨h,9,N⟩=M (F false)/\w'.heap[AH]?=M (O #[S x,F false,S z] 136 (0,0))) qi ?_;obtain⟨wD,eD⟩:=Aj w1.drew;rw[eD];have dj:Bw w1 wD:=qab;clear eD;replace wo:=Ad (wo.o.bl dj);replace HG:=Ad (Af HG.o dj);replace HFG:=Ad (HFG.o.trans (Dc.of_below dj uh));have ia:(λw'=>w'.cell? ⟨h,2,N⟩=M (I n)/\w'.cell? ⟨h,9,N⟩=M (F false)/\w'.heap[AH]?=M (O #[S x,F false,S z] 136 (0,0))) wD:=⟨qbv,qbv,HG.o⟩;replace uh:W0.heap.size<=wD.heap.size:=Nat.le_trans uh dj.size;change K 0 _
   iterate 11
    refine Lt.ti (v:=?_) ia ?_ ?_;rotate_left 1
    ·exact qau
    simp only[gX]
   change K 12 _
   iterate 2
    refine Lt.ti (v:=?_) ia ?_ ?_;rotate_left 1
    ·exact qau
    simp only[gX]
   refine Lt.sp (i:=11) (λK hK=>?_);go_simp;refine(tj.o _).mono ?_;rintro e wS ⟨rfl,hbS⟩;replace wo:=Ad (wo.o.bl hbS);replace HG:=Ad (Af HG.o hbS);replace HFG:=Ad (HFG.o.trans (Dc.of_below hbS uh));have wg:(λw'=>w'.cell? ⟨h,2,N⟩=M (I n)/\w'.cell? ⟨h,9,N⟩=M (F false)/\w'.heap[AH]?=M (O #[S x,F false,S z] 136 (0,0))) wS:=⟨qbv,qbv,HG.o⟩;refine hK.out _ _ (λ_=>wg) (λ_=>?_);clear hK K hbS
   try simp only[gX]
   by_cases hq:sm=z
   ·have dq:=Fd hq
    change K 14 _
    iterate 2
     refine Lt.ti (v:=?_) wg ?_ ?_;rotate_left 1
     ·exact qau
     simp only[gX]
    refine Lt.done qi ?_ _;go_wp2_with fail;go_roundw
    case rel=>exact⟨k+1,ms',s',v',qb,qj,(X2.o qae qex),HI,HK,(by have:=HC.o;show _<=_;omega:400200*Dh ts ms st+ms'.length<=ms.length+(k+1)+400200*Dh ts ms' st),om,HFG,wo⟩
    case measure=>simp[intOf];omega
   ·have dq:=Hh hq
    change K 14 _
    iterate 2
     refine Lt.ti (v:=?_) wg ?_ ?_;rotate_left 1
     ·exact qau
     simp only[gX]
    refine Lt.done qi ?_ _;go_wp2_with fail;go_ret;exact⟨ms',s',.no,(HHNO.o qae qex),Or.inl ⟨false,v',rfl,rfl,No.o.trans HFG.o,wo.o⟩⟩
  ·go_wp2_with fail
   clear d0 d1 d2;refine(HM.o ms' s' v' x w1 N4.o wo.o HI.o HK.o sf.o (by have:=HC.o;have:=HPH.o;rw[EM.o]at this;omega) om.o).mono ?_;rintro e w2 ⟨bv,s2,a2,bu,⟨dd,v2,rfl,rfl,ci,di⟩|⟨bb,nb,rfl,rfl,ci,rv⟩⟩;rotate_left 1
   ·have ll:=Ad (HABD.o qae _ _ _ bu)
    have fy:=Ad (HFG.o.trans ci);have vt:=Ad rv;have bg:W0.heap.size<=w2.heap.size:=Nat.le_trans bj ci.bel.size;clear bu ci rv;go_wp2_with fail;refine(Wd _ w2 (codeB_gt bb)).mono ?_;rintro e w3 ⟨rfl,au⟩;replace fy:=Ad (fy.o.trans (Dc.of_below au bg));replace vt:=Ad (vt.o.frx au);clear au;obtain⟨k9,_,_⟩:=vt.o.cells;go_wp2_with fail
    go_quiet (fail)
    go_wp2_with fail;go_ret;exact⟨_,_,_,ll.o,Or.inr ⟨bb,nb,rfl,rfl,No.o.trans (fy.o.drewN _),vt.o.drewN _⟩⟩
   obtain⟨i1,i2,i3,i4⟩:=Ba.inv HE.o.v bu HI.o HK.o sf.o (λb q=>qw);have xd:=Ba.cost HE.o.v bu HI.o HK.o sf.o (λb q=>qw);have A8:=Ad (Ba.cntM HE.o.v bu HI.o HK.o sf.o (λb q=>qw) rfl om.o);have HMD:=Ad (i1.done _ _ i4);have I2:=Ad i1;have gg:=Ad i2;have ll:=Ad bu;(have HC2:Hd (400200*Dh ts ms st+bv.length<=ms.length+(k+1)+400200*Dh ts bv st):=by have:=HC.o;show _<=_;simp only[Pe]at xd;omega);have fy:=Ad (HFG.o.trans ci);have cu:=Ad di;have bg:W0.heap.size<=w2.heap.size:=Nat.le_trans bj ci.bel.size;have I4:=Ad (ci.blk HG.o HNG.o);clear bu ci di i1 i2 i3 i4 xd;obtain⟨dc,edc⟩:=Aj dd.c;obtain⟨dt,edt⟩:=Aj dd.t;rw[edc,edt];have HFO:Hd (∀V:E,Calls prog 125 #[G #[I dc,S dt,nS]] V λe w'=>e=H (S (Bj dc dt))/\Bw V w'):=λV=>My dc dt V (by rw[←edc];exact HMD.o.c0) (by rw[←edc];exact HMD.o.c5) qhl;have hfz:(Bj dc dt).size<=1048576:=zo (Dt (c:=dc) (t:=dt) qhl);have vg:Hd (Aq n (Bj dc dt)=z->∀lx s3 a,Ba ss ts n bv s2 st (.holds gs (k+1)) lx s3 a->Ba ss ts n ms s st (.holds gs 0) lx s3 a):=λq=>X4.o qae _ _ _ ll.o (by rw[edc,edt];exact q);have HNOO:Hd (Aq n (Bj dc dt)≠z->Ba ss ts n ms s st (.holds gs 0) bv s2 .no):=λq=>HANO.o qae _ _ _ ll.o (by rw[edc,edt];exact q);clear edc edt;go_wp2_with fail;refine(HFO.o w2).mono ?_;rintro e w3 ⟨rfl,au⟩;replace fy:=Ad (fy.o.trans (Dc.of_below au bg));replace cu:=Ad (cu.o.bl au);replace I4:=Ad (Af I4.o au);have uh:W0.heap.size<=w3.heap.size:=Nat.le_trans bg au.size;clear au;go_wp2_with fail;obtain⟨sm,esm⟩:=Aj (Aq n (Bj dc dt));(have tj:Hd (∀V:E,Calls prog 45 #[S (Bj dc dt),I n] V λe w'=>e=H (S sm)/\Bw V w'):=λV=>by rw[←esm];exact Fp _ n V hfz h1 h8);have ESM:=Ad esm;clear esm;refine Lt.begin 99 (λw'=>w'.cell? ⟨h,2,N⟩=M (I n)/\w'.cell? ⟨h,9,N⟩=M (F false)/\w'.heap[AH]?=M (O #[S x,F true,S z] 136 (0,0))) qi ?_;obtain⟨wD,eD⟩:=Aj w3.drew;rw[eD];have dj:Bw w3 wD:=qab;clear eD;replace cu:=Ad (cu.o.bl dj);replace I4:=Ad (Af I4.o dj);replace fy:=Ad (fy.o.trans (Dc.of_below dj uh));have ia:(λw'=>w'.cell? ⟨h,2,N⟩=M (I n)/\w'.cell? ⟨h,9,N⟩=M (F false)/\w'.heap[AH]?=M (O #[S x,F true,S z] 136 (0,0))) wD:=⟨qbg,qbg,I4.o⟩;replace uh:W0.heap.size<=wD.heap.size:=Nat.le_trans uh dj.size;change K 0 _
   iterate 11
    refine Lt.ti (v:=?_) ia ?_ ?_;rotate_left 1
    ·exact qau
    simp only[gX]
   change K 12 _
   iterate 2
    refine Lt.ti (v:=?_) ia ?_ ?_;rotate_left 1
    ·exact qau
    simp only[gX]
   refine Lt.sp (i:=11) (λK hK=>?_);go_simp;refine(tj.o _).mono ?_;rintro e wS ⟨rfl,hbS⟩;replace cu:=Ad (cu.o.bl hbS);replace I4:=Ad (Af I4.o hbS);replace fy:=Ad (fy.o.trans (Dc.of_below hbS uh));have wg:(λw'=>w'.cell? ⟨h,2,N⟩=M (I n)/\w'.cell? ⟨h,9,N⟩=M (F false)/\w'.heap[AH]?=M (O #[S x,F true,S z] 136 (0,0))) wS:=⟨qbg,qbg,I4.o⟩;refine hK.out _ _ (λ_=>wg) (λ_=>?_);clear hK K hbS
   try simp only[gX]
   by_cases hq:sm=z
   ·have dq:=Fd hq
    change K 14 _
    iterate 2
     refine Lt.ti (v:=?_) wg ?_ ?_;rotate_left 1
     ·exact qau
     simp only[gX]
    refine Lt.done qi ?_ _;go_wp2_with fail;go_roundw
    case rel=>exact⟨k+1,bv,s2,v2,qb,qj,(vg.o qex),I2,gg,HC2,A8,fy,cu⟩
    case measure=>simp[intOf];omega
   ·have dq:=Hh hq
    change K 14 _
    iterate 2
     refine Lt.ti (v:=?_) wg ?_ ?_;rotate_left 1
     ·exact qau
     simp only[gX]
    refine Lt.done qi ?_ _;go_wp2_with fail;go_ret;exact⟨bv,s2,.no,(HNOO.o qex),Or.inl ⟨false,v2,rfl,rfl,No.o.trans fy.o,cu.o⟩⟩
end Go.Proofs.YtoakjccojifagaaGreatDoor
