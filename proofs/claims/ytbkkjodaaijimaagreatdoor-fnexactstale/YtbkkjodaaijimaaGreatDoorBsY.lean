import Derived.Test.YtbkkjodaaijimaaGreatDoorBdC
import Derived.Test.YtbkkjodaaijimaaGreatDoorBsQ
import Derived.Test.YtbkkjodaaijimaaGreatDoorBsT
import Derived.Test.YtbkkjodaaijimaaGreatDoorBsU
namespace Go.Proofs.YtbkkjodaaijimaaGreatDoor
open Value renaming slice->J,string->S,bool->F,agg->G,pointer->D,tuple->Y
open Option renaming some->M,none->N
open Obj renaming cells->O
open Go renaming Value->Z,World->E
open Ending renaming returned->H
open _root_ renaming List->L,Nat->X
set_option maxHeartbeats 8000000
set_option maxRecDepth 100000
open _root_.Go.Proofs.Tryz Go.RowKit Go.Deep
set_option linter.unusedVariables false
set_option linter.unusedSimpArgs false
variable {B h n k m p:X} {sv tv nw nv:Z} {w w3 w':E} {ms:Mm} {s:Sb} {st T:L By} {b:Hm} {xs:L Z} {x:By} {ls:L G3} {R:L T3} {cv lv:X->Z}
def Xh(n:X)(T:L By)(x:By)(b:Hm):Prop:=∃r,Rp n T (Av n x) r/\((∃A B,b=.clash A B/\Iv n T x r 2 T A B)\/(b=.full/\Iv n T x r 3 T ⟨#[]⟩ ⟨#[]⟩))
theorem Fy.fall{w2:E}{v:Hv}(k:Fy B h sv tv n w ms s st v)(hb:Bw w w2)(fy:B<=w.heap.size)(h3:Below h w2 w3)(hk:∀b,b<w2.heap.size->b≠h->w3.heap[b]?=w2.heap[b]?):Cw B (Bz h v) (Yo h v.nv) w w3:=by
 have hs:=hb.size;exact⟨(hb.mono fy).trans (h3.mono k.hB),λb hl hx=>(hk b qb (λe=>hx (Or.inl e))).trans (hb.block b hl),λb q=>Or.inl (by rcases q with q|q;exact Or.inl q;exact Or.inr (Or.inr (Or.inr (Or.inr (Or.inl q)))))⟩
theorem Fy.dead{v:Hv}(k:Fy B h sv tv n w ms s st v)(hk:∀b,b<w.heap.size->b≠h->w3.heap[b]?=w.heap[b]?)(e:L Z)(aw:w3.heap[h]?=M (O (([sv,tv,I n,v.tx,v.qv,v.mv,v.kv,v.nv,v.ev]++[Value.bool true]++e).toArray) 86 (0,0)))(he:Jh B w3 b e)(ha:∀u b,e[2]?=M u->u.ownBlock=M b->v.nv.ownBlock≠M b)(hr:s.ran.length+st.length<=1000):Fx B h st.length v.nv w3 b:=
 ⟨_,e,rfl,aw,he,rfl,⟨s.ran,Al k.ran (λb q=>hk b (k.ran.lt b q).2 (λe=>Ae k.ran qd k.blk (by rw[←e];exact q))),hr⟩,ha⟩
theorem noOwn{cs:L Z}(hc:cs[2]?=M nS)(nv:Z):∀u b,cs[2]?=M u->u.ownBlock=M b->nv.ownBlock≠M b:=λu b h q=>by
 rw[hc]at h;cases h;cases q
theorem shopPut(B h n:X)(sv tv:Z)(ms:Mm)(s:Sb)(st:L By)(v:Hv)(x:By)(w:E)(hs:Fy B h sv tv n w ms s st v)(hB:B<=w.heap.size)(h1:1<=n)(h8:n<=8)(ft:Uk n s.T)(hx:x.size<=2002)(zj:s.ran.length+st.length<=1000):Calls prog 134 #[D (p_ h),S x] w λe w'=>(e=H (F true)/\∃T' v',(∃r,Rp n s.T (Av n x) r/\Iv n s.T x r 0 T' ⟨#[]⟩ ⟨#[]⟩)/\Cw B (Bz h v) (Bz h v') w w'/\Fy B h sv tv n w' ms ⟨T',s.R,s.ran,s.held⟩ st v')\/(e=H (F false)/\∃b nv,Xh n s.T x b/\Cw B (Bz h v) (Yo h nv) w w'/\Fx B h st.length nv w' b):=by
 obtain⟨g1,p1,etx⟩:=hs.txa;obtain⟨a2,p2,eqv⟩:∃a cap,v.qv=J a s.R.length cap:=by obtain⟨xs,cv,lv,r⟩:=hs.rcs;exact Ay r.row
 have HX:Hd (w.ownsRow B 9 1 (J (p_ g1) s.T.length p1) s.T.length (s.T.map Value.string)):=by have:=hs.txt;rw[etx]at this;exact this
 have k2:=cK hs.blk 2;have k3:w.cell? ⟨h,3,N⟩=M (J (p_ g1) s.T.length p1):=by rw[cH hs.blk,←etx];rfl
 have k4:w.cell? ⟨h,4,N⟩=M (J a2 s.R.length p2):=by rw[cH hs.blk,←eqv];rfl
 have HS:=Ac hs;have HE:=Ac (And.intro etx eqv);clear hs etx eqv;go_enter func134,ntmps134;go_wp2_with fail;refine(l4Put_b n B g1 p1 a2 _ p2 s.T x w HX.o hB h1 h8 ft hx).mono ?_;rintro e w1 ⟨af,r,cd,T',A,B',hp,hr,ir⟩;have xk:=Ac hp;have gy:=Ac (HS.o.bl af);have ff:=Ac af;clear hp k2 k3 k4
 rcases ir with⟨hne,rfl⟩|⟨rfl,rfl,rfl,g,p,rfl,ho,hg⟩
 ·go_upto_region 2 with fail
  obtain⟨P,eP⟩:=Aj w1.heap.size;obtain⟨w2,e2⟩:=Aj (w1.alloc (O #[I cd,I 0,nS,nS,S A,S B'] 164));(have fw:Hd (Bw w1 w2):=by show Below _ _ _;rw[←e2];exact aN _ _);(have HK:w2.heap[P]?=M (O #[I cd,I 0,nS,nS,S A,S B'] 164 (0,0)):=by rw[←e2,←eP];exact Ch _ _);rw[e2,eP];clear e2;have cr:=Ac (gy.o.bl fw.o);obtain⟨c0,c1,c2,c3,c4,c5⟩:=Hj HK;clear HK
  have hcd:(cd=2/\Iv n s.T x r 2 s.T A B')\/(cd=3/\A=⟨#[]⟩/\B'=⟨#[]⟩/\Iv n s.T x r 3 s.T ⟨#[]⟩ ⟨#[]⟩):=by
   rcases hr with⟨a,b,rfl,rfl,rfl,rfl⟩|⟨a,b,rfl,rfl,rfl,rfl⟩|⟨a,b,rfl,rfl,rfl,rfl⟩|⟨a,b,rfl,rfl,rfl,rfl⟩
   ·exact Or.inl ⟨rfl,Or.inl ⟨a,b,rfl,rfl,rfl,rfl⟩⟩
   ·exact absurd rfl hne
   ·exact Or.inr ⟨rfl,rfl,rfl,Or.inr (Or.inr (Or.inl ⟨a,b,rfl,rfl,rfl,rfl⟩))⟩
   ·exact absurd rfl hne
  clear hr hne
  rcases hcd with⟨rfl,hr⟩|⟨rfl,rfl,rfl,hr⟩
  ·have HF:Hd (Xh n s.T x (.clash A B')):=⟨r,xk.o,Or.inl ⟨A,B',rfl,hr⟩⟩
   clear hr;go_wp2_with fail;clear eP c0 c1 c2 c3 c4 c5;refine(Mu h _ _ _ _ _ _ _ _ _ _ _ _ _ _ _ _ _ _ _ 10 ⟨#[]⟩ A B' N 0 0 w2 cr.o.blk).mono ?_;rintro e w3 ⟨rfl,ba,ia,aw⟩;have fu:=Ac (HS.o.fall (bt ff.o fw.o) hB ba ia);have HD:Hd (Fx B h st.length v.nv w3 (.clash A B')):=cr.o.dead ia [I 10,ze,nS,I 0,nS,nS,nS,nS,S A,S B'] aw rfl (noOwn rfl _) zj;exact qmb
  ·have HF:Hd (Xh n s.T x .full):=⟨r,xk.o,Or.inr ⟨rfl,hr⟩⟩
   clear hr;go_wp2_with fail;clear eP c0 c1 c2 c3 c4 c5;refine(Mu h _ _ _ _ _ _ _ _ _ _ _ _ _ _ _ _ _ _ _ 11 ⟨#[]⟩ ⟨#[]⟩ ⟨#[]⟩ N 0 0 w2 cr.o.blk).mono ?_;rintro e w3 ⟨rfl,ba,ia,aw⟩;have fu:=Ac (HS.o.fall (bt ff.o fw.o) hB ba ia);have HD:Hd (Fx B h st.length v.nv w3 .full):=cr.o.dead ia [I 11,ze,nS,I 0,nS,nS,nS,nS,ze,ze] aw rfl (noOwn rfl _) zj;exact qmb
 ·have HR:Hd (Iv n s.T x r 0 T' ⟨#[]⟩ ⟨#[]⟩):=hr
  go_upto_region 2 with fail
  obtain⟨P,eP⟩:=Aj w1.heap.size;obtain⟨w2,e2⟩:=Aj (w1.alloc (O #[I 0,I (n:Int),J (p_ g) T'.length p,J a2 s.R.length p2,ze,ze] 164));(have fw:Hd (Bw w1 w2):=by show Below _ _ _;rw[←e2];exact aN _ _);(have HK:w2.heap[P]?=M (O #[I 0,I (n:Int),J (p_ g) T'.length p,J a2 s.R.length p2,ze,ze] 164 (0,0)):=by rw[←e2,←eP];exact Ch _ _);rw[e2,eP];clear e2;have cr:=Ac (gy.o.bl fw.o);have HB12:=Ac (bt ff.o fw.o);have HG:=Ac (HS.o.setTx hB HB12.o (Ab ho fw.o) (by rw[HE.o.1];rcases hg with q|q;exact Or.inl (by rw[q];rfl);exact Or.inr q));obtain⟨c0,c1,c2,c3,c4,c5⟩:=Hj HK;obtain⟨-,-,k2,k3,k4⟩:=ck5 cr.o.blk;have kf:=fZ cr.o.blk;have hPh:P≠h:=zo (Ag gy.o.blk);clear hr ho hg HK;rw[HE.o.2]at HG;go_wp2_with fail;go_ret;exact Or.inl ⟨rfl,T',_,⟨r,xk.o,HR.o⟩,HG.o.2,HG.o.1⟩
theorem Dj.app{xs T1:L By}{a:Option Hm}(h:Dj n T xs T1 a):a=N->∀ {ys T2 a2},Dj n T1 ys T2 a2->Dj n T (xs++ys) T2 a2:=by
 induction h with
 | nil=>intro _ ys T2 a2 k;exact k
 | go h1 h2 _ ih=>intro e ys T2 a2 k;exact .go h1 h2 (ih e k)
 | clash=>intro e;cases e
 | full=>intro e;cases e
theorem Dj.one{T':L By}(h:∃r,Rp n T (Av n x) r/\Iv n T x r 0 T' ⟨#[]⟩ ⟨#[]⟩):Dj n T [x] T' N:=by
 obtain⟨r,h1,h2⟩:=h;exact .go h1 h2 .nil
theorem Xh.put(h:Xh n T x b)(ys:L By):Dj n T (x::ys) T (M b):=by
 obtain⟨r,h1,⟨A,B,rfl,h2⟩|⟨rfl,h2⟩⟩:=h
 ·exact .clash h1 h2
 ·exact .full h1 h2
theorem Nv(ls:L G3)(g:G3):Iu (ls++[g])=Iu ls++(if g.ask=true then [g.sum] else []):=by
 unfold Iu;rw[List.filter_append,List.map_append]
 cases hg:g.ask<;>simp[hg]
theorem Oz(h:k<ls.length):ls.take (k+1)=ls.take k++[gx ls k]:=by
 unfold gx;rw[List.take_add_one,Ix h,gG,Ix h];rfl
theorem Xe(h:k<ls.length):∃ys,Iu ls=Iu (ls.take k)++((if (gx ls k).ask=true then [(gx ls k).sum] else [])++ys):=by
 refine⟨Iu (ls.drop (k+1)),?_⟩;have:ls=ls.take (k+1)++ls.drop (k+1):=(List.take_append_drop _ _).symm
 conv=>lhs;rw[this]
 unfold Iu;rw[List.filter_append,List.map_append,Oz h,List.filter_append,List.map_append,List.append_assoc]
 cases hg:(gx ls k).ask<;>simp[hg]
theorem Tryz.info97x:(prog.info? 94).map (λi=>(i.zero,i.size,i.bytes))=M (M (G #[nS,nS,ze]),3,64):=qi
theorem step_appQR{s x:Operand}{W:E}{ops:Array Oper}{o:Oper}{a:Act}{K:Act->E->Prop}{Q:Exit->Act->E->Prop}{AF:Prop}(ri:o.guard=N)(ho:o.op=.call { callee:=.builtin .append,args:=#[s,x],argTypes:=#[33,33] })(B:X)(v:Z)(nn:X)(xs:L Z)(hs:a.eval s=v)(ah:W.ownsRow B 94 3 v nn xs)(d:X)(u0 u1 u2:Z)(hx:a.eval x=J (p_ d) 1 1)(hc:W.heap[d]?=M (O #[u0,u1,u2] 94 (0,0)))(h1:∀u∈[u0,u1,u2],u.oneCell'=true)(hB:B<=W.heap.size)(hn:nn<=10000)(h:∀g' ai w',w'.ownsRow B 94 3 (J (p_ g') (nn+1) ai) (nn+1) (xs++[u0,u1,u2])->W.grownBy w' v.ownBlock->(v.ownBlock=M g'\/g'=W.heap.size)->K (a.put o.dst (J (p_ g') (nn+1) ai)) w'):if Region.wanted o (yielded ops a.tmps)=true then Oper.wp prog o a W K Q else AF:=by
 obtain⟨i0,hi,bq,bg,bv⟩:=info_parts Tryz.info97x
 refine step_append_lies (w:=W) ri s x 33 ho B 94 i0 (G #[nS,nS,ze]) 3 64 underlying33 hi bq bg bv rfl qd _ nn xs hs ah ⟨d,0,N⟩ 1 1 [u0,u1,u2] hx rfl
  (World.news_of_block (cs:=#[u0,u1,u2]) (t:=94) (fr:=(0,0)) hc) h1 qb qm qb hB W.heap.size rfl ?_
 exact qfh
theorem qx_lt{r:T3}{i:X}(h:i<R.length):qx (R++[r]) i=qx R i:=by
 exact qlt
theorem qx_at(R:L T3)(r:T3):qx (R++[r]) R.length=r:=by
 unfold qx;rw[gG,List.getElem?_append_right (Nat.le_refl _)];simp
theorem Jd.add{v c d:Z}{rec:T3}{cs:Array Z}(r:Jd w B v R xs cv lv)(hg:w.grownBy w' v.ownBlock)(ho:w'.ownsRow B 94 3 nw (R.length+1) (xs++[c,d,S rec.out])){zs us:L Z}(h1:w.ownsRow B 143 3 c rec.code.length zs)(h2:Ck rec.code rec.code.length zs)(h3:w.ownsRow B 145 3 d rec.looks.length us)(h4:Bk rec.looks rec.looks.length us)(hc:∀i,i<R.length->∀b,(cv i).ownBlock=M b->c.ownBlock≠M b)(hd:∀i,i<R.length->∀b,(lv i).ownBlock=M b->d.ownBlock≠M b)(hb:w'.heap[h]?=M (O cs 86 (0,0)))(x:Z):Ex (w'.setCell ⟨h,4,N⟩ x) B nw (R++[rec]):=by
 have ht:Cv w' h 86:=⟨_,hb⟩;exact qgu
theorem Fy.growQ{v:Hv}(k:Fy B h sv tv n w ms s st v)(fy:B<=w.heap.size){R':L T3}(hq:w.ownsRow B 94 3 v.qv s.R.length xs)(hg:w.grownBy w' v.qv.ownBlock)(ci:∀b,nw.ownBlock=M b->v.qv.ownBlock=M b\/w.heap.size<=b)(hr:Ex (w'.setCell ⟨h,4,N⟩ nw) B nw R'):Fy B h sv tv n (w'.setCell ⟨h,4,N⟩ nw) ms ⟨s.T,R',s.ran,s.held⟩ st ⟨v.tx,nw,v.mv,v.kv,v.nv,v.ev⟩/\Cw B (Bz h v) (Bz h ⟨v.tx,nw,v.mv,v.kv,v.nv,v.ev⟩) w (w'.setCell ⟨h,4,N⟩ nw):=by
 obtain⟨ys,m1,m2⟩:=k.made;have hh:v.qv.ownBlock≠M h:=Ae hq qd k.blk;have hb:w'.heap[h]?=_:=Br k.blk hg hh;have ig:=Eo hb 4 nw;simp only[List.setIfInBounds_toArray,List.set_cons_zero,List.set_cons_succ]at ig;refine⟨⟨k.hB,ig,Da k.txt hg (apart k.txt hq qd) hb qd,hr,⟨ys,Da m1 hg (apart m1 hq qd) hb qd,m2⟩,Da k.stk hg (apart k.stk hq qd) hb qd,Da k.ran hg (apart k.ran hq qd) hb qd,Da k.held hg (apart k.held hq qd) hb qd,k.txa,k.tk,k.kn,k.ne⟩,?_⟩;refine⟨((Below.refl B w).grown hg fy (λj q=>(hq.lt j q).1)).setCell (p:=⟨h,4,N⟩) k.hB _,λb bi hx=>?_,λb hx=>?_⟩
 ·rw[hC w' ⟨h,4,N⟩ _ b (λe=>hx (Or.inl e)),hg.block b bi (λq=>hx (Or.inr (Or.inl q.symm)))]
 ·rcases hx with q|q|q
  ·exact Or.inl (Or.inl q)
  ·rcases ci b q with q|q;exact Or.inl (Or.inr (Or.inl q));exact Or.inr q
  ·exact Or.inl (Or.inr (Or.inr q))
theorem Kc.row{a:Option Addr}{is:L I3}(h:Kc B w a is):Bu w a is:=h.1
def NoteE(B h n:X)(sv tv:Z)(ms:Mm)(s:Sb)(st:L By)(v:Hv)(is:L I3)(ls:L G3)(c:Int)(t:By)(w:E)(e:Ending)(w':E):Prop:=
 (∃s' v' r,Fw n s is ls c t s' N/\e=H (Y #[G #[I c,S t,nS],I r])/\0<=r/\Cw B (Bz h v) (Bz h v') w w'/\Fy B h sv tv n w' ms s' st v')\/
 (∃s' b nv,Fw n s is ls c t s' (M b)/\e=H (Y #[G #[I 0,ze,nS],I (-1)])/\Cw B (Bz h v) (Yo h nv) w w'/\Fx B h st.length nv w' b)
theorem Ye{c:Int}{t:By}(h0:0<=c)(h5:c<=5)(ht:t.size<=2000)(a:Option Addr)(cap:X)(w:E):Calls prog 114 #[G #[I c,S t,J a 0 cap]] w λe w'=>e=H (S (Bi c t))/\Bw w w':=by
 obtain⟨m,rfl⟩:=Int.eq_ofNat_of_zero_le h0;exact Pc m t a cap w qb ht
theorem formB_ne(c:Int)(t:By):Bi c t≠⟨#[]⟩:=λh=>by
 have:(Bi c t).size=0:=by rw[h];rfl
 unfold Bi at this;rw[ByteArray.size_append,ByteArray.size_append]at this;have e:(⟨#[58]⟩:By).size=1:=rfl;omega
theorem gx_name(h:Mk ls)(i:X):(gx ls i).name.size<=9223372036854775807:=by
 rcases Nat.lt_or_ge i ls.length with k|k
 ·have:=(h _ (Lp k)).1.2.1;omega
 ·unfold gx;rw[gG,List.getElem?_eq_none k];show 0≤_;omega
theorem Jd.bl{v:Z}(r:Jd w B v R xs cv lv)(hb:Bw w w'):Jd w' B v R xs cv lv:=
 ⟨Ab r.row hb,r.fil,λi hi=>by obtain⟨ys,a,b⟩:=r.code i hi;exact⟨ys,Ab a hb,b⟩,λi hi=>by obtain⟨ys,a,b⟩:=r.look i hi;exact⟨ys,Ab a hb,b⟩,r.apc,r.apl⟩
theorem Fx.set1(k:Fx B h m nv w b){T:X}(hp:Cv w p T)(h1:T≠86)(h2:T≠9)(j:X)(x:Z):Fx B h m nv (w.setCell ⟨p,j,N⟩ x) b:=by
 obtain⟨pre,e,hl,hk,he,d1,⟨xs,d2,d4⟩,d3⟩:=k
 have hne:h≠p:=λq=>by
  obtain⟨cs,hc⟩:=hp;rw[q,hc]at hk;injection hk with hk;injection hk with _ h5;exact h1 h5
 refine⟨pre,e,hl,Fi hk hne x,?_,d1,⟨xs,Ao d2 hp h2 x,d4⟩,d3⟩
 cases b with
 | circle ch=>obtain⟨cv,a,b⟩:=he;exact⟨cv,Ao a hp h2 x,b⟩
 | deep nm=>exact he
 | clash A B=>exact he
 | full=>exact he
theorem Fx.set3(k:Fx B h m nv w b){T:X}(hp:Cv w p T)(h1:T≠86)(h2:T≠9)(u0 u1 u2:Z):Fx B h m nv (((w.setCell ⟨p,0,N⟩ u0).setCell ⟨p,1,N⟩ u1).setCell ⟨p,2,N⟩ u2) b:=((k.set1 hp h1 h2 0 u0).set1 (hp.set u0) h1 h2 1 u1).set1 ((hp.set u0).set u1) h1 h2 2 u2
theorem shopNote(B h n:X)(sv tv:Z)(ms:Mm)(s:Sb)(st:L By)(v:Hv)(a la:Option Addr)(ac lc:X)(is:L I3)(ls:L G3)(xs:L Z)(c:Int)(t:By)(w:E)(hs:Fy B h sv tv n w ms s st v)(hB:B<=w.heap.size)(h1:1<=n)(h8:n<=8)(ft:Jz n s)(dj:Kc B w a is)(hp:Au is=true)(hx:∀i,(ix is i).text.size<=9223372036854775807)(hl:w.ownsRow B 199 3 (J la ls.length lc) ls.length xs)(hf:Bk ls ls.length xs)(wo:∀b,(Value.slice la ls.length lc).ownBlock=M b->¬ Bz h v b)(hle:ls.length<=200)(hls:Mk ls)(c0:0<=c)(c5:c<=5)(ht:t.size<=2000)(zj:s.ran.length+st.length<=1000):Calls prog 111 #[D (p_ h),G #[J a is.length ac],J la ls.length lc,G #[I c,S t,nS]] w λe w'=>NoteE B h n sv tv ms s st v is ls c t w e w':=by
 obtain⟨W,eW⟩:=Aj (((w.alloc (O #[J a is.length ac] 91)).alloc (O #[I c,S t,nS] 120)).alloc (O #[I 0,ze,nS] 120));have HW:Hd (Bw w W):=by show Below _ _ _;rw[←eW];exact((aN _ _).alloc qg _).alloc qh _
 obtain⟨Q,eQ⟩:=Aj w.heap.size;have HP0:Hd (W.heap[Q]?=M (O #[J a is.length ac] 91 (0,0))):=by show _=_;rw[←eW,←eQ];exact Ph (Ph (Hc _ _))
 have jr:Hd (W.heap[Q+1]?=M (O #[I c,S t,nS] 120 (0,0))):=by
  show _=_;rw[←eW,←eQ];have:=Hc (w.alloc (O #[J a is.length ac] 91)) (O #[I c,S t,nS] 120);rw[show(w.alloc (O #[J a is.length ac] 91)).heap.size=w.heap.size+1 from qg]at this;exact Ph this
 have pg:Hd (W.heap[Q+2]?=M (O #[I 0,ze,nS] 120 (0,0))):=by
  show _=_;rw[←eW,←eQ];have:=Hc ((w.alloc (O #[J a is.length ac] 91)).alloc (O #[I c,S t,nS] 120)) (O #[I 0,ze,nS] 120)
  rwa [show((w.alloc (O #[J a is.length ac] 91)).alloc (O #[I c,S t,nS] 120)).heap.size=w.heap.size+2 from qg]at this
 have HN:Hd (∀b,Q<=b->¬ Bz h v b):=λb hb=>hs.not qb;have H9:Hd (Cw B (Bz h v) (Bz h v) w W):=Cw.of_below HW.o hB;have yp:=Ac (hs.bl HW.o);have HHB:=Ac hs.hB;have HLW:=Ac (Ab hl HW.o);have HFL:=Ac hf;have HLN:=Ac wo;have HCW:=Ac (dj.belowB (HW.o.mono hB));have vz:B<=W.heap.size:=Nat.le_trans hB HW.o.size;have O7:=Ac hls;have xm:=Ac ft;have tm:=Ac hp;have HIX:=Ac hx;have zq:=Dh hp;have hW3:Q+2<W.heap.size:=Ag pg.o;clear hs hl hf wo dj hls ft hp hx;obtain⟨m,em⟩:=Aj ls.length;have EM:=Ac em;rw[em]at hle ⊢;clear em;go_enter func111,ntmps111;go_wp2_with fail
 try rw[eQ]
 clear eW
 go_loopw [10] (λi wr=>∃(k:X)(U:L By)(v':Hv),k<=m/\i=I k/\Hd (Dj n s.T (Iu (ls.take k)) U N)/\Hd (Uk n U)/\Hd (Cw B (Bz h v) (Bz h v') W wr)/\Hd (Fy B h sv tv n wr ms ⟨U,s.R,s.ran,s.held⟩ st v')) (λi _=>m-(intOf i).toNat)
 case atStart=>exact⟨0,s.T,v,Nat.zero_le _,rfl,.nil,xm.o.1,Cw.refl _,yp⟩
 case round=>
  obtain⟨k,U,v',hk,rfl,we,rv,fu,HS⟩:=hrel;have bj:B<=wr.heap.size:=Nat.le_trans vz fu.o.bel.size;have mx:=Ac (fu.o.blk pg.o (HN.o _ qb));have R4:Hd (∀b,Q<=b->b<W.heap.size->¬ Bz h v' b):=λb h1 h2=>fu.o.no h2 (HN.o b h1)
  by_cases aj:k<m
  ·have io:(k:Int)<(m:Int):=qb
   have iy:(0:Int)<=(k:Int):=qb;have oa:k<ls.length:=qbz;obtain⟨a2,c2,e2,F1⟩:=Ha (fu.o.own HLW.o HLN.o) HFL.o;rw[EM.o]at e2;cases e2;obtain⟨b,off,rfl,g1,g2,g3⟩:=F1 k oa;have hz:(gx ls k).sum.size<=2002:=(O7.o _ (Lp oa)).2;(have Y9:Hd ((gx ls k).ask=false->Dj n s.T (Iu (ls.take (k+1))) U N):=λq=>by rw[Oz oa,Nv,q];simpa using we.o);have Z6:Hd ((gx ls k).ask=true->∀U',Dj n U [(gx ls k).sum] U' N->Dj n s.T (Iu (ls.take (k+1))) U' N):=λq U' k=>by rw[Oz oa,Nv,q];exact we.o.app rfl k
   have HFALL:Hd ((gx ls k).ask=true->∀b,Xh n U (gx ls k).sum b->Dj n s.T (Iu ls++[Bi c t]) U (M b)):=λq b k=>by
    obtain⟨ys,ey⟩:=Xe oa;rw[ey,q,List.append_assoc];exact we.o.app rfl (by simpa using k.put (ys++[Bi c t]))
   clear F1;generalize (gx ls k).name=x at *;generalize (gx ls k).sum=z at *;generalize (gx ls k).ask=y at *;cases y
   ·go_wp2_with fail
    go_roundw
    case rel=>exact⟨k+1,U,v',qb,qj,Y9.o qad,rv,fu,HS⟩
    case measure=>simp[intOf];omega
   ·go_wp2_with fail
    refine(shopPut B h n sv tv ms _ st v' z wr HS.o bj h1 h8 rv.o hz zj).mono ?_;rintro e w1 (⟨rfl,U',v2,pz,bx,cw⟩|⟨rfl,b',nb,hfa,bx,pa⟩)
    ·have pg:=Ac (Z6.o qad U' (Dj.one pz))
     have HT2:Hd (Uk n U'):=(Dj.one pz).ok rv.o (λx hx=>by rw[List.mem_singleton]at hx;rw[hx];exact hz);have fl:=Ac (fu.o.trans bx);have cr:=Ac cw;clear pz bx cw g1 g2 g3;go_wp2_with fail;go_roundw
     case rel=>exact⟨k+1,U',v2,qb,qj,pg,HT2,fl,cr⟩
     case measure=>simp[intOf];omega
    ·have fl:=Ac (fu.o.trans bx)
     have uh:=Ac pa;have D9:=Ac (HFALL.o qad b' hfa);have gz:=Ac (fl.o.blk pg.o (HN.o _ qb));clear hfa bx pa g1 g2 g3;exact qhp
  ·have io:¬ (k:Int)<(m:Int):=qb
   (have G7:Hd (Dj n s.T (Iu ls) U N):=by have:=we.o;rwa [List.take_of_length_le qca]at this);have ik:=Ac (fu.o.blk jr.o (HN.o _ qb));obtain⟨x0,x1,x2⟩:=Bd ik.o;go_wp2_with fail;clear x0 x1 x2;refine(Mv c t wr c0 c5 ht).mono ?_;rintro e w0 ⟨rfl,ak⟩;have HFR0:=Ac (fu.o.trans (Cw.of_below ak bj));have gy:=Ac (HS.o.bl ak);have hB0:B<=w0.heap.size:=Nat.le_trans bj ak.size;clear ak ik mx;go_wp2_with fail;refine(shopPut B h n sv tv ms _ st v' (Bi c t) w0 gy.o hB0 h1 h8 rv.o (Dp ht) zj).mono ?_;rintro e w1 (⟨rfl,U',v2,pz,bx,cw⟩|⟨rfl,b',nb,hfa,bx,pa⟩);rotate_left 1
   ·have fl:=Ac (HFR0.o.trans bx)
    have uh:=Ac pa;have D9:Hd (Dj n s.T (Iu ls++[Bi c t]) U (M b')):=G7.o.app rfl (hfa.put []);have gz:=Ac (fl.o.blk pg.o (HN.o _ qb));clear hfa bx pa;exact qhp
   have HPC:Hd (Dj n s.T (Iu ls++[Bi c t]) U' N):=G7.o.app rfl (Dj.one pz);have fl:=Ac (HFR0.o.trans bx);have cr:=Ac cw;have be:B<=w1.heap.size:=Nat.le_trans hB0 bx.bel.size;clear pz bx cw HS gy fu HFR0 we G7 rv;have gz:=Ac (fl.o.blk pg.o (HN.o _ qb));obtain⟨ys,cv,lw,sf⟩:=cr.o.rcs;obtain⟨a2,p2,eqv⟩:=Ay sf.row;replace eqv:v2.qv=J a2 s.R.length p2:=eqv;have k4:w1.cell? ⟨h,4,N⟩=M (J a2 s.R.length p2):=by rw[cH cr.o.blk,←eqv];rfl
   by_cases h2k:2000<=s.R.length
   ·have d2k:decide ((2000:Int)<=(s.R.length:Int))=true:=qh
    have HNR:Hd (Fw n s is ls c t ⟨U',s.R,s.ran,s.held⟩ (M .full)):=.recs HPC.o h2k;clear h2k sf eqv;go_wp2_with fail;clear k4;refine(Mu h _ _ _ _ _ _ _ _ _ _ _ _ _ _ _ _ _ _ _ 11 ⟨#[]⟩ ⟨#[]⟩ ⟨#[]⟩ N 0 0 w1 cr.o.blk).mono ?_;rintro e w3 ⟨rfl,ba,ia,aw⟩;have HF3:=Ac (fl.o.trans (cr.o.fall (Below.refl _ _) be ba ia));have uh:Hd (Fx B h st.length v2.nv w3 .full):=cr.o.dead ia [I 11,ze,nS,I 0,nS,nS,nS,nS,ze,ze] aw rfl (noOwn rfl _) zj;replace gz:=Ac (HF3.o.blk pg.o (HN.o _ qb));replace fl:=HF3;clear ba ia aw;obtain⟨z0,z1,z2,zf⟩:=Dw gz.o;go_wp2_with fail;obtain⟨y0,y1,y2,_⟩:=Dw (Bn gz.o (I 0) ze nS);exact bR (v:=Y #[G #[I 0,ze,nS],I (-1)]) (by simp[results,results111,go_sem,y0,y1,y2]) rfl (Or.inr ⟨_,_,_,HNR.o,rfl,(H9.o.trans fl.o).set3 qb qb _ _ _,uh.o.set3 ⟨_,gz.o⟩ qd qd _ _ _⟩)
   have d2k:decide ((2000:Int)<=(s.R.length:Int))=false:=qh;have im:Hd (Fw n s is ls c t ⟨U',s.R++[⟨is,ls.map (Hg n),Av n (Bi c t)⟩],s.ran,s.held⟩ N):=.ok HPC.o qb;have HREC:=Ac sf;have EQV:=Ac eqv;clear sf eqv;go_wp2_with fail;clear k4 d2k;have vj:=Ac (fl.o.blk HP0.o (HN.o _ qb));have ik:=Ac (fl.o.blk jr.o (HN.o _ qb));have jk:=Ac (HCW.o.belowB fl.o.bel);have HLR:=Ac (fl.o.own HLW.o HLN.o);have n8:B<=w1.heap.size:=be;refine Lt.begin 20 (λw'=>w'.cell? ⟨h,2,N⟩=M (I n)/\w'.cell? ⟨h,4,N⟩=M (J a2 s.R.length p2)/\w'.heap[Q]?=M (O #[J a is.length ac] 91 (0,0))/\w'.heap[Q+1]?=M (O #[I c,S t,nS] 120 (0,0))) qi ?_;obtain⟨wD,eD⟩:=Aj w1.drew;rw[eD];have ct:Bw w1 wD:=qy;clear eD;replace cr:=Ac (cr.o.bl ct);replace vj:=Ac (Af vj.o ct);replace ik:=Ac (Af ik.o ct);replace gz:=Ac (Af gz.o ct);replace fl:=Ac (fl.o.trans (Cw.of_below ct n8));replace jk:=Ac (jk.o.belowB (Below.mono ct n8));replace HLR:=Ac (Ab HLR.o ct);have gp:(λw'=>w'.cell? ⟨h,2,N⟩=M (I n)/\w'.cell? ⟨h,4,N⟩=M (J a2 s.R.length p2)/\w'.heap[Q]?=M (O #[J a is.length ac] 91 (0,0))/\w'.heap[Q+1]?=M (O #[I c,S t,nS] 120 (0,0))) wD:=⟨qbf,qga,vj.o,ik.o⟩;replace n8:B<=wD.heap.size:=Nat.le_trans n8 ct.size;change K 0 _
   iterate 14
    refine Lt.ti (v:=?_) gp ?_ ?_;rotate_left 1
    ·exact qkk
    simp only[gX]
   refine Lt.sp (i:=14) (λK hK=>?_);go_simp;have hnt:=Vh a la N ac lc 0 is ls c t 0 n (Bi c t) wD jk.o.1 (by obtain⟨a3,c3,e3,q3⟩:=Ha HLR.o HFL.o;cases e3;exact q3) qb HIX.o (by rw[EM.o];exact hle) (λa cap w=>Ye c0 c5 ht a cap w) tm.o h1 h8 (formB_ne c t) (Dp ht) (λi hi=>by have:=(O7.o _ (Lp hi)).2;omega) (λi=>gx_name O7.o i);rw[EM.o]at hnt;refine hnt.mono ?_;rintro e wN ⟨C9,⟨U4,u1,u2,rfl,hro⟩|⟨⟨i,hi,gg⟩,_⟩⟩;rotate_left 1
   ·exact absurd (O7.o _ (Lp (by rw[EM.o];exact hi))).1 gg
   obtain⟨zs,us,q1,q2,q3,q4⟩:=hro;have kt:=Ac q1;have D8:=Ac q2;have HQ3:=Ac q3;have HQ4:=Ac q4;clear q1 q2 q3 q4 U4 hnt;have hDN:wD.heap.size<=wN.heap.size:=C9.size;have hBD:=n8;replace cr:=Ac (cr.o.bl C9);replace vj:=Ac (Af vj.o C9);replace ik:=Ac (Af ik.o C9);replace gz:=Ac (Af gz.o C9);replace fl:=Ac (fl.o.trans (Cw.of_below C9 n8));replace jk:=Ac (jk.o.belowB (Below.mono C9 n8));replace HLR:=Ac (Ab HLR.o C9);have uq:(λw'=>w'.cell? ⟨h,2,N⟩=M (I n)/\w'.cell? ⟨h,4,N⟩=M (J a2 s.R.length p2)/\w'.heap[Q]?=M (O #[J a is.length ac] 91 (0,0))/\w'.heap[Q+1]?=M (O #[I c,S t,nS] 120 (0,0))) wN:=⟨qbf,qga,vj.o,ik.o⟩;replace n8:B<=wN.heap.size:=Nat.le_trans n8 C9.size;refine hK.out _ _ (λ_=>uq) (λ_=>?_);clear hK K 
   try simp only[gX]
   refine Lt.sp (i:=15) (λK hK=>?_);go_simp;obtain⟨ua,uc,eu1⟩:=Ay kt.o;obtain⟨ub,ud,eu2⟩:=Ay HQ3.o;subst eu1;subst eu2;refine Dn (Q:=λx=>K _ x) ?_;intro wL fb HL
   try dsimp only
   obtain⟨dL,edL⟩:=Aj wN.heap.size;rw[edL]at HL ⊢;replace kt:=Ac (Ab kt.o fb);replace HQ3:=Ac (Ab HQ3.o fb);replace cr:=Ac (cr.o.bl fb);replace vj:=Ac (Af vj.o fb);replace ik:=Ac (Af ik.o fb);replace gz:=Ac (Af gz.o fb);replace fl:=Ac (fl.o.trans (Cw.of_below fb n8));replace jk:=Ac (jk.o.belowB (Below.mono fb n8));replace HLR:=Ac (Ab HLR.o fb);have hS2:(λw'=>w'.cell? ⟨h,2,N⟩=M (I n)/\w'.cell? ⟨h,4,N⟩=M (J a2 s.R.length p2)/\w'.heap[Q]?=M (O #[J a is.length ac] 91 (0,0))/\w'.heap[Q+1]?=M (O #[I c,S t,nS] 120 (0,0))) wL:=⟨qbf,qga,vj.o,ik.o⟩;replace n8:B<=wL.heap.size:=Nat.le_trans n8 fb.size;refine hK.out _ _ (λ_=>hS2) (λ_=>?_);clear hK K 
   try simp only[gX]
   refine Lt.sp (i:=16) (λK hK=>?_);have I9:=((HREC.o.bl ct).bl C9).bl fb;have hq:=I9.row;rw[EQV.o]at hq;refine step_appQR rfl qo B (J a2 s.R.length p2) s.R.length ys qo hq dL _ _ _ qo HL.o qcs n8 qb ?_;intro g' ai w7 ah ae ci;have hqr:w7.heap[h]?=_:=Br cr.o.blk ae (Ae hq qd cr.o.blk);rw[←EQV.o]at ae;have X8:=I9.add (rec:=⟨is,ls.map (Hg n),Av n (Bi c t)⟩) ae ah (Ah kt.o hBD) D8.o (Ah HQ3.o hBD) HQ4.o (λi hi b q1 q2=>by have:=(kt.o.lt b q2).1;obtain⟨ys,r1,_⟩:=HREC.o.code i hi;have:=(r1.lt b q1).2;have:=ct.size;omega) (λi hi b q1 q2=>by have:=(HQ3.o.lt b q2).1;obtain⟨ys,r1,_⟩:=HREC.o.look i hi;have:=(r1.lt b q1).2;have:=ct.size;omega) hqr (J (p_ g') (s.R.length+1) ai)
   have po:∀b,(Value.slice (p_ g') (s.R.length+1) ai).ownBlock=M b->v2.qv.ownBlock=M b\/wL.heap.size<=b:=λb q=>by
    obtain rfl:g'=b:=qaq
    rcases ci with q|q
    ·exact Or.inl (by rw[EQV.o];exact q)
    ·right;omega
   have HG:=Ac (cr.o.growQ n8 I9.row ae po X8);have R9:=Ac hqr;have hq0:=Ae hq qd vj.o;have km:=Ae hq qd ik.o;have hq3:=Ae hq qd gz.o;rw[←EQV.o]at hq0 km hq3;have HR07:=Ac (Br vj.o ae hq0);have HR17:=Ac (Br ik.o ae km);have HR37:=Ac (Br gz.o ae hq3);have Do:(λw'=>w'.cell? ⟨h,2,N⟩=M (I n)/\w'.cell? ⟨h,4,N⟩=M (J a2 s.R.length p2)/\w'.heap[Q]?=M (O #[J a is.length ac] 91 (0,0))/\w'.heap[Q+1]?=M (O #[I c,S t,nS] 120 (0,0))) w7:=⟨(by rw[cH R9.o];rfl),(by rw[cH R9.o,←EQV.o];rfl),HR07.o,HR17.o⟩;refine hK.out _ _ (λ_=>Do) (λ_=>?_);clear hK K ae ah X8 I9 hq hqr hq0 km hq3;simp only[gX];refine Lt.sp (i:=17) (λK hK=>?_);go_simp;refine hK.out _ _ (λ_=>Do) (λ_=>?_);clear hK K 
   try simp only[gX]
   refine Lt.sp (i:=18) (λK hK=>?_);go_simp;refine hK.out _ _ (λ_=>Do) (λ_=>?_);clear hK K 
   try simp only[gX]
   refine Lt.ti (i:=19) (v:=?_) Do ?_ ?_;rotate_left 1
   ·exact qkk
   simp only[gX];have k4:w7.cell? ⟨h,4,N⟩=M (J a2 s.R.length p2):=Do.2.1;have kf:=fZ R9.o;refine Lt.sp (i:=20) (λK hK=>?_);go_simp;refine hK.out _ _ (λh=>absurd rfl h) (λ_=>?_);clear hK K;refine Lt.done qi ?_ _;obtain⟨V,eV⟩:=Aj (w7.setCell ⟨h,4,N⟩ (J (p_ g') (s.R.length+1) ai));rw[eV]at HG ⊢;(have HR1V:V.heap[Q+1]?=M (O #[I c,S t,nS] 120 (0,0)):=by rw[←eV];exact Fi HR17.o (λq=>HN.o _ (Nat.le_succ Q) (Or.inl q)) _);(have O1:V.heap[Q+2]?=M (O #[I 0,ze,nS] 120 (0,0)):=by rw[←eV];exact Fi HR37.o (λq=>HN.o _ (Nat.le_add_right Q 2) (Or.inl q)) _);have R7:=Ac (H9.o.trans (fl.o.trans HG.o.2));have dm:=Ac HG.o.1;clear eV k4 kf Do HG R9 HR07 HR17 HR37;have k4:=cK dm.o.blk 4;obtain⟨x0,x1,x2⟩:=Bd HR1V;obtain⟨z0,z1,z2,zf⟩:=Dw O1;have hne:h≠Q+2:=λq=>HN.o _ (Nat.le_add_right Q 2) (Or.inl q.symm);go_wp2_with fail;have HV1:=Ac HR1V;have HV3:=Ac O1;have Eq:=Ac k4;clear HR1V O1 k4 x0 x1 x2 z0 z1 z2 zf;refine Lt.begin 9 (λw'=>w'.cell? ⟨h,4,N⟩=M (J (p_ g') (s.R.length+1) ai)/\w'.heap[Q+1]?=M (O #[I c,S t,nS] 120 (0,0))) qi ?_;obtain⟨wE,eD⟩:=Aj V.drew;rw[eD];have ct:Bw V wE:=qy;clear eD;replace HV1:=Ac (Af HV1.o ct);replace HV3:=Ac (Af HV3.o ct);replace Eq:=Ac (Aa ct Eq.o);replace dm:=Ac (dm.o.bl ct);replace R7:=Ac (R7.o.trans (Cw.of_below ct (Nat.le_trans hB R7.o.bel.size)));have gp:(λw'=>w'.cell? ⟨h,4,N⟩=M (J (p_ g') (s.R.length+1) ai)/\w'.heap[Q+1]?=M (O #[I c,S t,nS] 120 (0,0))) wE:=⟨Eq.o,HV1.o⟩;change K 0 _
   iterate 8
    refine Lt.ti (v:=?_) gp ?_ ?_;rotate_left 1
    ·rintro w ⟨s1,s2⟩
     obtain⟨x0,x1,x2⟩:=Bd s2;exact qaw
    simp only[gX]
   obtain⟨z0,z1,z2,zf⟩:=Dw HV3.o;refine Lt.sp (i:=8) (λK hK=>?_);go_simp;have jy:(λw'=>w'.cell? ⟨h,4,N⟩=M (J (p_ g') (s.R.length+1) ai)/\w'.heap[Q+1]?=M (O #[I c,S t,nS] 120 (0,0))) (((wE.setCell ⟨Q+2,0,N⟩ (I c)).setCell ⟨Q+2,1,N⟩ (S t)).setCell ⟨Q+2,2,N⟩ nS):=⟨by rw[World.cell?_setCell_far _ _ _ _ qh,World.cell?_setCell_far _ _ _ _ qh,World.cell?_setCell_far _ _ _ _ qh];exact Eq.o,Fi (Fi (Fi HV1.o qb _) qb _) qb _⟩;refine hK.out _ _ (λ_=>jy) (λ_=>?_);clear hK K z0 z1 z2 zf
   try simp only[gX]
   refine Lt.sp (i:=9) (λK hK=>?_);go_simp;refine hK.out _ _ (λh=>absurd rfl h) (λ_=>?_);clear hK K;refine Lt.done qi ?_ _;go_wp2_with fail;have O1:=HV3.o;obtain⟨y0,y1,y2,_⟩:=Dw (Bn O1 (I c) (S t) nS);exact bR (v:=Y #[G #[I c,S t,nS],I (s.R.length:Int)]) (by simp[results,results111,go_sem,y0,y1,y2];try exact IntWalk.i64_in _ ⟨qb,qb⟩) rfl (Or.inl ⟨_,_,_,im.o,rfl,qb,R7.o.set3 qb qb _ _ _,dm.o.set3 ⟨_,O1⟩ qd _ _ _⟩)
def MakeP5(B h:X)(sv tv:Z)(n:X)(ss:L S2)(ts:L T2)(ms:Mm)(s:Sb)(st:L By)(v:Hv)(nm:By)(w:E)(e:Ending)(w':E):Prop:=
 ∃ms' s' a,Bc ss ts n ms s st (.make nm) ms' s' a/\((∃d v',a=.ok d/\e=H (G #[I d.c,S d.t,nS])/\Cw B (Bz h v) (Bz h v') w w'/\Fy B h sv tv n w' ms' s' st v')\/(∃b nv,a=.bad b/\e=H (G #[I (Jw b),ze,nS])/\Cw B (Bz h v) (Yo h nv) w w'/\Fx B h st.length nv w' b))
def Nw(W0:E)(h:X)(sv tv:Z)(n:X)(ss:L S2)(ts:L T2)(st:L By):Prop:=∀(ms:Mm)(s:Sb)(v:Hv)(nm:By)(w:E),Bw W0 w->Fy W0.heap.size h sv tv n w ms s st v->Fv ss ts ms st->Jz n s->Ar nm->ms.length<=400200*Db ts ms st->Ku ts ms s st->Calls prog 63 #[D (p_ h),S nm] w λe w'=>MakeP5 W0.heap.size h sv tv n ss ts ms s st v nm w e w'
def HoldsP(B h:X)(sv tv:Z)(n:X)(ss:L S2)(ts:L T2)(ms:Mm)(s:Sb)(st:L By)(v:Hv)(gs:L G3)(w:E)(e:Ending)(w':E):Prop:=
 ∃ms' s' a,Bc ss ts n ms s st (.holds gs 0) ms' s' a/\((∃y v',a=(if y then .yes else .no)/\e=H (F y)/\Cw B (Bz h v) (Bz h v') w w'/\Fy B h sv tv n w' ms' s' st v')\/(∃b nv,a=.bad b/\e=H (F false)/\Cw B (Bz h v) (Yo h nv) w w'/\Fx B h st.length nv w' b))
theorem Fy.notT{v:Hv}(k:Fy B h sv tv n w ms s st v){B' e sz l:X}{u:Z}(ho:w.ownsRow B' e sz u l xs)(h1:e≠86)(h2:e≠94)(h3:e≠153)(h4:e≠9):∀b,u.ownBlock=M b->¬ Bz h v b:=by
 intro b q;obtain⟨xs,m1,m2⟩:=k.made;obtain⟨ys,cv,lv,r⟩:=k.rcs;rintro(q2|q2|q2|q2|q2|q2)
 ·subst q2;exact Ae ho (Ne.symm h1) k.blk q
 ·exact apart ho r.row h2 b q q2
 ·exact apart ho m1 h3 b q q2
 ·exact apart ho k.stk h4 b q q2
 ·exact apart ho k.ran h4 b q q2
 ·exact apart ho k.held h4 b q q2
theorem Vi(c:Int)(w:E)(h5:5<c):Calls prog 114 #[G #[I c,ze,nS]] w λe w'=>e=H ze/\Bw w w':=by
 have d1:decide (c<0)=false:=qh;have d2:decide (5<c)=true:=qh;obtain⟨W,eW⟩:=Aj (w.alloc (O #[I c,ze,nS] 120));have hb:Bw w W:=qfu;have k0:W.cell? ⟨w.heap.size,0,N⟩=M (I c):=qcp;have k1:W.cell? ⟨w.heap.size,1,N⟩=M ze:=qcp;have k2:W.cell? ⟨w.heap.size,2,N⟩=M nS:=qcp;go_enter func114,ntmps114;go_wp2;go_ret;exact⟨rfl,hb⟩
theorem codeB_gt(b:Hm):5<Jw b:=by cases b<;>simp[Jw]
theorem Cw.drewN{AM X':X->Prop}(h:Cw B AM X' w w')(k:X):Cw B AM X' w (w'.drewN k):=⟨below_drewN h.bel k,λb hb hx=>by rw[World.heap_drewN];exact h.keep b hb hx,h.new⟩
theorem Fx.drewN(d:Fx B h m nv w b)(k:X):Fx B h m nv (w.drewN k) b:=d.frx (below_drewN (Below.refl _ _) k)
theorem holds_any(W0:E)(h:X)(sa ta:Option Addr)(c1 c2 n:X)(ss:L S2)(ts:L T2)(hE:Hn W0 sa ta ss ts)(st:L By)(hM:Nw W0 h (J sa ss.length c1) (J ta ts.length c2) n ss ts st)(h1:1<=n)(h8:n<=8)(ms:Mm)(s:Sb)(v:Hv)(qa la:Option Addr)(ql qc lc:X)(gs:L G3)(ys:L Z)(out:By)(w:E)(hb:Bw W0 w)(hs:Fy W0.heap.size h (J sa ss.length c1) (J ta ts.length c2) n w ms s st v)(hi:Fv ss ts ms st)(ft:Jz n s)(hgs:GsOk gs)(hr:w.ownsRow W0.heap.size 145 3 (J la gs.length lc) gs.length ys)(hf:Bk gs gs.length ys)(cz:∀i,i<gs.length->(gx gs i).sum.size<=1048576)(T9:ms.length+gs.length<=400200*Db ts ms st)(J4:Ku ts ms s st):Calls prog 109 #[D (p_ h),G #[J qa ql qc,J la gs.length lc,S out]] w λe w'=>HoldsP W0.heap.size h (J sa ss.length c1) (J ta ts.length c2) n ss ts ms s st v gs w e w':=by
 obtain⟨m,em⟩:=Aj gs.length;have EM:=Ac em;obtain⟨W,eW⟩:=Aj (w.alloc (O #[J qa ql qc,J la m lc,S out] 94));have HW:Hd (Bw w W):=by show Below _ _ _;rw[←eW];exact aN _ _
 obtain⟨Q,eQ⟩:=Aj w.heap.size;have HX:=Ac (nW eW eQ);have HN:Hd (¬ Bz h v Q):=hs.not qb;have fy:W0.heap.size<=w.heap.size:=hb.size;have H9:Hd (Cw W0.heap.size (Bz h v) (Bz h v) w W):=Cw.of_below HW.o fy;have yp:=Ac (hs.bl HW.o);have E4:=Ac (hb.trans (HW.o.mono fy));have HLW:=Ac (Ab hr HW.o);have HFL:=Ac hf;have HLN:=Ac (hs.notT hr qd qd qd qd);have HI0:=Ac hi;have pi:=Ac ft;have HGS:=Ac hgs;have HSZ:=Ac cz;have HM:=Ac hM;have HE:=Ac hE;have HPH:=Ac T9;have HCN0:=Ac J4;have rd:m<=200:=by rw[←em];exact hgs.1
 rw[em];clear hs hb hr hf hi ft hgs cz hM hE em T9 J4;go_enter func109,ntmps109;go_wp2_with fail
 try rw[eQ]
 clear eW
 go_loopw [5] (λi wr=>∃(k:X)(ms':Mm)(s':Sb)(v':Hv),k<=m/\i=I k/\Hd (∀br s2 a,Bc ss ts n ms' s' st (.holds gs k) br s2 a->Bc ss ts n ms s st (.holds gs 0) br s2 a)/\Hd (Fv ss ts ms' st)/\Hd (Jz n s')/\Hd (400200*Db ts ms st+ms'.length<=ms.length+k+400200*Db ts ms' st)/\Hd (Ku ts ms' s' st)/\Hd (Cw W0.heap.size (Bz h v) (Bz h v') W wr)/\Hd (Fy W0.heap.size h (J sa ss.length c1) (J ta ts.length c2) n wr ms' s' st v')) (λi _=>m-(intOf i).toNat)
 case atStart=>exact⟨0,ms,s,v,Nat.zero_le _,rfl,(λ_ _ _ k=>k),HI0,pi,(by show _<=_;omega:400200*Db ts ms st+ms.length<=ms.length+0+400200*Db ts ms st),HCN0,Cw.refl _,yp⟩
 case round=>
  obtain⟨k,ms',s',v',hk,rfl,jk,HI,HK,HC,uz,fu,HS⟩:=hrel;have pk:=Ac (E4.o.trans fu.o.bel);have bj:W0.heap.size<=wr.heap.size:=pk.o.size;have HXr:=Ac (fu.o.blk HX.o HN.o);obtain⟨x0,x1,x2⟩:=Bd HXr.o
  by_cases aj:k<m
  rotate_left 1
  ·have io:¬ (k:Int)<(m:Int):=qb
   have HY:=Ac (jk.o _ _ _ (.hend (ss:=ss) (ts:=ts) (n:=n) (ms:=ms') (s:=s') (st:=st) (gs:=gs) (k:=k) qca));go_wp2_with fail;go_ret;exact⟨ms',s',.yes,HY.o,Or.inl ⟨true,v',rfl,rfl,H9.o.trans fu.o,HS.o⟩⟩
  have io:(k:Int)<(m:Int):=qb;have iy:(0:Int)<=(k:Int):=qb;have oa:k<gs.length:=qbz;obtain⟨a2,cc2,e2,F1⟩:=Ha (fu.o.own HLW.o HLN.o) HFL.o;rw[EM.o]at e2;cases e2;obtain⟨b,off,rfl,g1,g2,g3⟩:=F1 k oa;have ox:=Ac (HGS.o.2 k oa);have HZS:=Ac (HSZ.o k oa);have O8:Hd ((gx gs k).ask=false->Av n (Cl (Cf ss ts (gx gs k).name))=(gx gs k).sum->∀br s2 a,Bc ss ts n ms' s' st (.holds gs (k+1)) br s2 a->Bc ss ts n ms s st (.holds gs 0) br s2 a):=λq1 q2 br s2 a q3=>jk.o _ _ _ (.hhas oa q1 q2 q3);have HHNO:Hd ((gx gs k).ask=false->Av n (Cl (Cf ss ts (gx gs k).name))≠(gx gs k).sum->Bc ss ts n ms s st (.holds gs 0) ms' s' .no):=λq1 q2=>jk.o _ _ _ (.hhasno oa q1 q2);have P1:Hd ((gx gs k).ask=true->∀ms1 s1 d,Bc ss ts n ms' s' st (.make (gx gs k).name) ms1 s1 (.ok d)->Av n (Bi d.c d.t)=(gx gs k).sum->∀br s2 a,Bc ss ts n ms1 s1 st (.holds gs (k+1)) br s2 a->Bc ss ts n ms s st (.holds gs 0) br s2 a):=λq1 ms1 s1 d q2 q3 br s2 a q4=>jk.o _ _ _ (.hask oa q1 q2 q3 q4);have HANO:Hd ((gx gs k).ask=true->∀ms1 s1 d,Bc ss ts n ms' s' st (.make (gx gs k).name) ms1 s1 (.ok d)->Av n (Bi d.c d.t)≠(gx gs k).sum->Bc ss ts n ms s st (.holds gs 0) ms1 s1 .no):=λq1 ms1 s1 d q2 q3=>jk.o _ _ _ (.haskno oa q1 q2 q3);have HABD:Hd ((gx gs k).ask=true->∀ms1 s1 b,Bc ss ts n ms' s' st (.make (gx gs k).name) ms1 s1 (.bad b)->Bc ss ts n ms s st (.holds gs 0) ms1 s1 (.bad b)):=λq1 ms1 s1 b q2=>jk.o _ _ _ (.haskbad oa q1 q2);clear F1;generalize (gx gs k).name=x at *;generalize (gx gs k).sum=z at *;generalize (gx gs k).ask=y at *;obtain⟨AH,eG⟩:=Aj wr.heap.size;obtain⟨wG,eWG⟩:=Aj (wr.alloc (O #[S x,F y,S z] 145));(have HBG:Hd (Bw wr wG):=by show Below _ _ _;rw[←eWG];exact aN _ _);have HG:=Ac (nW eWG eG);have uw:=Ac (HS.o.bl HBG.o);have HFG:=Ac (fu.o.trans (Cw.of_below HBG.o bj));have Io:=Ac (pk.o.trans (HBG.o.mono bj));have HNG:Hd (¬ Bz h v' AH):=HS.o.not qb;obtain⟨d0,d1,d2⟩:=Bd HG.o;go_wp2_with fail;clear eWG d0 d1 d2 x0 x1 x2 g1 g2 g3;refine(has_any h sa ta c1 c2 ss ts x wG qbr qbr (HE.o.rs.bl Io.o) (HE.o.rt.bl Io.o) (zo HE.o.l1) (zo HE.o.l2)).mono ?_;rintro e w1 ⟨af,rfl⟩;have hBG:W0.heap.size<=wG.heap.size:=Io.o.size;replace uw:=Ac (uw.o.bl af);replace HG:=Ac (Af HG.o af);replace HFG:=Ac (HFG.o.trans (Cw.of_below af hBG));replace Io:=Ac (Io.o.trans (af.mono hBG));have hGw:AH<w1.heap.size:=Ag HG.o;have bh:W0.heap.size<=w1.heap.size:=Io.o.size;clear af hBG;obtain⟨tb,etb⟩:=Aj (Cf ss ts x);rw[etb];rw[etb]at O8 HHNO;clear etb;go_wp2_with fail;refine(Ln tb w1).mono ?_;rintro e w1' ⟨rfl,rfl⟩;obtain⟨d0,d1,d2⟩:=Bd HG.o;have hfs:(Cl tb).size<=1048576:=zo (Hz tb);cases y
  ·go_wp2_with fail
   clear d0 d1 d2;have n8:=bh;obtain⟨sm,esm⟩:=Aj (Av n (Cl tb));(have A8:Hd (∀V:E,Calls prog 58 #[S (Cl tb),I n] V λe w'=>e=H (S sm)/\Bw V w'):=λV=>by rw[←esm];exact Fo _ n V hfs h1 h8);have ESM:=Ac esm;clear esm;refine Lt.begin 99 (λw'=>w'.cell? ⟨h,2,N⟩=M (I n)/\w'.cell? ⟨h,9,N⟩=M (F false)/\w'.heap[AH]?=M (O #[S x,F false,S z] 145 (0,0))) qi ?_;obtain⟨wD,eD⟩:=Aj w1.drew;rw[eD];have ct:Bw w1 wD:=qy;clear eD;replace uw:=Ac (uw.o.bl ct);replace HG:=Ac (Af HG.o ct);replace HFG:=Ac (HFG.o.trans (Cw.of_below ct n8));have gp:(λw'=>w'.cell? ⟨h,2,N⟩=M (I n)/\w'.cell? ⟨h,9,N⟩=M (F false)/\w'.heap[AH]?=M (O #[S x,F false,S z] 145 (0,0))) wD:=⟨qbr,qbr,HG.o⟩;replace n8:W0.heap.size<=wD.heap.size:=Nat.le_trans n8 ct.size;change K 0 _
   iterate 11
    refine Lt.ti (v:=?_) gp ?_ ?_;rotate_left 1
    ·exact qau
    simp only[gX]
   change K 12 _
   iterate 2
    refine Lt.ti (v:=?_) gp ?_ ?_;rotate_left 1
    ·exact qau
    simp only[gX]
   refine Lt.sp (i:=11) (λK hK=>?_);go_simp;refine(A8.o _).mono ?_;rintro e wS ⟨rfl,X4⟩;replace uw:=Ac (uw.o.bl X4);replace HG:=Ac (Af HG.o X4);replace HFG:=Ac (HFG.o.trans (Cw.of_below X4 n8));have uq:(λw'=>w'.cell? ⟨h,2,N⟩=M (I n)/\w'.cell? ⟨h,9,N⟩=M (F false)/\w'.heap[AH]?=M (O #[S x,F false,S z] 145 (0,0))) wS:=⟨qbr,qbr,HG.o⟩;replace n8:W0.heap.size<=wS.heap.size:=Nat.le_trans n8 X4.size;refine hK.out _ _ (λ_=>uq) (λ_=>?_);clear hK K X4
   try simp only[gX]
   by_cases hq:sm=z
   ·have dq:=Dg hq
    change K 14 _
    iterate 2
     refine Lt.ti (v:=?_) uq ?_ ?_;rotate_left 1
     ·exact qau
     simp only[gX]
    refine Lt.done qi ?_ _;go_wp2_with fail;go_roundw
    case rel=>exact⟨k+1,ms',s',v',qb,qj,(O8.o qad qed),HI,HK,(by have:=HC.o;show _<=_;omega:400200*Db ts ms st+ms'.length<=ms.length+(k+1)+400200*Db ts ms' st),uz,HFG,uw⟩
    case measure=>simp[intOf];omega
   ·have dq:=Gy hq
    change K 14 _
    iterate 2
     refine Lt.ti (v:=?_) uq ?_ ?_;rotate_left 1
     ·exact qau
     simp only[gX]
    refine Lt.done qi ?_ _;go_wp2_with fail;go_ret;exact⟨ms',s',.no,(HHNO.o qad qed),Or.inl ⟨false,v',rfl,rfl,H9.o.trans HFG.o,uw.o⟩⟩
  ·go_wp2_with fail
   clear d0 d1 d2;refine(HM.o ms' s' v' x w1 Io.o uw.o HI.o HK.o ox.o (by have:=HC.o;have:=HPH.o;rw[EM.o]at this;omega) uz.o).mono ?_;rintro e w2 ⟨br,s2,a2,bi,⟨dd,v2,rfl,rfl,bx,cw⟩|⟨bb,nb,rfl,rfl,bx,pa⟩⟩;rotate_left 1
   ·have jw:=Ac (HABD.o qad _ _ _ bi)
    have fl:=Ac (HFG.o.trans bx);have uh:=Ac pa;have be:W0.heap.size<=w2.heap.size:=Nat.le_trans bh bx.bel.size;clear bi bx pa;go_wp2_with fail;refine(Vi _ w2 (codeB_gt bb)).mono ?_;rintro e w3 ⟨rfl,ba⟩;replace fl:=Ac (fl.o.trans (Cw.of_below ba be));replace uh:=Ac (uh.o.frx ba);clear ba;obtain⟨k9,_,_⟩:=uh.o.cells;go_wp2_with fail
    go_quiet (fail)
    go_wp2_with fail;go_ret;exact⟨_,_,_,jw.o,Or.inr ⟨bb,nb,rfl,rfl,H9.o.trans (fl.o.drewN _),uh.o.drewN _⟩⟩
   obtain⟨i1,i2,i3,i4⟩:=Bc.inv HE.o.v bi HI.o HK.o ox.o (λb q=>qw);have zv:=Bc.cost HE.o.v bi HI.o HK.o ox.o (λb q=>qw);have HCT2:=Ac (Bc.cntM HE.o.v bi HI.o HK.o ox.o (λb q=>qw) rfl uz.o);have HMD:=Ac (i1.done _ _ i4);have E0:=Ac i1;have fs:=Ac i2;have jw:=Ac bi;(have HC2:Hd (400200*Db ts ms st+br.length<=ms.length+(k+1)+400200*Db ts br st):=by have:=HC.o;show _<=_;simp only[Ot]at zv;omega);have fl:=Ac (HFG.o.trans bx);have cr:=Ac cw;have be:W0.heap.size<=w2.heap.size:=Nat.le_trans bh bx.bel.size;have E3:=Ac (bx.blk HG.o HNG.o);clear bi bx cw i1 i2 i3 i4 zv;obtain⟨dc,edc⟩:=Aj dd.c;obtain⟨dt,edt⟩:=Aj dd.t;rw[edc,edt];have HFO:Hd (∀V:E,Calls prog 114 #[G #[I dc,S dt,nS]] V λe w'=>e=H (S (Bi dc dt))/\Bw V w'):=λV=>Mv dc dt V (by rw[←edc];exact HMD.o.c0) (by rw[←edc];exact HMD.o.c5) qgs;have hfz:(Bi dc dt).size<=1048576:=zo (Dp (c:=dc) (t:=dt) qgs);have tj:Hd (Av n (Bi dc dt)=z->∀j9 s3 a,Bc ss ts n br s2 st (.holds gs (k+1)) j9 s3 a->Bc ss ts n ms s st (.holds gs 0) j9 s3 a):=λq=>P1.o qad _ _ _ jw.o (by rw[edc,edt];exact q);have HNOO:Hd (Av n (Bi dc dt)≠z->Bc ss ts n ms s st (.holds gs 0) br s2 .no):=λq=>HANO.o qad _ _ _ jw.o (by rw[edc,edt];exact q);clear edc edt;go_wp2_with fail;refine(HFO.o w2).mono ?_;rintro e w3 ⟨rfl,ba⟩;replace fl:=Ac (fl.o.trans (Cw.of_below ba be));replace cr:=Ac (cr.o.bl ba);replace E3:=Ac (Af E3.o ba);have n8:W0.heap.size<=w3.heap.size:=Nat.le_trans be ba.size;clear ba;go_wp2_with fail;obtain⟨sm,esm⟩:=Aj (Av n (Bi dc dt));(have A8:Hd (∀V:E,Calls prog 58 #[S (Bi dc dt),I n] V λe w'=>e=H (S sm)/\Bw V w'):=λV=>by rw[←esm];exact Fo _ n V hfz h1 h8);have ESM:=Ac esm;clear esm;refine Lt.begin 99 (λw'=>w'.cell? ⟨h,2,N⟩=M (I n)/\w'.cell? ⟨h,9,N⟩=M (F false)/\w'.heap[AH]?=M (O #[S x,F true,S z] 145 (0,0))) qi ?_;obtain⟨wD,eD⟩:=Aj w3.drew;rw[eD];have ct:Bw w3 wD:=qy;clear eD;replace cr:=Ac (cr.o.bl ct);replace E3:=Ac (Af E3.o ct);replace fl:=Ac (fl.o.trans (Cw.of_below ct n8));have gp:(λw'=>w'.cell? ⟨h,2,N⟩=M (I n)/\w'.cell? ⟨h,9,N⟩=M (F false)/\w'.heap[AH]?=M (O #[S x,F true,S z] 145 (0,0))) wD:=⟨qbf,qbf,E3.o⟩;replace n8:W0.heap.size<=wD.heap.size:=Nat.le_trans n8 ct.size;change K 0 _
   iterate 11
    refine Lt.ti (v:=?_) gp ?_ ?_;rotate_left 1
    ·exact qau
    simp only[gX]
   change K 12 _
   iterate 2
    refine Lt.ti (v:=?_) gp ?_ ?_;rotate_left 1
    ·exact qau
    simp only[gX]
   refine Lt.sp (i:=11) (λK hK=>?_);go_simp;refine(A8.o _).mono ?_;rintro e wS ⟨rfl,X4⟩;replace cr:=Ac (cr.o.bl X4);replace E3:=Ac (Af E3.o X4);replace fl:=Ac (fl.o.trans (Cw.of_below X4 n8));have uq:(λw'=>w'.cell? ⟨h,2,N⟩=M (I n)/\w'.cell? ⟨h,9,N⟩=M (F false)/\w'.heap[AH]?=M (O #[S x,F true,S z] 145 (0,0))) wS:=⟨qbf,qbf,E3.o⟩;replace n8:W0.heap.size<=wS.heap.size:=Nat.le_trans n8 X4.size;refine hK.out _ _ (λ_=>uq) (λ_=>?_);clear hK K X4
   try simp only[gX]
   by_cases hq:sm=z
   ·have dq:=Dg hq
    change K 14 _
    iterate 2
     refine Lt.ti (v:=?_) uq ?_ ?_;rotate_left 1
     ·exact qau
     simp only[gX]
    refine Lt.done qi ?_ _;go_wp2_with fail;go_roundw
    case rel=>exact⟨k+1,br,s2,v2,qb,qj,(tj.o qed),E0,fs,HC2,HCT2,fl,cr⟩
    case measure=>simp[intOf];omega
   ·have dq:=Gy hq
    change K 14 _
    iterate 2
     refine Lt.ti (v:=?_) uq ?_ ?_;rotate_left 1
     ·exact qau
     simp only[gX]
    refine Lt.done qi ?_ _;go_wp2_with fail;go_ret;exact⟨br,s2,.no,(HNOO.o qed),Or.inl ⟨false,v2,rfl,rfl,H9.o.trans fl.o,cr.o⟩⟩
end Go.Proofs.YtbkkjodaaijimaaGreatDoor
