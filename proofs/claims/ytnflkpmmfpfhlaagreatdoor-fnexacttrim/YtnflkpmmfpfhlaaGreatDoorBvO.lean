import Derived.Test.YtnflkpmmfpfhlaaGreatDoorBsU
import Derived.Test.YtnflkpmmfpfhlaaGreatDoorBtE
import Derived.Test.YtnflkpmmfpfhlaaGreatDoorBuE
namespace Go.Proofs.YtnflkpmmfpfhlaaGreatDoor
open Value renaming slice->J,string->S,bool->F,agg->G,pointer->D,tuple->Y
open Option renaming some->M,none->N
open Obj renaming cells->O
open Go renaming Value->Z,World->E
open Ending renaming returned->H
open _root_ renaming List->L,Nat->X
set_option maxHeartbeats 32000000
set_option maxRecDepth 100000
open _root_.Go.Proofs.Tryz Go.RowKit Go.Deep Go.ChangeShapes Go.WideShapes Go.ChangeAt
set_option linter.unusedVariables false
set_option linter.unusedSimpArgs false
variable {B h n k m p lo fuel b0:X} {sv tv v nw nv:Z} {w w3 W w':E} {ms:Mm} {s:Sb} {st T:L By} {b:Gi} {cs xs zs:L Z} {x:By} {ls:L G3} {R:L T3} {r:Reach} {cv lv:X->Z}
def Zg(n:X)(T:L By)(x:By)(b:Gi):Prop:=∃r,Wm n T (Ap n x) r/\((∃A B,b=.clash A B/\Ji n T x r 2 T A B)\/(b=.full/\Ji n T x r 3 T ⟨#[]⟩ ⟨#[]⟩))
theorem Gd.fall{w2:E}{v:Hv}(k:Gd B h sv tv n w ms s st v)(hb:Bw w w2)(gh:B<=w.heap.size)(h3:Below h w2 w3)(hk:∀b,b<w2.heap.size->b≠h->w3.heap[b]?=w2.heap[b]?):Dn B (Cx h v) (ownD h v.nv) w w3:=by
 have hs:=hb.size;exact⟨(hb.mono gh).trans (h3.mono k.hB),λb hl hx=>(hk b qg (λe=>hx (Or.inl e))).trans (hb.block b hl),λb q=>Or.inl (by rcases q with q|q;exact Or.inl q;exact Or.inr (Or.inr (Or.inr (Or.inr (Or.inl q)))))⟩
theorem Gd.dead{v:Hv}(k:Gd B h sv tv n w ms s st v)(hk:∀b,b<w.heap.size->b≠h->w3.heap[b]?=w.heap[b]?)(e:L Z)(ba:w3.heap[h]?=M (O (([sv,tv,I n,v.tx,v.qv,v.mv,v.kv,v.nv,v.ev]++[Value.bool true]++e).toArray) 63 (0,0)))(he:Ot B w3 b e)(ha:∀u b,e[2]?=M u->u.ownBlock=M b->v.nv.ownBlock≠M b)(hr:s.ran.length+st.length<=1000):Gj B h st.length v.nv w3 b:=
 ⟨_,e,rfl,ba,he,rfl,⟨s.ran,An k.ran (λb q=>hk b (k.ran.lt b q).2 (λe=>Ae k.ran qh k.blk (by rw[←e];exact q))),hr⟩,ha⟩
theorem noOwn(hc:cs[2]?=M nS)(nv:Z):∀u b,cs[2]?=M u->u.ownBlock=M b->nv.ownBlock≠M b:=λu b h q=>by
 rw[hc]at h;cases h;cases q
theorem shopPut(B h n:X)(sv tv:Z)(ms:Mm)(s:Sb)(st:L By)(v:Hv)(x:By)(w:E)(hs:Gd B h sv tv n w ms s st v)(hB:B<=w.heap.size)(h1:1<=n)(h8:n<=8)(fw:Wf n s.T)(hx:x.size<=2002)(ym:s.ran.length+st.length<=1000):Calls prog 135 #[D (p_ h),S x] w λe w'=>(e=H (F true)/\∃T' v',(∃r,Wm n s.T (Ap n x) r/\Ji n s.T x r 0 T' ⟨#[]⟩ ⟨#[]⟩)/\Dn B (Cx h v) (Cx h v') w w'/\Gd B h sv tv n w' ms ⟨T',s.R,s.ran,s.held,s.us⟩ st v'/\v'.u=v.u)\/(e=H (F false)/\∃b nv,Zg n s.T x b/\Dn B (Cx h v) (ownD h nv) w w'/\Gj B h st.length nv w' b):=by
 obtain⟨g1,p1,etx⟩:=hs.txa;obtain⟨a2,p2,eqv⟩:∃a cap,v.qv=J a s.R.length cap:=by obtain⟨xs,cv,lv,r⟩:=hs.rcs;exact Al r.row
 have HX:Hd (w.ownsRow B 9 1 (J (p_ g1) s.T.length p1) s.T.length (s.T.map Value.string)):=by have:=hs.txt;rw[etx]at this;exact this
 have k2:=cK hs.blk 2;have k3:w.cell? ⟨h,3,N⟩=M (J (p_ g1) s.T.length p1):=by rw[cH hs.blk,←etx];rfl
 have k4:w.cell? ⟨h,4,N⟩=M (J a2 s.R.length p2):=by rw[cH hs.blk,←eqv];rfl
 have HS:=Ab hs;have HE:=Ab (And.intro etx eqv);clear hs etx eqv;go_enter func135,ntmps135;go_wp2_with fail;refine(l4Put_b n B g1 p1 a2 _ p2 s.T x w HX.o hB h1 h8 fw hx).mono ?_;rintro e w1 ⟨ag,r,cd,T',A,B',hp,hr,jd⟩;have A5:=Ab hp;have iw:=Ab (HS.o.bl ag);have d6:=Ab ag;clear hp k2 k3 k4
 rcases jd with⟨hne,rfl⟩|⟨rfl,rfl,rfl,g,p,rfl,ho,hg⟩
 ·go_upto_region 2 with fail
  obtain⟨P,eP⟩:=Aj w1.heap.size;obtain⟨w2,e2⟩:=Aj (w1.alloc (O #[I cd,I 0,nS,nS,S A,S B'] 129));(have dy:Hd (Bw w1 w2):=by show Below _ _ _;rw[←e2];exact aN _ _);(have HK:w2.heap[P]?=M (O #[I cd,I 0,nS,nS,S A,S B'] 129 (0,0)):=by rw[←e2,←eP];exact Cr _ _);rw[e2,eP];clear e2;have ct:=Ab (iw.o.bl dy.o);obtain⟨c0,c1,c2,c3,c4,c5⟩:=Hn HK;clear HK
  have hcd:(cd=2/\Ji n s.T x r 2 s.T A B')\/(cd=3/\A=⟨#[]⟩/\B'=⟨#[]⟩/\Ji n s.T x r 3 s.T ⟨#[]⟩ ⟨#[]⟩):=by
   rcases hr with⟨a,b,rfl,rfl,rfl,rfl⟩|⟨a,b,rfl,rfl,rfl,rfl⟩|⟨a,b,rfl,rfl,rfl,rfl⟩|⟨a,b,rfl,rfl,rfl,rfl⟩
   ·exact Or.inl ⟨rfl,Or.inl ⟨a,b,rfl,rfl,rfl,rfl⟩⟩
   ·exact absurd rfl hne
   ·exact Or.inr ⟨rfl,rfl,rfl,Or.inr (Or.inr (Or.inl ⟨a,b,rfl,rfl,rfl,rfl⟩))⟩
   ·exact absurd rfl hne
  clear hr hne
  rcases hcd with⟨rfl,hr⟩|⟨rfl,rfl,rfl,hr⟩
  ·have HF:Hd (Zg n s.T x (.clash A B')):=⟨r,A5.o,Or.inl ⟨A,B',rfl,hr⟩⟩
   clear hr;go_wp2_with fail;clear eP c0 c1 c2 c3 c4 c5;refine(Nd h _ _ _ _ _ _ _ _ _ _ _ _ _ _ _ _ _ _ _ 10 ⟨#[]⟩ A B' N 0 0 w2 ct.o.blk).mono ?_;rintro e w3 ⟨rfl,au,gu,ba⟩;have gi:=Ab (HS.o.fall (bt d6.o dy.o) hB au gu);have HD:Hd (Gj B h st.length v.nv w3 (.clash A B')):=ct.o.dead gu [I 10,ze,nS,I 0,nS,nS,nS,nS,S A,S B'] ba rfl (noOwn rfl _) ym;exact qna
  ·have HF:Hd (Zg n s.T x .full):=⟨r,A5.o,Or.inr ⟨rfl,hr⟩⟩
   clear hr;go_wp2_with fail;clear eP c0 c1 c2 c3 c4 c5;refine(Nd h _ _ _ _ _ _ _ _ _ _ _ _ _ _ _ _ _ _ _ 11 ⟨#[]⟩ ⟨#[]⟩ ⟨#[]⟩ N 0 0 w2 ct.o.blk).mono ?_;rintro e w3 ⟨rfl,au,gu,ba⟩;have gi:=Ab (HS.o.fall (bt d6.o dy.o) hB au gu);have HD:Hd (Gj B h st.length v.nv w3 .full):=ct.o.dead gu [I 11,ze,nS,I 0,nS,nS,nS,nS,ze,ze] ba rfl (noOwn rfl _) ym;exact qna
 ·have HR:=Ab hr
  go_upto_region 2 with fail
  obtain⟨P,eP⟩:=Aj w1.heap.size;obtain⟨w2,e2⟩:=Aj (w1.alloc (O #[I 0,I (n:Int),J (p_ g) T'.length p,J a2 s.R.length p2,ze,ze] 129));(have dy:Hd (Bw w1 w2):=by show Below _ _ _;rw[←e2];exact aN _ _);(have HK:w2.heap[P]?=M (O #[I 0,I (n:Int),J (p_ g) T'.length p,J a2 s.R.length p2,ze,ze] 129 (0,0)):=by rw[←e2,←eP];exact Cr _ _);rw[e2,eP];clear e2;have ct:=Ab (iw.o.bl dy.o);have HB12:=Ab (bt d6.o dy.o);have HG:=Ab (HS.o.setTx hB HB12.o (Ad ho dy.o) (by rw[HE.o.1];rcases hg with q|q;exact Or.inl (by rw[q];rfl);exact Or.inr q));obtain⟨c0,c1,c2,c3,c4,c5⟩:=Hn HK;obtain⟨-,-,k2,k3,k4⟩:=ck5 ct.o.blk;have kf:=fZ ct.o.blk;have hPh:P≠h:=zo (Ag iw.o.blk);clear hr ho hg HK;rw[HE.o.2]at HG;go_wp2_with fail;go_ret;exact Or.inl ⟨rfl,T',_,⟨r,A5.o,HR.o⟩,HG.o.2,HG.o.1,rfl⟩
theorem Dr.app{xs T1:L By}{a:Option Gi}(h:Dr n T xs T1 a):a=N->∀ {ys T2 a2},Dr n T1 ys T2 a2->Dr n T (xs++ys) T2 a2:=by
 induction h with
 | nil=>intro _ ys T2 a2 k;exact k
 | go h1 h2 _ ih=>intro e ys T2 a2 k;exact .go h1 h2 (ih e k)
 | clash=>intro e;cases e
 | full=>intro e;cases e
theorem Dr.one{T':L By}(h:∃r,Wm n T (Ap n x) r/\Ji n T x r 0 T' ⟨#[]⟩ ⟨#[]⟩):Dr n T [x] T' N:=by
 obtain⟨r,h1,h2⟩:=h;exact .go h1 h2 .nil
theorem Zg.put(h:Zg n T x b)(ys:L By):Dr n T (x::ys) T (M b):=by
 obtain⟨r,h1,⟨A,B,rfl,h2⟩|⟨rfl,h2⟩⟩:=h
 ·exact .clash h1 h2
 ·exact .full h1 h2
theorem Oi(ls:L G3)(g:G3):Jb (ls++[g])=Jb ls++(if g.ask=true then [g.sum] else []):=by
 unfold Jb;rw[List.filter_append,List.map_append]
 cases hg:g.ask<;>simp[hg]
theorem Qa(h:k<ls.length):ls.take (k+1)=ls.take k++[gx ls k]:=by
 unfold gx;rw[List.take_add_one,Hq h,gG,Hq h];rfl
theorem Zd(h:k<ls.length):∃ys,Jb ls=Jb (ls.take k)++((if (gx ls k).ask=true then [(gx ls k).sum] else [])++ys):=by
 refine⟨Jb (ls.drop (k+1)),?_⟩;have:ls=ls.take (k+1)++ls.drop (k+1):=(List.take_append_drop _ _).symm
 conv=>lhs;rw[this]
 unfold Jb;rw[List.filter_append,List.map_append,Qa h,List.filter_append,List.map_append,List.append_assoc]
 cases hg:(gx ls k).ask<;>simp[hg]
theorem Tryz.info97x:(prog.info? 73).map (λi=>(i.zero,i.size,i.bytes))=M (M (G #[nS,nS,ze]),3,64):=qk
theorem Uv{s x:Operand}{ops:Array Oper}{o:Oper}{a:Act}{K:Act->E->Prop}{Q:Exit->Act->E->Prop}{AF:Prop}(uj:o.guard=N)(ho:o.op=.call { callee:=.builtin .append,args:=#[s,x],argTypes:=#[33,33] })(B:X)(v:Z)(nn:X)(xs:L Z)(hs:a.eval s=v)(ah:W.ownsRow B 73 3 v nn xs)(d:X)(u0 u1 u2:Z)(hx:a.eval x=J (p_ d) 1 1)(hc:W.heap[d]?=M (O #[u0,u1,u2] 73 (0,0)))(h1:∀u∈[u0,u1,u2],u.oneCell'=true)(hB:B<=W.heap.size)(hn:nn<=10000)(h:∀g' aj w',w'.ownsRow B 73 3 (J (p_ g') (nn+1) aj) (nn+1) (xs++[u0,u1,u2])->W.grownBy w' v.ownBlock->(v.ownBlock=M g'\/g'=W.heap.size)->K (a.put o.dst (J (p_ g') (nn+1) aj)) w'):if Region.wanted o (yielded ops a.tmps)=true then Oper.wp prog o a W K Q else AF:=by
 obtain⟨i0,hi,bq,bi,ci⟩:=info_parts Tryz.info97x
 refine step_append_lies (w:=W) uj s x 33 ho B 73 i0 (G #[nS,nS,ze]) 3 64 underlying33 hi bq bi ci rfl qh _ nn xs hs ah ⟨d,0,N⟩ 1 1 [u0,u1,u2] hx rfl
  (World.news_of_block (cs:=#[u0,u1,u2]) (t:=73) (fr:=(0,0)) hc) h1 qg qq qg hB W.heap.size rfl ?_
 exact qgi
theorem Yh{r:T3}{i:X}(h:i<R.length):qx (R++[r]) i=qx R i:=by
 exact qmt
theorem Yi(R:L T3)(r:T3):qx (R++[r]) R.length=r:=by
 unfold qx;rw[gG,List.getElem?_append_right (Nat.le_refl _)];simp
theorem Dv.add{c d:Z}{rec:T3}{cs:Array Z}(r:Dv w B v R xs cv lv)(hg:w.grownBy w' v.ownBlock)(ho:w'.ownsRow B 73 3 nw (R.length+1) (xs++[c,d,S rec.out])){us:L Z}(h1:w.ownsRow B 174 3 c rec.code.length zs)(h2:Cs rec.code rec.code.length zs)(h3:w.ownsRow B 115 3 d rec.looks.length us)(h4:Bx rec.looks rec.looks.length us)(hc:∀i,i<R.length->∀b,(cv i).ownBlock=M b->c.ownBlock≠M b)(hd:∀i,i<R.length->∀b,(lv i).ownBlock=M b->d.ownBlock≠M b)(hb:w'.heap[h]?=M (O cs 63 (0,0)))(x:Z):Eo (w'.setCell ⟨h,4,N⟩ x) B nw (R++[rec]):=by
 have ht:Dl w' h 63:=⟨_,hb⟩;exact qht
theorem Gd.growQ{v:Hv}(k:Gd B h sv tv n w ms s st v)(gh:B<=w.heap.size){R':L T3}(hq:w.ownsRow B 73 3 v.qv s.R.length xs)(hg:w.grownBy w' v.qv.ownBlock)(dh:∀b,nw.ownBlock=M b->v.qv.ownBlock=M b\/w.heap.size<=b)(x:L X)(hr:Eo (w'.setCell ⟨h,4,N⟩ nw) B nw R'):Gd B h sv tv n (w'.setCell ⟨h,4,N⟩ nw) ms ⟨s.T,R',s.ran,s.held,s.us++x⟩ st ⟨v.tx,nw,v.mv,v.kv,v.nv,v.ev,v.u++x⟩/\Dn B (Cx h v) (Cx h ⟨v.tx,nw,v.mv,v.kv,v.nv,v.ev,v.u++x⟩) w (w'.setCell ⟨h,4,N⟩ nw):=by
 obtain⟨ys,m1,m2⟩:=k.made;have hh:v.qv.ownBlock≠M h:=Ae hq qh k.blk;have hb:=Bh k.blk hg hh;have ll:=Fa hb 4 nw;simp only[List.setIfInBounds_toArray,List.set_cons_zero,List.set_cons_succ]at ll;refine⟨⟨k.hB,ll,Dk k.txt hg (apart k.txt hq qh) hb qh,hr,⟨ys,Dk m1 hg (apart m1 hq qh) hb qh,m2.1,m2.2.app x⟩,Dk k.stk hg (apart k.stk hq qh) hb qh,Dk k.ran hg (apart k.ran hq qh) hb qh,Dk k.held hg (apart k.held hq qh) hb qh,k.txa,k.tk,k.kn,k.ne⟩,?_⟩;refine⟨((Below.refl B w).grown hg gh (λj q=>(hq.lt j q).1)).setCell (p:=⟨h,4,N⟩) k.hB _,λb bv hx=>?_,λb hx=>?_⟩
 ·rw[Dm w' ⟨h,4,N⟩ _ b (λe=>hx (Or.inl e)),hg.block b bv (λq=>hx (Or.inr (Or.inl q.symm)))]
 ·rcases hx with q|q|q
  ·exact Or.inl (Or.inl q)
  ·rcases dh b q with q|q;exact Or.inl (Or.inr (Or.inl q));exact Or.inr q
  ·exact Or.inl (Or.inr (Or.inr q))
theorem Ls.row{a:Option Addr}{is:L I3}(h:Ls B w a is):Cn w a is:=h.1
def NoteE(B h n:X)(sv tv:Z)(ms:Mm)(s:Sb)(st:L By)(v:Hv)(is:L I3)(ls:L G3)(c:Int)(t:By)(w:E)(e:Ending)(w':E):Prop:=
 (∃s' v' r,Ez n s is ls c t s' N/\e=H (Y #[G #[I c,S t,nS],I r])/\0<=r/\Dn B (Cx h v) (Cx h v') w w'/\Gd B h sv tv n w' ms s' st v'/\v'.u=v.u++[r.toNat])\/
 (∃s' b nv,Ez n s is ls c t s' (M b)/\e=H (Y #[G #[I 0,ze,nS],I (-1)])/\Dn B (Cx h v) (ownD h nv) w w'/\Gj B h st.length nv w' b)
theorem Qaf{c:Int}{t:By}(h0:0<=c)(h5:c<=5)(ht:t.size<=2000)(a:Option Addr)(cap:X)(w:E):Calls prog 114 #[G #[I c,S t,J a 0 cap]] w λe w'=>e=H (S (Bp c t))/\Bw w w':=by
 obtain⟨m,rfl⟩:=Int.eq_ofNat_of_zero_le h0;exact Qe m t a cap w qg ht
theorem formB_ne(c:Int)(t:By):Bp c t≠⟨#[]⟩:=λh=>by
 have:(Bp c t).size=0:=by rw[h];rfl
 unfold Bp at this;rw[ByteArray.size_append,ByteArray.size_append]at this;have e:(⟨#[58]⟩:By).size=1:=rfl;omega
theorem gx_name(h:Oq ls)(i:X):(gx ls i).name.size<=9223372036854775807:=by
 rcases Nat.lt_or_ge i ls.length with k|k
 ·have:=(h _ (Ma k)).1.2.1;omega
 ·unfold gx;rw[gG,List.getElem?_eq_none k];show 0≤_;omega
theorem Dv.bl(r:Dv w B v R xs cv lv)(hb:Bw w w'):Dv w' B v R xs cv lv:=
 ⟨Ad r.row hb,r.fil,λi hi=>by obtain⟨ys,a,b⟩:=r.code i hi;exact⟨ys,Ad a hb,b⟩,λi hi=>by obtain⟨ys,a,b⟩:=r.look i hi;exact⟨ys,Ad a hb,b⟩,r.apc,r.apl⟩
theorem Gj.set1(k:Gj B h m nv w b){T:X}(hp:Dl w p T)(h1:T≠63)(h2:T≠9)(j:X)(x:Z):Gj B h m nv (w.setCell ⟨p,j,N⟩ x) b:=by
 obtain⟨pre,e,hl,hk,he,d1,⟨xs,d2,d4⟩,d3⟩:=k
 have hne:h≠p:=λq=>by
  obtain⟨cs,hc⟩:=hp;rw[q,hc]at hk;injection hk with hk;injection hk with _ h5;exact h1 h5
 refine⟨pre,e,hl,Fo hk hne x,?_,d1,⟨xs,Ak d2 hp h2 x,d4⟩,d3⟩
 cases b with
 | circle ch=>obtain⟨cv,a,b⟩:=he;exact⟨cv,Ak a hp h2 x,b⟩
 | deep nm=>exact he
 | clash A B=>exact he
 | full=>exact he
theorem Gj.set3(k:Gj B h m nv w b){T:X}(hp:Dl w p T)(h1:T≠63)(h2:T≠9)(u0 u1 u2:Z):Gj B h m nv (((w.setCell ⟨p,0,N⟩ u0).setCell ⟨p,1,N⟩ u1).setCell ⟨p,2,N⟩ u2) b:=((k.set1 hp h1 h2 0 u0).set1 (hp.set u0) h1 h2 1 u1).set1 ((hp.set u0).set u1) h1 h2 2 u2
theorem shopNote(B h n:X)(sv tv:Z)(ms:Mm)(s:Sb)(st:L By)(v:Hv)(a la:Option Addr)(ac lc:X)(is:L I3)(ls:L G3)(xs:L Z)(c:Int)(t:By)(w:E)(hs:Gd B h sv tv n w ms s st v)(hB:B<=w.heap.size)(h1:1<=n)(h8:n<=8)(fw:Fy n s)(d8:Ls B w a is)(hp:Av is=true)(hx:∀i,(ix is i).text.size<=9223372036854775807)(hl:w.ownsRow B 194 3 (J la ls.length lc) ls.length xs)(hf:Bx ls ls.length xs)(E5:∀b,(Value.slice la ls.length lc).ownBlock=M b->¬ Cx h v b)(hle:ls.length<=200)(hls:Oq ls)(c0:0<=c)(c5:c<=5)(ht:t.size<=2000)(ym:s.ran.length+st.length<=1000):Calls prog 111 #[D (p_ h),G #[J a is.length ac],J la ls.length lc,G #[I c,S t,nS]] w λe w'=>NoteE B h n sv tv ms s st v is ls c t w e w':=by
 obtain⟨W,eW⟩:=Aj (((w.alloc (O #[J a is.length ac] 70)).alloc (O #[I c,S t,nS] 65)).alloc (O #[I 0,ze,nS] 65));have HW:Hd (Bw w W):=by show Below _ _ _;rw[←eW];exact((aN _ _).alloc qi _).alloc qj _
 obtain⟨Q,eQ⟩:=Aj w.heap.size;have HP0:Hd (W.heap[Q]?=M (O #[J a is.length ac] 70 (0,0))):=by show _=_;rw[←eW,←eQ];exact Ro (Ro (Fg _ _))
 have jk:Hd (W.heap[Q+1]?=M (O #[I c,S t,nS] 65 (0,0))):=by
  show _=_;rw[←eW,←eQ];have:=Fg (w.alloc (O #[J a is.length ac] 70)) (O #[I c,S t,nS] 65);rw[show(w.alloc (O #[J a is.length ac] 70)).heap.size=w.heap.size+1 from qi]at this;exact Ro this
 have uq:Hd (W.heap[Q+2]?=M (O #[I 0,ze,nS] 65 (0,0))):=by
  show _=_;rw[←eW,←eQ];have:=Fg ((w.alloc (O #[J a is.length ac] 70)).alloc (O #[I c,S t,nS] 65)) (O #[I 0,ze,nS] 65)
  rwa [show((w.alloc (O #[J a is.length ac] 70)).alloc (O #[I c,S t,nS] 65)).heap.size=w.heap.size+2 from qi]at this
 have HN:Hd (∀b,Q<=b->¬ Cx h v b):=λb hb=>hs.not qg;have O2:Hd (Dn B (Cx h v) (Cx h v) w W):=Dn.of_below HW.o hB;have N6:=Ab (hs.bl HW.o);have HLW:=Ab (Ad hl HW.o);have HFL:=Ab hf;have HLN:=Ab E5;have HCW:=Ab (d8.belowB (HW.o.mono hB));have yw:B<=W.heap.size:=Nat.le_trans hB HW.o.size;have Y4:=Ab hls;have ke:=Ab fw;have we:=Ab hp;have HIX:=Ab hx;have E8:=Ef hp;clear hs hl hf E5 d8 hls fw hp hx;obtain⟨m,em⟩:=Aj ls.length;have EM:=Ab em;rw[em]at hle ⊢;clear em;go_enter func111,ntmps111;go_wp2_with fail
 try rw[eQ]
 clear eW
 go_loopw [10] (λi wr=>∃(k:X)(U:L By)(v':Hv),k<=m/\i=I k/\Hd (Dr n s.T (Jb (ls.take k)) U N)/\Hd (Wf n U)/\Hd (Dn B (Cx h v) (Cx h v') W wr)/\Hd (Gd B h sv tv n wr ms ⟨U,s.R,s.ran,s.held,s.us⟩ st v')/\Hd (v'.u=v.u)) (λi _=>m-(intOf i).toNat)
 case atStart=>exact⟨0,s.T,v,Nat.zero_le _,rfl,.nil,ke.o.1,Dn.refl _,N6,Ab rfl⟩
 case round=>
  obtain⟨k,U,v',hk,rfl,za,l7,gi,HS,HU⟩:=hrel;have bx:=Nat.le_trans yw gi.o.bel.size;have pj:=Ab (gi.o.blk uq.o (HN.o _ qg))
  by_cases ai:k<m
  ·have fs:(k:Int)<(m:Int):=qg
   have jn:(0:Int)<=(k:Int):=qg;have se:k<ls.length:=qah;obtain⟨a2,c2,e2,L6⟩:=Gl (gi.o.own HLW.o HLN.o) HFL.o;rw[EM.o]at e2;cases e2;obtain⟨b,off,rfl,g1,g2,g3⟩:=L6 k se;have hz:(gx ls k).sum.size<=2002:=(Y4.o _ (Ma se)).2;(have HSKIP:Hd ((gx ls k).ask=false->Dr n s.T (Jb (ls.take (k+1))) U N):=λq=>by rw[Qa se,Oi,q];simpa using za.o);have HNEXT:Hd ((gx ls k).ask=true->∀U',Dr n U [(gx ls k).sum] U' N->Dr n s.T (Jb (ls.take (k+1))) U' N):=λq U' k=>by rw[Qa se,Oi,q];exact za.o.app rfl k
   have HFALL:Hd ((gx ls k).ask=true->∀b,Zg n U (gx ls k).sum b->Dr n s.T (Jb ls++[Bp c t]) U (M b)):=λq b k=>by
    obtain⟨ys,ey⟩:=Zd se;rw[ey,q,List.append_assoc];exact za.o.app rfl (by simpa using k.put (ys++[Bp c t]))
   clear L6;generalize (gx ls k).name=x at *;generalize (gx ls k).sum=z at *;generalize (gx ls k).ask=y at *;cases y
   ·go_wp2_with fail
    go_roundw
    case rel=>exact⟨k+1,U,v',qg,qm,HSKIP.o qaj,l7,gi,HS,HU⟩
    case measure=>simp[intOf];omega
   ·go_wp2_with fail
    refine(shopPut B h n sv tv ms _ st v' z wr HS.o bx h1 h8 l7.o hz ym).mono ?_;rintro e w1 (⟨rfl,U',v2,ut,cm,dp,yk⟩|⟨rfl,b',nb,hfa,cm,tg⟩)
    ·have uq:=Ab (HNEXT.o qaj U' (Dr.one ut))
     have HT2:Hd (Wf n U'):=(Dr.one ut).ok l7.o (λx hx=>by rw[List.mem_singleton]at hx;rw[hx];exact hz);have fj:=Ab (gi.o.trans cm);have ct:=Ab dp;have Ge:=Ab (yk.trans HU.o);clear yk;clear ut cm dp g1 g2 g3;go_wp2_with fail;go_roundw
     case rel=>exact⟨k+1,U',v2,qg,qm,uq,HT2,fj,ct,Ge⟩
     case measure=>simp[intOf];omega
    ·have fj:=Ab (gi.o.trans cm)
     have wt:=Ab tg;have I8:=Ab (HFALL.o qaj b' hfa);have iy:=Ab (fj.o.blk uq.o (HN.o _ qg));clear hfa cm tg g1 g2 g3;exact qir
  ·have fs:¬ (k:Int)<(m:Int):=qg
   (have N9:Hd (Dr n s.T (Jb ls) U N):=by have:=za.o;rwa [List.take_of_length_le qaw]at this);have ja:=Ab (gi.o.blk jk.o (HN.o _ qg));obtain⟨x0,x1,x2⟩:=Bb ja.o;go_wp2_with fail;clear x0 x1 x2;refine(Nf c t wr c0 c5 ht).mono ?_;rintro e w0 ⟨rfl,ak⟩;have HFR0:=Ab (gi.o.trans (Dn.of_below ak bx));have iw:=Ab (HS.o.bl ak);have hB0:=Nat.le_trans bx ak.size;clear ak ja pj;go_wp2_with fail;refine(shopPut B h n sv tv ms _ st v' (Bp c t) w0 iw.o hB0 h1 h8 l7.o (Dx ht) ym).mono ?_;rintro e w1 (⟨rfl,U',v2,ut,cm,dp,yk⟩|⟨rfl,b',nb,hfa,cm,tg⟩);rotate_left 1
   ·have fj:=Ab (HFR0.o.trans cm)
    have wt:=Ab tg;have I8:Hd (Dr n s.T (Jb ls++[Bp c t]) U (M b')):=N9.o.app rfl (hfa.put []);have iy:=Ab (fj.o.blk uq.o (HN.o _ qg));clear hfa cm tg;exact qir
   have HPC:Hd (Dr n s.T (Jb ls++[Bp c t]) U' N):=N9.o.app rfl (Dr.one ut);have fj:=Ab (HFR0.o.trans cm);have ct:=Ab dp;have Ge:=Ab (yk.trans HU.o);clear yk HU;have bg:=Nat.le_trans hB0 cm.bel.size;clear ut cm dp HS iw gi HFR0 za N9 l7;have iy:=Ab (fj.o.blk uq.o (HN.o _ qg));obtain⟨ys,cv,lw,ry⟩:=ct.o.rcs;obtain⟨a2,p2,eqv⟩:=Al ry.row;replace eqv:=eqv;have k4:w1.cell? ⟨h,4,N⟩=M (J a2 s.R.length p2):=by rw[cH ct.o.blk,←eqv];rfl
   by_cases h2k:2000<=s.R.length
   ·have d2k:decide ((2000:Int)<=(s.R.length:Int))=true:=qj
    have HNR:Hd (Ez n s is ls c t ⟨U',s.R,s.ran,s.held,s.us⟩ (M .full)):=.recs HPC.o h2k;clear h2k ry eqv;go_wp2_with fail;clear k4;refine(Nd h _ _ _ _ _ _ _ _ _ _ _ _ _ _ _ _ _ _ _ 11 ⟨#[]⟩ ⟨#[]⟩ ⟨#[]⟩ N 0 0 w1 ct.o.blk).mono ?_;rintro e w3 ⟨rfl,au,gu,ba⟩;have HF3:=Ab (fj.o.trans (ct.o.fall (Below.refl _ _) bg au gu));have wt:Hd (Gj B h st.length v2.nv w3 .full):=ct.o.dead gu [I 11,ze,nS,I 0,nS,nS,nS,nS,ze,ze] ba rfl (noOwn rfl _) ym;replace iy:=Ab (HF3.o.blk uq.o (HN.o _ qg));replace fj:=HF3;clear au gu ba;obtain⟨z0,z1,z2,zf⟩:=Ci iy.o;go_wp2_with fail;obtain⟨y0,y1,y2,_⟩:=Ci (Ba iy.o (I 0) ze nS);exact bR (v:=Y #[G #[I 0,ze,nS],I (-1)]) (by simp[results,results111,go_sem,y0,y1,y2]) rfl (Or.inr ⟨_,_,_,HNR.o,rfl,(O2.o.trans fj.o).set3 qg qg _ _ _,wt.o.set3 ⟨_,iy.o⟩ qh qh _ _ _⟩)
   have d2k:decide ((2000:Int)<=(s.R.length:Int))=false:=qj;have je:Hd (Ez n s is ls c t ⟨U',s.R++[⟨is,ls.map (Lq n),Ap n (Bp c t)⟩],s.ran,s.held,s.us++[s.R.length]⟩ N):=.ok HPC.o qg;have N7:=Ab ry;have EQV:=Ab eqv;clear ry eqv;go_wp2_with fail;clear k4 d2k;have yj:=Ab (fj.o.blk HP0.o (HN.o _ qg));have ja:=Ab (fj.o.blk jk.o (HN.o _ qg));have gt:=Ab (HCW.o.belowB fj.o.bel);have HLR:=Ab (fj.o.own HLW.o HLN.o);have vf:=bg;refine Lt.begin 20 (λw'=>w'.cell? ⟨h,2,N⟩=M (I n)/\w'.cell? ⟨h,4,N⟩=M (J a2 s.R.length p2)/\w'.heap[Q]?=M (O #[J a is.length ac] 70 (0,0))/\w'.heap[Q+1]?=M (O #[I c,S t,nS] 65 (0,0))) qk ?_;obtain⟨wD,eD⟩:=Aj w1.drew;rw[eD];have dr:Bw w1 wD:=qaf;clear eD;replace ct:=Ab (ct.o.bl dr);replace yj:=Ab (Af yj.o dr);replace ja:=Ab (Af ja.o dr);replace iy:=Ab (Af iy.o dr);replace fj:=Ab (fj.o.trans (Dn.of_below dr vf));replace gt:=Ab (gt.o.belowB (Below.mono dr vf));replace HLR:=Ab (Ad HLR.o dr);have gz:(λw'=>w'.cell? ⟨h,2,N⟩=M (I n)/\w'.cell? ⟨h,4,N⟩=M (J a2 s.R.length p2)/\w'.heap[Q]?=M (O #[J a is.length ac] 70 (0,0))/\w'.heap[Q+1]?=M (O #[I c,S t,nS] 65 (0,0))) wD:=⟨qbk,qgz,yj.o,ja.o⟩;replace vf:=Nat.le_trans vf dr.size;change K 0 _
   iterate 6
    refine Lt.ti (v:=?_) gz ?_ ?_;rotate_left 1
    ·exact qft
    simp only[gX]
   refine Lt.ti (i:=6) (v:=?_) gz ?_ ?_;rotate_left 1
   ·rintro w ⟨s1,s2,s3,s4⟩
    have p0:=Jh s3;obtain⟨x0,x1,x2⟩:=Bb s4;exact qae
   simp only[gX];change K 7 _
   iterate 7
    refine Lt.ti (v:=?_) gz ?_ ?_;rotate_left 1
    ·exact qft
    simp only[gX]
   refine Lt.sp (i:=14) (λK hK=>?_);go_simp;have hnt:=Xa a la N ac lc 0 is ls c t 0 n (Bp c t) wD gt.o.1 (by obtain⟨a3,c3,e3,q3⟩:=Gl HLR.o HFL.o;cases e3;exact q3) qg HIX.o (by rw[EM.o];exact hle) (λa cap w=>Qaf c0 c5 ht a cap w) we.o h1 h8 (formB_ne c t) (Dx ht) (λi hi=>by have:=(Y4.o _ (Ma hi)).2;omega) (λi=>gx_name Y4.o i);rw[EM.o]at hnt;refine hnt.mono ?_;rintro e wN ⟨hbN,⟨U3,u1,u2,rfl,hro⟩|⟨⟨i,hi,ip⟩,_⟩⟩;rotate_left 1
   ·exact absurd (Y4.o _ (Ma (by rw[EM.o];exact hi))).1 ip
   obtain⟨zs,us,q1,q2,q3,q4⟩:=hro;have j9:=Ab q1;have I7:=Ab q2;have HQ3:=Ab q3;have HQ4:=Ab q4;clear q1 q2 q3 q4 U3 hnt;have hBD:=vf;replace ct:=Ab (ct.o.bl hbN);replace yj:=Ab (Af yj.o hbN);replace ja:=Ab (Af ja.o hbN);replace iy:=Ab (Af iy.o hbN);replace fj:=Ab (fj.o.trans (Dn.of_below hbN vf));replace gt:=Ab (gt.o.belowB (Below.mono hbN vf));replace HLR:=Ab (Ad HLR.o hbN);have xe:(λw'=>w'.cell? ⟨h,2,N⟩=M (I n)/\w'.cell? ⟨h,4,N⟩=M (J a2 s.R.length p2)/\w'.heap[Q]?=M (O #[J a is.length ac] 70 (0,0))/\w'.heap[Q+1]?=M (O #[I c,S t,nS] 65 (0,0))) wN:=⟨qbk,qgz,yj.o,ja.o⟩;replace vf:=Nat.le_trans vf hbN.size;refine hK.out _ _ (λ_=>xe) (λ_=>?_);clear hK K 
   try simp only[gX]
   refine Lt.sp (i:=15) (λK hK=>?_);go_simp;obtain⟨ua,uc,eu1⟩:=Al j9.o;obtain⟨ub,ud,eu2⟩:=Al HQ3.o;subst eu1;subst eu2;refine Cb (Q:=λx=>K _ x) ?_;intro wL ie HL
   try dsimp only
   obtain⟨dL,edL⟩:=Aj wN.heap.size;rw[edL]at HL ⊢;replace j9:=Ab (Ad j9.o ie);replace HQ3:=Ab (Ad HQ3.o ie);replace ct:=Ab (ct.o.bl ie);replace yj:=Ab (Af yj.o ie);replace ja:=Ab (Af ja.o ie);replace iy:=Ab (Af iy.o ie);replace fj:=Ab (fj.o.trans (Dn.of_below ie vf));have hS2:(λw'=>w'.cell? ⟨h,2,N⟩=M (I n)/\w'.cell? ⟨h,4,N⟩=M (J a2 s.R.length p2)/\w'.heap[Q]?=M (O #[J a is.length ac] 70 (0,0))/\w'.heap[Q+1]?=M (O #[I c,S t,nS] 65 (0,0))) wL:=⟨qbk,qgz,yj.o,ja.o⟩;replace vf:=Nat.le_trans vf ie.size;refine hK.out _ _ (λ_=>hS2) (λ_=>?_);clear hK K 
   try simp only[gX]
   refine Lt.sp (i:=16) (λK hK=>?_);have Q4:=((N7.o.bl dr).bl hbN).bl ie;have hq:=Q4.row;rw[EQV.o]at hq;refine Uv rfl qt B (J a2 s.R.length p2) s.R.length ys qt hq dL _ _ _ qt HL.o qcz vf qg ?_;intro g' aj w7 ah ae dh;have hqr:w7.heap[h]?=_:=Bh ct.o.blk ae (Ae hq qh ct.o.blk);rw[←EQV.o]at ae;have hadd:=Q4.add (rec:=⟨is,ls.map (Lq n),Ap n (Bp c t)⟩) ae ah (Ah j9.o hBD) I7.o (Ah HQ3.o hBD) HQ4.o (λi hi b q1 q2=>by have:=(j9.o.lt b q2).1;obtain⟨ys,r1,_⟩:=N7.o.code i hi;have:=(r1.lt b q1).2;have:=dr.size;omega) (λi hi b q1 q2=>by have:=(HQ3.o.lt b q2).1;obtain⟨ys,r1,_⟩:=N7.o.look i hi;have:=(r1.lt b q1).2;have:=dr.size;omega) hqr (J (p_ g') (s.R.length+1) aj)
   have uh:∀b,(Value.slice (p_ g') (s.R.length+1) aj).ownBlock=M b->v2.qv.ownBlock=M b\/wL.heap.size<=b:=λb q=>by
    obtain rfl:g'=b:=qav
    rcases dh with q|q
    ·exact Or.inl (by rw[EQV.o];exact q)
    ·right;omega
   have HG:=Ab (ct.o.growQ vf Q4.row ae uh [s.R.length] hadd);have t8:=Ab hqr;have hq0:=Ae hq qh yj.o;have mh:=Ae hq qh ja.o;have hq3:=Ae hq qh iy.o;rw[←EQV.o]at hq0 mh hq3;have HR07:=Ab (Bh yj.o ae hq0);have HR17:=Ab (Bh ja.o ae mh);have HR37:=Ab (Bh iy.o ae hq3);have I1:(λw'=>w'.cell? ⟨h,2,N⟩=M (I n)/\w'.cell? ⟨h,4,N⟩=M (J a2 s.R.length p2)/\w'.heap[Q]?=M (O #[J a is.length ac] 70 (0,0))/\w'.heap[Q+1]?=M (O #[I c,S t,nS] 65 (0,0))) w7:=⟨(by rw[cH t8.o];rfl),(by rw[cH t8.o,←EQV.o];rfl),HR07.o,HR17.o⟩;refine hK.out _ _ (λ_=>I1) (λ_=>?_);clear hK K ae ah hadd Q4 hq hqr hq0 mh hq3;simp only[gX];refine Lt.sp (i:=17) (λK hK=>?_);go_simp;refine hK.out _ _ (λ_=>I1) (λ_=>?_);clear hK K 
   try simp only[gX]
   refine Lt.sp (i:=18) (λK hK=>?_);go_simp;refine hK.out _ _ (λ_=>I1) (λ_=>?_);clear hK K 
   try simp only[gX]
   refine Lt.ti (i:=19) (v:=?_) I1 ?_ ?_;rotate_left 1
   ·exact qft
   simp only[gX];have k4:=I1.2.1;have kf:=fZ t8.o;refine Lt.sp (i:=20) (λK hK=>?_);go_simp;refine hK.out _ _ (λh=>absurd rfl h) (λ_=>?_);clear hK K;refine Lt.done qk ?_ _;obtain⟨V,eV⟩:=Aj (w7.setCell ⟨h,4,N⟩ (J (p_ g') (s.R.length+1) aj));rw[eV]at HG ⊢;(have HR1V:V.heap[Q+1]?=M (O #[I c,S t,nS] 65 (0,0)):=by rw[←eV];exact Fo HR17.o (λq=>HN.o _ (Nat.le_succ Q) (Or.inl q)) _);(have X9:V.heap[Q+2]?=M (O #[I 0,ze,nS] 65 (0,0)):=by rw[←eV];exact Fo HR37.o (λq=>HN.o _ (Nat.le_add_right Q 2) (Or.inl q)) _);have HFV:=Ab (O2.o.trans (fj.o.trans HG.o.2));have bh:=Ab HG.o.1;clear eV k4 kf I1 HG t8 HR07 HR17 HR37;have k4:=cK bh.o.blk 4;obtain⟨x0,x1,x2⟩:=Bb HR1V;obtain⟨z0,z1,z2,zf⟩:=Ci X9;have hne:h≠Q+2:=λq=>HN.o _ (Nat.le_add_right Q 2) (Or.inl q.symm);go_wp2_with fail;have HV1:=Ab HR1V;have HV3:=Ab X9;have I9:=Ab k4;clear HR1V X9 k4 x0 x1 x2 z0 z1 z2 zf;refine Lt.begin 9 (λw'=>w'.cell? ⟨h,4,N⟩=M (J (p_ g') (s.R.length+1) aj)/\w'.heap[Q+1]?=M (O #[I c,S t,nS] 65 (0,0))) qk ?_;obtain⟨wE,eD⟩:=Aj V.drew;rw[eD];have dr:Bw V wE:=qaf;clear eD;replace HV1:=Ab (Af HV1.o dr);replace HV3:=Ab (Af HV3.o dr);replace I9:=Ab (Aa dr I9.o);replace bh:=Ab (bh.o.bl dr);replace HFV:=Ab (HFV.o.trans (Dn.of_below dr (Nat.le_trans hB HFV.o.bel.size)));have gz:(λw'=>w'.cell? ⟨h,4,N⟩=M (J (p_ g') (s.R.length+1) aj)/\w'.heap[Q+1]?=M (O #[I c,S t,nS] 65 (0,0))) wE:=⟨I9.o,HV1.o⟩;change K 0 _
   iterate 8
    refine Lt.ti (v:=?_) gz ?_ ?_;rotate_left 1
    ·exact qbr
    simp only[gX]
   obtain⟨z0,z1,z2,zf⟩:=Ci HV3.o;refine Lt.sp (i:=8) (λK hK=>?_);go_simp;have lx:(λw'=>w'.cell? ⟨h,4,N⟩=M (J (p_ g') (s.R.length+1) aj)/\w'.heap[Q+1]?=M (O #[I c,S t,nS] 65 (0,0))) (((wE.setCell ⟨Q+2,0,N⟩ (I c)).setCell ⟨Q+2,1,N⟩ (S t)).setCell ⟨Q+2,2,N⟩ nS):=⟨by rw[World.cell?_setCell_far _ _ _ _ qj,World.cell?_setCell_far _ _ _ _ qj,World.cell?_setCell_far _ _ _ _ qj];exact I9.o,Fo (Fo (Fo HV1.o qg _) qg _) qg _⟩;refine hK.out _ _ (λ_=>lx) (λ_=>?_);clear hK K z0 z1 z2 zf
   try simp only[gX]
   refine Lt.sp (i:=9) (λK hK=>?_);go_simp;refine hK.out _ _ (λh=>absurd rfl h) (λ_=>?_);clear hK K;refine Lt.done qk ?_ _;go_wp2_with fail;have X9:=HV3.o;obtain⟨y0,y1,y2,_⟩:=Ci (Ba X9 (I c) (S t) nS);exact bR (v:=Y #[G #[I c,S t,nS],I (s.R.length:Int)]) (by simp[results,results111,go_sem,y0,y1,y2];try exact IntWalk.i64_in _ ⟨qg,qg⟩) rfl (Or.inl ⟨_,_,_,je.o,rfl,qg,HFV.o.set3 qg qg _ _ _,bh.o.set3 ⟨_,X9⟩ qh _ _ _,by show v2.u++[s.R.length]=_;rw[Ge.o];rfl⟩)
def MakeP5(B h:X)(sv tv:Z)(n:X)(ss:L S2)(ts:L T2)(ms:Mm)(s:Sb)(st:L By)(v:Hv)(nm:By)(w:E)(e:Ending)(w':E):Prop:=
 ∃ms' s' a,Az ss ts n ms s st (.make nm) ms' s' a/\((∃d v',a=.ok d/\e=H (G #[I d.c,S d.t,nS])/\Dn B (Cx h v) (Cx h v') w w'/\Gd B h sv tv n w' ms' s' st v'/\v'.u=[])\/(∃b nv,a=.bad b/\e=H (G #[I (Hx b),ze,nS])/\Dn B (Cx h v) (ownD h nv) w w'/\Gj B h st.length nv w' b))
def Oj(W0:E)(h:X)(sv tv:Z)(n:X)(ss:L S2)(ts:L T2)(st:L By):Prop:=∀(ms:Mm)(s:Sb)(v:Hv)(nm:By)(w:E),Bw W0 w->Gd W0.heap.size h sv tv n w ms s st v->v.u=[]->Gs ss ts ms st->Fy n s->Ao nm->ms.length<=400200*Dp ts ms st->Pr ts ms s st->Calls prog 52 #[D (p_ h),S nm] w λe w'=>MakeP5 W0.heap.size h sv tv n ss ts ms s st v nm w e w'
def HoldsP(B h:X)(sv tv:Z)(n:X)(ss:L S2)(ts:L T2)(ms:Mm)(s:Sb)(st:L By)(v:Hv)(gs:L G3)(w:E)(e:Ending)(w':E):Prop:=
 ∃ms' s' a,Az ss ts n ms s st (.holds gs 0) ms' s' a/\((∃y v',a=(if y then .yes else .no)/\e=H (F y)/\Dn B (Cx h v) (Cx h v') w w'/\Gd B h sv tv n w' ms' s' st v'/\v'.u=[])\/(∃b nv,a=.bad b/\e=H (F false)/\Dn B (Cx h v) (ownD h nv) w w'/\Gj B h st.length nv w' b))
theorem Gd.notT{v:Hv}(k:Gd B h sv tv n w ms s st v){B' e sz l:X}{u:Z}(ho:w.ownsRow B' e sz u l xs)(h1:e≠63)(h2:e≠73)(h3:e≠67)(h4:e≠9):∀b,u.ownBlock=M b->¬ Cx h v b:=by
 intro b q;obtain⟨xs,m1,m2⟩:=k.made;obtain⟨ys,cv,lv,r⟩:=k.rcs;rintro(q2|q2|q2|q2|q2|q2)
 ·subst q2;exact Ae ho (Ne.symm h1) k.blk q
 ·exact apart ho r.row h2 b q q2
 ·exact apart ho m1 h3 b q q2
 ·exact apart ho k.stk h4 b q q2
 ·exact apart ho k.ran h4 b q q2
 ·exact apart ho k.held h4 b q q2
theorem Xb(c:Int)(w:E)(h5:5<c):Calls prog 114 #[G #[I c,ze,nS]] w λe w'=>e=H ze/\Bw w w':=by
 have d1:decide (c<0)=false:=qj;obtain⟨W,eW⟩:=Aj (w.alloc (O #[I c,ze,nS] 65));have hb:Bw w W:=qgt;have k0:W.cell? ⟨w.heap.size,0,N⟩=M (I c):=by rw[←eW];simp[go_sem]
 go_enter func114,ntmps114;go_wp2;go_ret;exact⟨rfl,hb⟩
theorem Qy(b:Gi):5<Hx b:=by cases b<;>simp[Hx]
theorem Dn.drewN{AM X':X->Prop}(h:Dn B AM X' w w')(k:X):Dn B AM X' w (w'.drewN k):=⟨below_drewN h.bel k,λb hb hx=>by rw[World.heap_drewN];exact h.keep b hb hx,h.new⟩
theorem Gj.drewN(d:Gj B h m nv w b)(k:X):Gj B h m nv (w.drewN k) b:=d.frx (below_drewN (Below.refl _ _) k)
theorem holds_any(W0:E)(h:X)(sa ta:Option Addr)(c1 c2 n:X)(ss:L S2)(ts:L T2)(hE:Jf W0 sa ta ss ts)(st:L By)(hM:Oj W0 h (J sa ss.length c1) (J ta ts.length c2) n ss ts st)(h1:1<=n)(h8:n<=8)(ms:Mm)(s:Sb)(v:Hv)(qa la:Option Addr)(ql qc lc:X)(gs:L G3)(ys:L Z)(out:By)(w:E)(hb:Bw W0 w)(hs:Gd W0.heap.size h (J sa ss.length c1) (J ta ts.length c2) n w ms s st v)(hu:v.u=[])(hi:Gs ss ts ms st)(fw:Fy n s)(hgs:GsOk gs)(hr:w.ownsRow W0.heap.size 115 3 (J la gs.length lc) gs.length ys)(hf:Bx gs gs.length ys)(de:∀i,i<gs.length->(gx gs i).sum.size<=1048576)(hph:ms.length+gs.length<=400200*Dp ts ms st)(Q9:Pr ts ms s st):Calls prog 109 #[D (p_ h),G #[J qa ql qc,J la gs.length lc,S out]] w λe w'=>HoldsP W0.heap.size h (J sa ss.length c1) (J ta ts.length c2) n ss ts ms s st v gs w e w':=by
 obtain⟨m,em⟩:=Aj gs.length;have EM:=Ab em;obtain⟨W,eW⟩:=Aj (w.alloc (O #[J qa ql qc,J la m lc,S out] 73));have HW:Hd (Bw w W):=by show Below _ _ _;rw[←eW];exact aN _ _
 obtain⟨Q,eQ⟩:=Aj w.heap.size;have HX:=Ab (nW eW eQ);have HN:Hd (¬ Cx h v Q):=hs.not qg;have gh:W0.heap.size<=w.heap.size:=hb.size;have O2:Hd (Dn W0.heap.size (Cx h v) (Cx h v) w W):=Dn.of_below HW.o gh;have N6:=Ab (hs.bl HW.o);have py:=Ab (hb.trans (HW.o.mono gh));have HLW:=Ab (Ad hr HW.o);have HFL:=Ab hf;have HLN:=Ab (hs.notT hr qh qh qh qh);have HI0:=Ab hi;have tz:=Ab fw;have HGS:=Ab hgs;have HSZ:=Ab de;have HM:=Ab hM;have HE:=Ab hE;have HPH:=Ab hph;have HCN0:=Ab Q9;have td:m<=200:=by rw[←em];exact hgs.1
 rw[em];clear hs hb hr hf hi fw hgs de hM hE em hph Q9;go_enter func109,ntmps109;go_wp2_with fail
 try rw[eQ]
 clear eW
 go_loopw [5] (λi wr=>∃(k:X)(ms':Mm)(s':Sb)(v':Hv),k<=m/\i=I k/\Hd (∀ce s2 a,Az ss ts n ms' s' st (.holds gs k) ce s2 a->Az ss ts n ms s st (.holds gs 0) ce s2 a)/\Hd (Gs ss ts ms' st)/\Hd (Fy n s')/\Hd (400200*Dp ts ms st+ms'.length<=ms.length+k+400200*Dp ts ms' st)/\Hd (Pr ts ms' s' st)/\Hd (Dn W0.heap.size (Cx h v) (Cx h v') W wr)/\Hd (Gd W0.heap.size h (J sa ss.length c1) (J ta ts.length c2) n wr ms' s' st v')/\Hd (v'.u=[])) (λi _=>m-(intOf i).toNat)
 case atStart=>exact⟨0,ms,s,v,Nat.zero_le _,rfl,(λ_ _ _ k=>k),HI0,tz,(by show _<=_;omega:400200*Dp ts ms st+ms.length<=ms.length+0+400200*Dp ts ms st),HCN0,Dn.refl _,N6,Ab hu⟩
 case round=>
  obtain⟨k,ms',s',v',hk,rfl,gt,HI,HK,HC,ou,gi,HS,HU⟩:=hrel;have jl:=Ab (py.o.trans gi.o.bel);have bx:=jl.o.size;have HXr:=Ab (gi.o.blk HX.o HN.o);obtain⟨x0,x1,x2⟩:=Bb HXr.o
  by_cases ai:k<m
  rotate_left 1
  ·have fs:¬ (k:Int)<(m:Int):=qg
   have HY:=Ab (gt.o _ _ _ (.hend (ss:=ss) (ts:=ts) (n:=n) (ms:=ms') (s:=s') (st:=st) (gs:=gs) (k:=k) qaw));go_wp2_with fail;go_ret;exact⟨ms',s',.yes,HY.o,Or.inl ⟨true,v',rfl,rfl,O2.o.trans gi.o,HS.o,HU.o⟩⟩
  have fs:(k:Int)<(m:Int):=qg;have jn:(0:Int)<=(k:Int):=qg;have se:k<gs.length:=qah;obtain⟨a2,cc2,e2,L6⟩:=Gl (gi.o.own HLW.o HLN.o) HFL.o;rw[EM.o]at e2;cases e2;obtain⟨b,off,rfl,g1,g2,g3⟩:=L6 k se;have pn:=Ab (HGS.o.2 k se);have HZS:=Ab (HSZ.o k se);have Y5:Hd ((gx gs k).ask=false->Ap n (Cz (Cj ss ts (gx gs k).name))=(gx gs k).sum->∀ce s2 a,Az ss ts n ms' s' st (.holds gs (k+1)) ce s2 a->Az ss ts n ms s st (.holds gs 0) ce s2 a):=λq1 q2 ce s2 a q3=>gt.o _ _ _ (.hhas se q1 q2 q3);have HHNO:Hd ((gx gs k).ask=false->Ap n (Cz (Cj ss ts (gx gs k).name))≠(gx gs k).sum->Az ss ts n ms s st (.holds gs 0) ms' s' .no):=λq1 q2=>gt.o _ _ _ (.hhasno se q1 q2);have Y8:Hd ((gx gs k).ask=true->∀ms1 s1 d,Az ss ts n ms' s' st (.make (gx gs k).name) ms1 s1 (.ok d)->Ap n (Bp d.c d.t)=(gx gs k).sum->∀ce s2 a,Az ss ts n ms1 s1 st (.holds gs (k+1)) ce s2 a->Az ss ts n ms s st (.holds gs 0) ce s2 a):=λq1 ms1 s1 d q2 q3 ce s2 a q4=>gt.o _ _ _ (.hask se q1 q2 q3 q4);have HANO:Hd ((gx gs k).ask=true->∀ms1 s1 d,Az ss ts n ms' s' st (.make (gx gs k).name) ms1 s1 (.ok d)->Ap n (Bp d.c d.t)≠(gx gs k).sum->Az ss ts n ms s st (.holds gs 0) ms1 s1 .no):=λq1 ms1 s1 d q2 q3=>gt.o _ _ _ (.haskno se q1 q2 q3);have HABD:Hd ((gx gs k).ask=true->∀ms1 s1 b,Az ss ts n ms' s' st (.make (gx gs k).name) ms1 s1 (.bad b)->Az ss ts n ms s st (.holds gs 0) ms1 s1 (.bad b)):=λq1 ms1 s1 b q2=>gt.o _ _ _ (.haskbad se q1 q2);clear L6;generalize (gx gs k).name=x at *;generalize (gx gs k).sum=z at *;generalize (gx gs k).ask=y at *;obtain⟨AH,eG⟩:=Aj wr.heap.size;obtain⟨wG,eWG⟩:=Aj (wr.alloc (O #[S x,F y,S z] 115));(have HBG:Hd (Bw wr wG):=by show Below _ _ _;rw[←eWG];exact aN _ _);have HG:=Ab (nW eWG eG);have xq:=Ab (HS.o.bl HBG.o);have HFG:=Ab (gi.o.trans (Dn.of_below HBG.o bx));have O6:=Ab (jl.o.trans (HBG.o.mono bx));have HNG:Hd (¬ Cx h v' AH):=HS.o.not qg;obtain⟨d0,d1,d2⟩:=Bb HG.o;go_wp2_with fail;clear eWG d0 d1 d2 x0 x1 x2 g1 g2 g3;refine(has_any h sa ta c1 c2 ss ts x wG qcb qcb (HE.o.rs.bl O6.o) (HE.o.rt.bl O6.o) (zo HE.o.l1) (zo HE.o.l2)).mono ?_;rintro e w1 ⟨ag,rfl⟩;have hBG:=O6.o.size;replace xq:=Ab (xq.o.bl ag);replace HG:=Ab (Af HG.o ag);replace HFG:=Ab (HFG.o.trans (Dn.of_below ag hBG));replace O6:=Ab (O6.o.trans (ag.mono hBG));have bm:=O6.o.size;clear ag hBG;obtain⟨tb,etb⟩:=Aj (Cj ss ts x);rw[etb];rw[etb]at Y5 HHNO;clear etb;go_wp2_with fail;refine(Lx tb w1).mono ?_;rintro e w1' ⟨rfl,rfl⟩;obtain⟨d0,d1,d2⟩:=Bb HG.o;have hfs:(Cz tb).size<=1048576:=zo (Ig tb);cases y
  ·go_wp2_with fail
   clear d0 d1 d2;have vf:=bm;obtain⟨sm,esm⟩:=Aj (Ap n (Cz tb));(have ph:Hd (∀V:E,Calls prog 27 #[S (Cz tb),I n] V λe w'=>e=H (S sm)/\Bw V w'):=λV=>by rw[←esm];exact Ex _ n V hfs h1 h8);have ESM:=Ab esm;clear esm;refine Lt.begin 99 (λw'=>w'.cell? ⟨h,2,N⟩=M (I n)/\w'.cell? ⟨h,9,N⟩=M (F false)/\w'.heap[AH]?=M (O #[S x,F false,S z] 115 (0,0))) qk ?_;obtain⟨wD,eD⟩:=Aj w1.drew;rw[eD];have dr:Bw w1 wD:=qaf;clear eD;replace xq:=Ab (xq.o.bl dr);replace HG:=Ab (Af HG.o dr);replace HFG:=Ab (HFG.o.trans (Dn.of_below dr vf));have gz:(λw'=>w'.cell? ⟨h,2,N⟩=M (I n)/\w'.cell? ⟨h,9,N⟩=M (F false)/\w'.heap[AH]?=M (O #[S x,F false,S z] 115 (0,0))) wD:=⟨qcb,qcb,HG.o⟩;replace vf:=Nat.le_trans vf dr.size;change K 0 _
   iterate 11
    refine Lt.ti (v:=?_) gz ?_ ?_;rotate_left 1
    ·exact qaz
    simp only[gX]
   change K 12 _
   iterate 2
    refine Lt.ti (v:=?_) gz ?_ ?_;rotate_left 1
    ·exact qaz
    simp only[gX]
   refine Lt.sp (i:=11) (λK hK=>?_);go_simp;refine(ph.o _).mono ?_;rintro e wS ⟨rfl,hbS⟩;replace xq:=Ab (xq.o.bl hbS);replace HG:=Ab (Af HG.o hbS);replace HFG:=Ab (HFG.o.trans (Dn.of_below hbS vf));have xe:(λw'=>w'.cell? ⟨h,2,N⟩=M (I n)/\w'.cell? ⟨h,9,N⟩=M (F false)/\w'.heap[AH]?=M (O #[S x,F false,S z] 115 (0,0))) wS:=⟨qcb,qcb,HG.o⟩;refine hK.out _ _ (λ_=>xe) (λ_=>?_);clear hK K hbS
   try simp only[gX]
   by_cases hq:sm=z
   ·have dq:=Fk hq
    change K 14 _
    iterate 2
     refine Lt.ti (v:=?_) xe ?_ ?_;rotate_left 1
     ·exact qaz
     simp only[gX]
    refine Lt.done qk ?_ _;go_wp2_with fail;go_roundw
    case rel=>exact⟨k+1,ms',s',v',qg,qm,(Y5.o qaj qez),HI,HK,(by have:=HC.o;show _<=_;omega:400200*Dp ts ms st+ms'.length<=ms.length+(k+1)+400200*Dp ts ms' st),ou,HFG,xq,HU⟩
    case measure=>simp[intOf];omega
   ·have dq:=Hi hq
    change K 14 _
    iterate 2
     refine Lt.ti (v:=?_) xe ?_ ?_;rotate_left 1
     ·exact qaz
     simp only[gX]
    refine Lt.done qk ?_ _;go_wp2_with fail;go_ret;exact⟨ms',s',.no,(HHNO.o qaj qez),Or.inl ⟨false,v',rfl,rfl,O2.o.trans HFG.o,xq.o,HU.o⟩⟩
  ·go_wp2_with fail
   clear d0 d1 d2;refine(HM.o ms' s' v' x w1 O6.o xq.o HU.o HI.o HK.o pn.o (by have:=HC.o;have:=HPH.o;rw[EM.o]at this;omega) ou.o).mono ?_;rintro e w2 ⟨ce,s2,a2,bv,⟨dd,v2,rfl,rfl,cm,dp,yk⟩|⟨bb,nb,rfl,rfl,cm,tg⟩⟩;rotate_left 1
   ·have jr:=Ab (HABD.o qaj _ _ _ bv)
    have fj:=Ab (HFG.o.trans cm);have wt:=Ab tg;have bg:=Nat.le_trans bm cm.bel.size;clear bv cm tg;go_wp2_with fail;refine(Xb _ w2 (Qy bb)).mono ?_;rintro e w3 ⟨rfl,au⟩;replace fj:=Ab (fj.o.trans (Dn.of_below au bg));replace wt:=Ab (wt.o.frx au);clear au;obtain⟨k9,_,_⟩:=wt.o.cells;go_wp2_with fail
    go_quiet (fail)
    go_wp2_with fail;go_ret;exact⟨_,_,_,jr.o,Or.inr ⟨bb,nb,rfl,rfl,O2.o.trans (fj.o.drewN _),wt.o.drewN _⟩⟩
   obtain⟨i1,i2,i3,i4⟩:=Az.inv HE.o.v bv HI.o HK.o pn.o (λb q=>qz);have xz:=Az.cost HE.o.v bv HI.o HK.o pn.o (λb q=>qz);have B4:=Ab (Az.cntM HE.o.v bv HI.o HK.o pn.o (λb q=>qz) rfl ou.o);have HMD:=Ab (i1.done _ _ i4);have J0:=Ab i1;have ft:=Ab i2;have jr:=Ab bv;(have HC2:Hd (400200*Dp ts ms st+ce.length<=ms.length+(k+1)+400200*Dp ts ce st):=by have:=HC.o;show _<=_;simp only[Pq]at xz;omega);have fj:=Ab (HFG.o.trans cm);have ct:=Ab dp;have Ge:=Ab yk;clear yk;have bg:=Nat.le_trans bm cm.bel.size;have J1:=Ab (cm.blk HG.o HNG.o);clear bv cm dp i1 i2 i3 i4 xz;obtain⟨dc,edc⟩:=Aj dd.c;obtain⟨dt,edt⟩:=Aj dd.t;rw[edc,edt];have HFO:Hd (∀V:E,Calls prog 114 #[G #[I dc,S dt,nS]] V λe w'=>e=H (S (Bp dc dt))/\Bw V w'):=λV=>Nf dc dt V (by rw[←edc];exact HMD.o.c0) (by rw[←edc];exact HMD.o.c5) qhs;have hfz:(Bp dc dt).size<=1048576:=zo (Dx (c:=dc) (t:=dt) qhs);have wb:Hd (Ap n (Bp dc dt)=z->∀l5 s3 a,Az ss ts n ce s2 st (.holds gs (k+1)) l5 s3 a->Az ss ts n ms s st (.holds gs 0) l5 s3 a):=λq=>Y8.o qaj _ _ _ jr.o (by rw[edc,edt];exact q);have HNOO:Hd (Ap n (Bp dc dt)≠z->Az ss ts n ms s st (.holds gs 0) ce s2 .no):=λq=>HANO.o qaj _ _ _ jr.o (by rw[edc,edt];exact q);clear edc edt;go_wp2_with fail;refine(HFO.o w2).mono ?_;rintro e w3 ⟨rfl,au⟩;replace fj:=Ab (fj.o.trans (Dn.of_below au bg));replace ct:=Ab (ct.o.bl au);replace J1:=Ab (Af J1.o au);have vf:=Nat.le_trans bg au.size;clear au;go_wp2_with fail;obtain⟨sm,esm⟩:=Aj (Ap n (Bp dc dt));(have ph:Hd (∀V:E,Calls prog 27 #[S (Bp dc dt),I n] V λe w'=>e=H (S sm)/\Bw V w'):=λV=>by rw[←esm];exact Ex _ n V hfz h1 h8);have ESM:=Ab esm;clear esm;refine Lt.begin 99 (λw'=>w'.cell? ⟨h,2,N⟩=M (I n)/\w'.cell? ⟨h,9,N⟩=M (F false)/\w'.heap[AH]?=M (O #[S x,F true,S z] 115 (0,0))) qk ?_;obtain⟨wD,eD⟩:=Aj w3.drew;rw[eD];have dr:Bw w3 wD:=qaf;clear eD;replace ct:=Ab (ct.o.bl dr);replace J1:=Ab (Af J1.o dr);replace fj:=Ab (fj.o.trans (Dn.of_below dr vf));have gz:(λw'=>w'.cell? ⟨h,2,N⟩=M (I n)/\w'.cell? ⟨h,9,N⟩=M (F false)/\w'.heap[AH]?=M (O #[S x,F true,S z] 115 (0,0))) wD:=⟨qbk,qbk,J1.o⟩;replace vf:=Nat.le_trans vf dr.size;change K 0 _
   iterate 11
    refine Lt.ti (v:=?_) gz ?_ ?_;rotate_left 1
    ·exact qaz
    simp only[gX]
   change K 12 _
   iterate 2
    refine Lt.ti (v:=?_) gz ?_ ?_;rotate_left 1
    ·exact qaz
    simp only[gX]
   refine Lt.sp (i:=11) (λK hK=>?_);go_simp;refine(ph.o _).mono ?_;rintro e wS ⟨rfl,hbS⟩;replace ct:=Ab (ct.o.bl hbS);replace J1:=Ab (Af J1.o hbS);replace fj:=Ab (fj.o.trans (Dn.of_below hbS vf));have xe:(λw'=>w'.cell? ⟨h,2,N⟩=M (I n)/\w'.cell? ⟨h,9,N⟩=M (F false)/\w'.heap[AH]?=M (O #[S x,F true,S z] 115 (0,0))) wS:=⟨qbk,qbk,J1.o⟩;refine hK.out _ _ (λ_=>xe) (λ_=>?_);clear hK K hbS
   try simp only[gX]
   by_cases hq:sm=z
   ·have dq:=Fk hq
    change K 14 _
    iterate 2
     refine Lt.ti (v:=?_) xe ?_ ?_;rotate_left 1
     ·exact qaz
     simp only[gX]
    refine Lt.done qk ?_ _;go_wp2_with fail;go_roundw
    case rel=>exact⟨k+1,ce,s2,v2,qg,qm,(wb.o qez),J0,ft,HC2,B4,fj,ct,Ge⟩
    case measure=>simp[intOf];omega
   ·have dq:=Hi hq
    change K 14 _
    iterate 2
     refine Lt.ti (v:=?_) xe ?_ ?_;rotate_left 1
     ·exact qaz
     simp only[gX]
    refine Lt.done qk ?_ _;go_wp2_with fail;go_ret;exact⟨ce,s2,.no,(HNOO.o qez),Or.inl ⟨false,v2,rfl,rfl,O2.o.trans fj.o,ct.o,Ge.o⟩⟩
theorem Mi{b:X}{v0 v1 v2 v3 v4 v5 v6 v7 v8 v9:Z}{T:TypeId}(h:w.heap[b]?=M (O #[v0,v1,v2,v3,v4,v5,v6,v7,v8,v9] T (0,0))):w.cell? ⟨b,0,N⟩=M v0/\w.cell? ⟨b,1,N⟩=M v1/\w.cell? ⟨b,2,N⟩=M v2/\w.cell? ⟨b,3,N⟩=M v3/\w.cell? ⟨b,4,N⟩=M v4/\w.cell? ⟨b,5,N⟩=M v5/\w.cell? ⟨b,6,N⟩=M v6/\w.cell? ⟨b,7,N⟩=M v7/\w.cell? ⟨b,8,N⟩=M v8/\w.cell? ⟨b,9,N⟩=M v9:=by
 exact qni
structure BD where
 c:Int
 t:By
 ch:L By
 n:Int
 T:L By
 R:L T3
 ran:L By
 held:L By
 A:By
 B:By
structure BD.Sm (d:BD):Prop where
 ch:d.ch.length≤1048576
 T:d.T.length≤1048576
 R:Ec d.R
 ran:d.ran.length≤1048576
 held:d.held.length≤1048576
structure BO (w:E) (lo:X) (d:BD) (v cv tx qv nv ev:Z) (zs:L Z) (kv lv:X→Z):Prop where
 eq:v=G #[I d.c,S d.t,cv,I d.n,tx,qv,nv,ev,S d.A,S d.B]
 ch:w.ownsRow lo 9 1 cv d.ch.length (Ar d.ch)
 txs:w.ownsRow lo 9 1 tx d.T.length (Ar d.T)
 rq:Dv w lo qv d.R zs kv lv
 ran:w.ownsRow lo 9 1 nv d.ran.length (Ar d.ran)
 held:w.ownsRow lo 9 1 ev d.held.length (Ar d.held)
 ap:Ju [cv,tx,nv,ev]
theorem Rj{ch:L By}(h:w.ownsRow lo 9 1 v ch.length (Ar ch)):∃a cap,v=J a ch.length cap∧Cu w a ch:=Ds.sl (Bu.new h)
theorem Dv.rowQ{kv lv:X→Z}(h:Dv w lo v R zs kv lv):∃a cap,v=J a R.length cap∧Mk w a R:=by
 obtain⟨a,cap,e⟩:=Al h.row;subst e;refine⟨a,cap,rfl,λi hi=>?_⟩;obtain⟨f1,f2,f3⟩:=h.fil i hi;obtain⟨ys,k1,k2⟩:=h.code i hi;obtain⟨us,l1,l2⟩:=h.look i hi;obtain⟨ca,cc,e1,r1⟩:=Qh k1 k2;obtain⟨la,lc,e2,r2⟩:=Gl l1 l2;rw[e1]at f1;rw[e2]at f2;obtain⟨b,rfl,c1⟩:=Cv h.row f1;obtain⟨b',q,c2⟩:=Cv h.row f2;cases q;obtain⟨b',q,c3⟩:=Cv h.row f3;cases q;exact⟨b,0,rfl,ca,cc,la,lc,by rw[Nat.zero_add];exact c1,by rw[Nat.zero_add];exact c2,by rw[Nat.zero_add];exact c3,r1,r2⟩
theorem Tryz.cells99:prog.cellsOf 99=1:=qk
theorem Tryz.cells97:prog.cellsOf 97=1:=qk
theorem Tryz.cells211:prog.cellsOf 211=3:=qk
theorem Tryz.cells3:prog.cellsOf 3=1:=qk
theorem Tryz.cells9:prog.cellsOf 9=1:=qk
theorem Tryz.cells242:prog.cellsOf 242=3:=qk
variable {AI:Type} {enc:TypeId×Z->AI} {W:E} {base:X} {spare:X->Bool} {held:Bool}
theorem open_ins{x:DataW AI×L MemPlace}(h:DataW.trod enc prog W base spare held fuel 211 cs=M x):∃i:I3,cs=[I i.op,.string i.text,I i.n]/\i.text.size<=maxLen:=by
 obtain⟨y0,y1,y2,n,_,hl,h0,h1,h2⟩:=trod_struct3 underlying211 h;rw[Tryz.cells211]at hl;simp only[Tryz.cells3,Tryz.cells9]at h0 h1 h2
 match cs,hl with
 | [c0,c1,c2],_=>
   obtain⟨op,e0,_,_⟩:=DataW.trod_int underlying3 h0;obtain⟨t,e1,_,ht⟩:=DataW.trod_string underlying9 h1;obtain⟨m,e2,_,_⟩:=DataW.trod_int underlying3 h2;simp at e0 e1 e2;subst e0;subst e1;subst e2;exact⟨⟨op,t,m⟩,rfl,ht⟩
theorem Yn{c:Z}{x:DataW AI×L MemPlace}(h:DataW.trod enc prog W base spare held fuel 97 [c]=M x):∃(a:Option Addr)(cap:X)(is:L I3),c=.slice a is.length cap/\Cn W a is/\is.length<=maxLen/\∀i,(ix is i).text.size<=maxLen:=by
 rcases open_slice underlying97 h with⟨jd,_⟩|⟨a,len,cap,m,n,AJ,Pl,jd,_,hl,hm,hmm,_,hx⟩
 ·simp at jd
  subst jd;exact⟨N,0,[],rfl,λi hi=>Wl,qi,λi=>by simp[ix,i0]⟩
 ·simp at jd
  subst jd;rw[Tryz.cells211]at hx;have hlm:len<=m:=qcw
  have If:∀i,i<len->∃t:I3,W.cell? ((a.add (i*3)).add 0)=M (I t.op)/\W.cell? ((a.add (i*3)).add 1)=M (.string t.text)/\W.cell? ((a.add (i*3)).add 2)=M (I t.n)/\t.text.size<=maxLen:=by
   intro i hi;obtain⟨cs',hc,ht⟩:=hx i qg;obtain⟨t,rfl,U0⟩:=open_ins ht;exact qkv
  let f:X->I3:=λi=>if h:i<len then Classical.choose (If i h) else i0
  have hf:∀i,(h:i<len)->W.cell? ((a.add (i*3)).add 0)=M (I (f i).op)/\W.cell? ((a.add (i*3)).add 1)=M (.string (f i).text)/\W.cell? ((a.add (i*3)).add 2)=M (I (f i).n)/\(f i).text.size<=maxLen:=by
   exact qck
  have E7:∀i,i<len->ix ((List.range len).map f) i=f i:=by
   intro i h;simp[ix,gG,h]
  refine⟨M a,cap,(List.range len).map f,qi,?_,qj,?_⟩
  ·exact qjg
  ·intro i
   by_cases h:i<len
   ·rw[E7 i h];exact(hf i h).2.2.2
   ·simp[ix,gG,h,i0]
/-- The table's Ol, as the list has them. -/
theorem row_of(o:X)(ho:o<16):∃AL:L (DataW Unit),(Rows.laid_loop_example_kilntrace_impl_opKinds:DataW Unit)=.agg AL/\AL.length=16/\AL[o]?=M (.agg [.lit (.string (words.getD o [])),.lit (.int .i64 (Er o)),.lit (.int .i64 (Lv.getD o 0))]):=by
 refine⟨_,rfl,rfl,?_⟩;exact qfg
theorem tab_of_laid(h:laidMetH Tryz.prog [("loop.example/kilntrace/impl.opKinds",Rows.laid_loop_example_kilntrace_impl_opKinds)] W):Mv W:=by
 rw[MakeChecks.laidMetH_plain _ _ _ qk]at h;obtain⟨ps,⟨g,t,cs,fuel,p,q,hg,ht,hv,hd,_,_⟩,_,_⟩:=h;obtain rfl:=Option.some.inj ((show Tryz.prog.globalNamed "loop.example/kilntrace/impl.opKinds"=M 0 from qk).symm.trans hg);obtain rfl:=Option.some.inj ((show(Tryz.prog.globals[0]?).map (·.type)=M 243 from qk).symm.trans ht);obtain⟨xs,m,_,ex,dm,hl,hel⟩:=DataW.trod_array Tryz.underlying243 hd;intro o ho;obtain⟨AL,hL,hLl,hLo⟩:=row_of o ho
 have e1:AL=xs.map (·.1):=by
  have:=(Prod.mk.inj ex).1;rw[hL]at this;exact DataW.agg.inj this
 have hxo:o<xs.length:=qg;have k:=hel o ho;rw[Tryz.cells242,Hq hxo]at k
 have e2:xs[o].1=.agg [.lit (.string (words.getD o [])),.lit (.int .i64 (Er o)),.lit (.int .i64 (Lv.getD o 0))]:=by
  rw[e1,List.getElem?_map,Hq hxo]at hLo;simpa using hLo
 obtain⟨y0,y1,y2,n,he,hl3,h0,h1,h2⟩:=trod_struct3 Tryz.underlying242 k;rw[Tryz.cells242]at hl3;simp only[Tryz.cells3,Tryz.cells9]at h0 h1 h2
 have e3:[y0.1,y1.1,y2.1]=[.lit (.string (words.getD o [])),.lit (.int .i64 (Er o)),.lit (.int .i64 (Lv.getD o 0))]:=by
  (have:xs[o].1=.agg [y0.1,y1.1,y2.1]:=by rw[he]);rw[e2]at this;exact(DataW.agg.inj this).symm
 simp only[List.cons.injEq,and_true]at e3;obtain⟨a0,a1,a2⟩:=e3;obtain⟨s,c0,d0,_⟩:=DataW.trod_string Tryz.underlying9 h0;obtain⟨z1,c1,d1,_⟩:=DataW.trod_int Tryz.underlying3 h1;obtain⟨z2,c2,d2,_⟩:=DataW.trod_int Tryz.underlying3 h2;have ji:=λj=>World.var?_cell (show Tryz.prog.globalNamed "loop.example/kilntrace/impl.opKinds"=M 0 from qk) hv j;rw[d0]at a0;rw[d1]at a1;rw[d2]at a2;simp only[DataW.lit.injEq,Lit.string.injEq,Lit.int.injEq,true_and]at a0 a1 a2;have hs:s=wordB o:=bytes_inj (by rw[a0];simp[wordB])
 have f:∀j,j<3->cs[o*3+j]?=(((cs.toList.drop (o*3)).take 3))[j]?:=by
  intro j hj;rw[List.getElem?_take,if_pos hj,List.getElem?_drop,Array.getElem?_toList]
 have g0:cs[o*3+0]?=M (.string s):=by
  rw[f 0 qg];have:=congrArg (λl=>l[0]?) c0;exact qgh
 have g1:cs[o*3+1]?=M (.int .i64 z1):=by
  rw[f 1 qg];have:=congrArg (λl=>l[0]?) c1;exact qgh
 have g2:cs[o*3+2]?=M (.int .i64 z2):=by
  rw[f 2 qg];have:=congrArg (λl=>l[0]?) c2;exact qgh
 exact⟨by rw[ji];simpa [hs] using g0,by rw[ji,g1,a1],by rw[ji,g2,a2]⟩
theorem Tryz.cells29:prog.cellsOf 29=2:=qk
theorem Tryz.cells26:prog.cellsOf 26=1:=qk
theorem Tryz.cells27:prog.cellsOf 27=1:=qk
theorem Tryz.cells105:prog.cellsOf 105=2:=qk
theorem Tryz.cells108:prog.cellsOf 108=2:=qk
theorem open_source{x:DataW AI×L MemPlace}(h:DataW.trod enc prog W base spare held fuel 105 cs=M x):∃i:S2,cs=[.string i.name,.string i.text]/\i.name.size<=maxLen/\i.text.size<=maxLen:=by
 obtain⟨y0,y1,n,_,hl,h0,h1⟩:=trod_struct2 underlying105 h;rw[Tryz.cells105]at hl;simp only[Tryz.cells9]at h0 h1
 match cs,hl with
 | [c0,c1],_=>
   obtain⟨s,e0,_,hs⟩:=DataW.trod_string underlying9 h0;obtain⟨t,e1,_,ht⟩:=DataW.trod_string underlying9 h1;simp at e0 e1;subst e0;subst e1;exact⟨⟨s,t⟩,rfl,hs,ht⟩
theorem open_target{x:DataW AI×L MemPlace}(h:DataW.trod enc prog W base spare held fuel 108 cs=M x):∃(i:T2)(a:Option Addr)(cap:X),cs=[.string i.name,.slice a i.code.length cap]/\Cn W a i.code/\i.name.size<=maxLen/\i.code.length<=maxLen/\∀j,(ix i.code j).text.size<=maxLen:=by
 obtain⟨y0,y1,n,_,hl,h0,h1⟩:=trod_struct2 underlying108 h;rw[Tryz.cells108]at hl;simp only[Tryz.cells9,Tryz.cells99]at h0 h1
 match cs,hl with
 | [c0,c1],_=>
   obtain⟨s,e0,_,hs⟩:=DataW.trod_string underlying9 h0;simp at e0;subst e0;obtain⟨z0,m,_,_,h2⟩:=trod_struct1 underlying99 h1;simp only[Tryz.cells97]at h2;obtain⟨a,cap,is,e1,r1,r2,r3⟩:=Yn (c:=c1) (by simpa using h2);subst e1;exact⟨⟨s,is⟩,a,cap,rfl,r1,hs,r2,r3⟩
theorem open_sources{c:Z}{x:DataW AI×L MemPlace}(h:DataW.trod enc prog W base spare held fuel 26 [c]=M x):∃(a:Option Addr)(cap:X)(is:L S2),c=.slice a is.length cap/\Kn W a is/\is.length<=maxLen/\(∀i,(sx is i).name.size<=maxLen)/\∀i,(sx is i).text.size<=maxLen:=by
 rcases open_slice underlying26 h with⟨jd,_⟩|⟨a,len,cap,m,n,AJ,Pl,jd,_,hl,hm,hmm,_,hx⟩
 ·simp at jd
  subst jd;exact⟨N,0,[],rfl,λi hi=>Wl,qi,λi=>by simp[sx],λi=>by simp[sx]⟩
 ·simp at jd
  subst jd;rw[Tryz.cells105]at hx;have hlm:len<=m:=qcw
  have If:∀i,i<len->∃t:S2,W.cell? ((a.add (i*2)).add 0)=M (.string t.name)/\W.cell? ((a.add (i*2)).add 1)=M (.string t.text)/\t.name.size<=maxLen/\t.text.size<=maxLen:=by
   intro i hi;obtain⟨cs',hc,ht⟩:=hx i qg;obtain⟨t,rfl,U0⟩:=open_source ht;have hs:=World.cells?_some hc;exact⟨t,by simpa using hs.2.2 0 qg,by simpa using hs.2.2 1 qg,U0⟩
  let f:X->S2:=λi=>if h:i<len then Classical.choose (If i h) else ⟨ByteArray.empty,ByteArray.empty⟩
  have hf:∀i,(h:i<len)->W.cell? ((a.add (i*2)).add 0)=M (.string (f i).name)/\W.cell? ((a.add (i*2)).add 1)=M (.string (f i).text)/\(f i).name.size<=maxLen/\(f i).text.size<=maxLen:=by
   exact qck
  have E7:∀i,i<len->sx ((List.range len).map f) i=f i:=by
   intro i h;simp[sx,gG,h]
  refine⟨M a,cap,(List.range len).map f,qi,?_,qj,?_,?_⟩
  ·intro i hi
   (have hi':i<len:=by simpa using hi);obtain⟨h1,h2,_⟩:=hf i hi';rw[E7 i hi'];obtain⟨b,off,spot⟩:=a
   have po:spot=N:=by
    have:=World.cell?_spot (hf 0 qg).1;simpa [Addr.add] using this
   subst po;simp only[Addr.add_lit]at h1 h2;exact⟨b,off,rfl,h1,h2⟩
  ·intro i
   by_cases h:i<len
   ·rw[E7 i h];exact(hf i h).2.2.1
   ·simp[sx,gG,h]
  ·intro i
   by_cases h:i<len
   ·rw[E7 i h];exact(hf i h).2.2.2
   ·simp[sx,gG,h]
theorem open_targets{c:Z}{x:DataW AI×L MemPlace}(h:DataW.trod enc prog W base spare held fuel 27 [c]=M x):∃(a:Option Addr)(cap:X)(is:L T2),c=.slice a is.length cap/\Km W a is/\is.length<=maxLen/\(∀i,(tx is i).name.size<=maxLen)/\(∀i,(tx is i).code.length<=maxLen)/\∀i j,(ix (tx is i).code j).text.size<=maxLen:=by
 rcases open_slice underlying27 h with⟨jd,_⟩|⟨a,len,cap,m,n,AJ,Pl,jd,_,hl,hm,hmm,_,hx⟩
 ·simp at jd
  subst jd;exact⟨N,0,[],rfl,λi hi=>Wl,qi,λi=>by simp[tx],λi=>by simp[tx],λi j=>by simp[tx,ix,i0]⟩
 ·simp at jd
  subst jd;rw[Tryz.cells108]at hx;have hlm:len<=m:=qcw
  have If:∀i,i<len->∃t:T2,W.cell? ((a.add (i*2)).add 0)=M (.string t.name)/\(∃a' aj,W.cell? ((a.add (i*2)).add 1)=M (.slice a' t.code.length aj)/\Cn W a' t.code)/\t.name.size<=maxLen/\t.code.length<=maxLen/\∀j,(ix t.code j).text.size<=maxLen:=by
   intro i hi;obtain⟨cs',hc,ht⟩:=hx i qg;obtain⟨t,a',aj,rfl,hr,U0⟩:=open_target ht;have hs:=World.cells?_some hc;exact⟨t,by simpa using hs.2.2 0 qg,⟨a',aj,by simpa using hs.2.2 1 qg,hr⟩,U0⟩
  let f:X->T2:=λi=>if h:i<len then Classical.choose (If i h) else ⟨ByteArray.empty,[]⟩
  have hf:∀i,(h:i<len)->W.cell? ((a.add (i*2)).add 0)=M (.string (f i).name)/\(∃a' aj,W.cell? ((a.add (i*2)).add 1)=M (.slice a' (f i).code.length aj)/\Cn W a' (f i).code)/\(f i).name.size<=maxLen/\(f i).code.length<=maxLen/\∀j,(ix (f i).code j).text.size<=maxLen:=by
   exact qck
  have E7:∀i,i<len->tx ((List.range len).map f) i=f i:=by
   intro i h;simp[tx,gG,h]
  refine⟨M a,cap,(List.range len).map f,qi,?_,qj,?_,?_,?_⟩
  ·intro i hi
   (have hi':i<len:=by simpa using hi);obtain⟨h1,⟨a',aj,h2,h3⟩,_⟩:=hf i hi';rw[E7 i hi'];obtain⟨b,off,spot⟩:=a
   have po:spot=N:=by
    have:=World.cell?_spot (hf 0 qg).1;simpa [Addr.add] using this
   subst po;simp only[Addr.add_lit]at h1 h2;exact⟨b,off,rfl,h1,a',aj,h2,h3⟩
  ·intro i
   by_cases h:i<len
   ·rw[E7 i h];exact(hf i h).2.2.1
   ·simp[tx,gG,h]
  ·intro i
   by_cases h:i<len
   ·rw[E7 i h];exact(hf i h).2.2.2.1
   ·simp[tx,gG,h]
  ·intro i j
   by_cases h:i<len
   ·rw[E7 i h];exact(hf i h).2.2.2.2 j
   ·simp[tx,gG,h,ix,i0]
theorem open_space{d:DataW AI}{p:L MemPlace}(hv:Value.okWide prog W r b0 29 v)(h:DataW.Trod enc prog W base spare held 29 v d p):∃(sa:Option Addr)(c1:X)(ss:L S2)(ta:Option Addr)(c2:X)(ts:L T2),v=.agg #[.slice sa ss.length c1,.slice ta ts.length c2]/\Li W sa ss ta ts:=by
 obtain⟨cs,rfl,de⟩:=okWide_struct underlying29 hv;rw[Tryz.cells29]at de;obtain⟨fuel,hf⟩:=h;obtain⟨y0,y1,n,_,_,h0,h1⟩:=trod_struct2 underlying29 hf;simp only[Tryz.cells26,Tryz.cells27]at h0 h1;obtain⟨l⟩:=cs
 match l,de with
 | [k0,k1],_=>
   simp only[Value.cells]at h0 h1;obtain⟨sa,c1,ss,e0,a1,a2,a3,a4⟩:=open_sources (c:=k0) (by simpa using h0);obtain⟨ta,c2,ts,e1,b1,b2,b3,b4,b5⟩:=open_targets (c:=k1) (by simpa using h1);subst e0;subst e1;exact⟨sa,c1,ss,ta,c2,ts,rfl,⟨a1,b1,a2,b2,a3,a4,b3,b4,b5⟩⟩
theorem Tryz.cells102:prog.cellsOf 102=3:=qk
theorem Tryz.cells177:prog.cellsOf 177=3:=qk
theorem Tryz.cells100:prog.cellsOf 100=1:=qk
theorem Tryz.cells4:prog.cellsOf 4=1:=qk
theorem Tryz.cells25:prog.cellsOf 25=3:=qk
theorem Tryz.cells22:prog.cellsOf 22=1:=qk
theorem Tryz.cells23:prog.cellsOf 23=1:=qk
theorem open_glance{x:DataW AI×L MemPlace}(h:DataW.trod enc prog W base spare held fuel 177 cs=M x):∃i:G3,cs=[.string i.name,.bool i.ask,.string i.sum]/\i.name.size<=maxLen/\i.sum.size<=maxLen:=by
 obtain⟨y0,y1,y2,n,_,hl,h0,h1,h2⟩:=trod_struct3 underlying177 h;rw[Tryz.cells177]at hl;simp only[Tryz.cells9,Tryz.cells4]at h0 h1 h2
 match cs,hl with
 | [c0,c1,c2],_=>
   obtain⟨s,e0,_,hs⟩:=DataW.trod_string underlying9 h0;obtain⟨b,e1,_⟩:=DataW.trod_bool underlying4 h1;obtain⟨t,e2,_,ht⟩:=DataW.trod_string underlying9 h2;simp at e0 e1 e2;subst e0;subst e1;subst e2;exact⟨⟨s,b,t⟩,rfl,hs,ht⟩
theorem open_glances{c:Z}{x:DataW AI×L MemPlace}(h:DataW.trod enc prog W base spare held fuel 100 [c]=M x):∃(a:Option Addr)(cap:X)(is:L G3),c=.slice a is.length cap/\Gf W a is/\is.length<=maxLen/\(∀i,(gx is i).name.size<=maxLen)/\∀i,(gx is i).sum.size<=maxLen:=by
 rcases open_slice underlying100 h with⟨jd,_⟩|⟨a,len,cap,m,n,AJ,Pl,jd,_,hl,hm,hmm,_,hx⟩
 ·simp at jd
  subst jd;exact⟨N,0,[],rfl,λi hi=>Wl,qi,λi=>by simp[gx,g00],λi=>by simp[gx,g00]⟩
 ·simp at jd
  subst jd;rw[Tryz.cells177]at hx;have hlm:len<=m:=qcw
  have If:∀i,i<len->∃t:G3,W.cell? ((a.add (i*3)).add 0)=M (.string t.name)/\W.cell? ((a.add (i*3)).add 1)=M (.bool t.ask)/\W.cell? ((a.add (i*3)).add 2)=M (.string t.sum)/\t.name.size<=maxLen/\t.sum.size<=maxLen:=by
   intro i hi;obtain⟨cs',hc,ht⟩:=hx i qg;obtain⟨t,rfl,U0⟩:=open_glance ht;exact qkv
  let f:X->G3:=λi=>if h:i<len then Classical.choose (If i h) else g00
  have hf:∀i,(h:i<len)->W.cell? ((a.add (i*3)).add 0)=M (.string (f i).name)/\W.cell? ((a.add (i*3)).add 1)=M (.bool (f i).ask)/\W.cell? ((a.add (i*3)).add 2)=M (.string (f i).sum)/\(f i).name.size<=maxLen/\(f i).sum.size<=maxLen:=by
   exact qck
  have E7:∀i,i<len->gx ((List.range len).map f) i=f i:=by
   intro i h;simp[gx,gG,h]
  refine⟨M a,cap,(List.range len).map f,qi,?_,qj,?_,?_⟩
  ·exact qjg
  ·intro i
   by_cases h:i<len
   ·rw[E7 i h];exact(hf i h).2.2.2.1
   ·simp[gx,gG,h,g00]
  ·intro i
   by_cases h:i<len
   ·rw[E7 i h];exact(hf i h).2.2.2.2
   ·simp[gx,gG,h,g00]
theorem open_rec{x:DataW AI×L MemPlace}(h:DataW.trod enc prog W base spare held fuel 102 cs=M x):∃(i:T3)(a la:Option Addr)(cap lc:X),cs=[.slice a i.code.length cap,.slice la i.looks.length lc,.string i.out]/\Zf W a i.code la i.looks i.out:=by
 obtain⟨y0,y1,y2,n,_,hl,h0,h1,h2⟩:=trod_struct3 underlying102 h;rw[Tryz.cells102]at hl;simp only[Tryz.cells99,Tryz.cells100,Tryz.cells9]at h0 h1 h2
 match cs,hl with
 | [c0,c1,c2],_=>
   (have h0':DataW.trod enc prog W base spare held n 99 [c0]=M y0:=by simpa using h0);(have h1':DataW.trod enc prog W base spare held n 100 [c1]=M y1:=by simpa using h1);(have h2':DataW.trod enc prog W base spare held n 9 [c2]=M y2:=by simpa using h2);obtain⟨z0,m,_,_,h3⟩:=trod_struct1 underlying99 h0';simp only[Tryz.cells97]at h3;obtain⟨a,cap,is,rfl,r1,r2,r3⟩:=Yn (c:=c0) (by simpa using h3);obtain⟨la,lc,gs,rfl,g1,g2,g3,g4⟩:=open_glances h1';obtain⟨t,e2,_,ht⟩:=DataW.trod_string underlying9 h2';simp at e2;subst e2;exact⟨⟨is,gs,t⟩,a,la,cap,lc,rfl,r1,g1,r2,g2,r3,g3,g4,ht⟩
theorem open_recs{c:Z}{x:DataW AI×L MemPlace}(h:DataW.trod enc prog W base spare held fuel 23 [c]=M x):∃(a:Option Addr)(cap:X)(is:L T3),c=.slice a is.length cap/\Mk W a is/\QsOk is:=by
 rcases open_slice underlying23 h with⟨jd,_⟩|⟨a,len,cap,m,n,AJ,Pl,jd,_,hl,hm,hmm,_,hx⟩
 ·simp at jd
  subst jd;exact⟨N,0,[],rfl,λi hi=>Wl,⟨qi,λi=>by simp[qx,q00],λi=>by simp[qx,q00],λi j=>by simp[qx,q00,ix,i0],λi j=>by simp[qx,q00,gx,g00],λi j=>by simp[qx,q00,gx,g00],λi=>by simp[qx,q00]⟩⟩
 ·simp at jd
  subst jd;rw[Tryz.cells102]at hx;have hlm:len<=m:=qcw
  have If:∀i,i<len->∃t:T3,∃ca cc la lc,W.cell? ((a.add (i*3)).add 0)=M (.slice ca t.code.length cc)/\W.cell? ((a.add (i*3)).add 1)=M (.slice la t.looks.length lc)/\W.cell? ((a.add (i*3)).add 2)=M (.string t.out)/\Zf W ca t.code la t.looks t.out:=by
   intro i hi;obtain⟨cs',hc,ht⟩:=hx i qg;obtain⟨t,ca,la,cc,lc,rfl,U0⟩:=open_rec ht;have hs:=World.cells?_some hc;exact⟨t,ca,cc,la,lc,by simpa using hs.2.2 0 qg,by simpa using hs.2.2 1 qg,by simpa using hs.2.2 2 qg,U0⟩
  let f:X->T3:=λi=>if h:i<len then Classical.choose (If i h) else q00
  have hf:∀i,(h:i<len)->∃ca cc la lc,W.cell? ((a.add (i*3)).add 0)=M (.slice ca (f i).code.length cc)/\W.cell? ((a.add (i*3)).add 1)=M (.slice la (f i).looks.length lc)/\W.cell? ((a.add (i*3)).add 2)=M (.string (f i).out)/\Zf W ca (f i).code la (f i).looks (f i).out:=by
   exact qck
  have E7:∀i,i<len->qx ((List.range len).map f) i=f i:=by
   intro i h;simp[qx,gG,h]
  have ip:∀i,¬ i<len->qx ((List.range len).map f) i=q00:=by
   intro i h;simp[qx,gG,h]
  have ik:∀(P:T3->Prop),P q00->(∀t ca la,Zf W ca t.code la t.looks t.out->P t)->∀i,P (qx ((List.range len).map f) i):=by
   intro P h0 h1 i
   by_cases h:i<len
   ·obtain⟨ca,cc,la,lc,_,_,_,hr⟩:=hf i h
    rw[E7 i h];exact h1 _ ca la hr
   ·rw[ip i h];exact h0
  refine⟨M a,cap,(List.range len).map f,qi,?_,⟨qj,ik (λt=>t.code.length<=maxLen) (by simp[q00]) (λt _ _ h=>h.lc),ik (λt=>t.looks.length<=maxLen) (by simp[q00]) (λt _ _ h=>h.lg),ik (λt=>∀j,(ix t.code j).text.size<=maxLen) (by intro j;simp[q00,ix,i0]) (λt _ _ h=>h.xc),ik (λt=>∀j,(gx t.looks j).name.size<=maxLen) (by intro j;simp[q00,gx,g00]) (λt _ _ h=>h.ng),ik (λt=>∀j,(gx t.looks j).sum.size<=maxLen) (by intro j;simp[q00,gx,g00]) (λt _ _ h=>h.sg),ik (λt=>t.out.size<=maxLen) (by simp[q00]) (λt _ _ h=>h.so)⟩⟩;intro i hi;(have hi':i<len:=by simpa using hi);obtain⟨ca,cc,la,lc,h1,h2,h3,hr⟩:=hf i hi';rw[E7 i hi'];obtain⟨b,off,spot⟩:=a
  have po:spot=N:=by
   obtain⟨_,_,_,_,h1,_⟩:=hf 0 qg;have:=World.cell?_spot h1;simpa [Addr.add] using this
  subst po;simp only[Addr.add_lit]at h1 h2 h3;exact⟨b,off,rfl,ca,cc,la,lc,h1,h2,h3,hr.rc,hr.rg⟩
theorem Vj{c:Z}{x:DataW AI×L MemPlace}(h:DataW.trod enc prog W base spare held fuel 22 [c]=M x):∃(a:Option Addr)(cap:X)(ts:L By),c=.slice a ts.length cap/\Cu W a ts/\ts.length<=maxLen/\∀s∈ts,s.size<=maxLen:=by
 rcases open_strings underlying22 underlying9 Tryz.cells9 h with⟨jd,_⟩|⟨x,l,c,zs,jd,_,hl,hm,hz,_,ji,hws⟩
 ·simp at jd
  subst jd;exact⟨N,0,[],rfl,λi h=>by simp at h,qi,qi⟩
 ·simp at jd
  subst jd;(have hlz:l<=zs.length:=by rw[hz];split<;>omega);refine⟨M x,c,zs.take l,qj,?_,qj,λs hs=>hws s (List.mem_of_mem_take hs)⟩;intro i hi;(have hi':i<l/\i<zs.length:=by simp only[List.length_take]at hi;omega);have hc:=ji i qg;obtain⟨b,off,spot⟩:=x;(have po:spot=N:=by simpa [Addr.add] using World.cell?_spot (ji 0 qg));subst po;refine⟨b,off,rfl,?_⟩;simp only[gG,List.getElem?_take,if_pos hi'.1];rw[Addr.add_lit]at hc;simpa [gG] using hc
theorem open_store{d:DataW AI}{p:L MemPlace}(hv:Value.okWide prog W r b0 25 v)(h:DataW.Trod enc prog W base spare held 25 v d p):∃(n:Int)(ta ra:Option Addr)(tc rc:X)(ts:L By)(rs:L T3),v=.agg #[I n,.slice ta ts.length tc,.slice ra rs.length rc]/\SoOk W ta ts ra rs:=by
 obtain⟨cs,rfl,de⟩:=okWide_struct underlying25 hv;rw[Tryz.cells25]at de;obtain⟨fuel,hf⟩:=h;obtain⟨y0,y1,y2,n,_,_,h0,h1,h2⟩:=trod_struct3 underlying25 hf;obtain⟨l⟩:=cs
 match l,de with
 | [c0,c1,c2],_=>
   simp only[Tryz.cells3,Tryz.cells22,Tryz.cells23]at h0 h1 h2;(have h0':DataW.trod enc prog W base spare held n 3 [c0]=M y0:=by simpa [Value.cells] using h0);(have h1':DataW.trod enc prog W base spare held n 22 [c1]=M y1:=by simpa [Value.cells] using h1);(have h2':DataW.trod enc prog W base spare held n 23 [c2]=M y2:=by simpa [Value.cells] using h2);obtain⟨m,e0,_,_⟩:=DataW.trod_int underlying3 h0';simp at e0;subst e0;obtain⟨ta,tc,ts,rfl,t1,t2,t3⟩:=Vj h1';obtain⟨ra,rc,rs,rfl,r1,r2⟩:=open_recs h2';exact⟨m,ta,ra,tc,rc,ts,rs,rfl,t1,t2,t3,r1,r2⟩
end Go.Proofs.YtnflkpmmfpfhlaaGreatDoor
