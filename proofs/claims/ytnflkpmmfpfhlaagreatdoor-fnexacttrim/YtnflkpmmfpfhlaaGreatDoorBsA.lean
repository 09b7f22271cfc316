import Derived.Test.YtnflkpmmfpfhlaaGreatDoorBtG
import Derived.Test.YtnflkpmmfpfhlaaGreatDoorVsP
namespace Go.Proofs.YtnflkpmmfpfhlaaGreatDoor
open Value renaming slice->J,string->S,bool->F,agg->G,tuple->Y
open Option renaming some->M,none->N
open Obj renaming cells->O
open Go renaming Value->Z,World->E
open Ending renaming returned->H
open _root_ renaming List->L,Nat->X
set_option maxHeartbeats 8000000
set_option maxRecDepth 100000
open _root_.Go.Proofs.Tryz Go.RowKit Go.Deep
set_option linter.unusedVariables false
set_option linter.unusedSimpArgs false
variable {n P e sz j cap h:X} {AL ts T1:L By} {y:By} {w W w':E} {v nv u sv tv:Z} {AM X':X->Prop} {us:L X}
section
variable {s:By→ByteArray}
theorem Vp:∀(a b:L UInt8),Op.bytesLess a b=false→a≠b→Op.bytesLess b a=true
 | [],[]=>qi
 | [],_::_=>by simp[Op.bytesLess]
 | _::_,[]=>by simp[Op.bytesLess]
 | a::ar,b::bs=>by
   have ih:=Vp ar bs
   by_cases h1:a<b
   ·simp[Op.bytesLess,h1]
   ·by_cases h2:b<a
    ·intro _ _
     simp[Op.bytesLess,h2]
    ·have he:=UInt8.le_antisymm (UInt8.not_lt.mp h2) (UInt8.not_lt.mp h1)
     subst he;intro k1 k2;simp only[Op.bytesLess,h1]at k1 ⊢;simp at k1 k2 ⊢
     first
      | exact ih k1 k2
      | exact Or.inr (ih k1 k2)
theorem lessB_total{a b:By}(h:Ax a b=false)(hne:a≠b):Ax b a=true:=by
 unfold Ax at *;refine Vp _ _ h (λe=>hne ?_);rw[ByteArray.toList_eq,ByteArray.toList_eq]at e;exact WideShapes.bytes_inj e
def Lt1(s:By→ByteArray)(x y:By):Prop:=Ax (s x) (s y)=true
theorem Lt1.tot{x y:By}(h:Ax (s x) (s y)=false)(hne:s x≠s y):Lt1 s y x:=lessB_total h hne
def So(s:By→ByteArray)(l:L By):Prop:=l.Pairwise (Lt1 s)
theorem So.of_asc{l:L By}(h:Hf (l.map s)):So s l:=by
 refine List.pairwise_iff_getElem.2 λi j hi hj n9=>?_;have:=h.pair n9 qci;unfold nx at this;rw[gG,List.getElem?_map,Hq hi,gG,List.getElem?_map,Hq hj]at this;exact this
theorem So.asc{l:L By}(h:So s l):Hf (l.map s):=by
 intro i h1 h2;rw[List.length_map]at h2;have:=List.pairwise_iff_getElem.1 h (i-1) i qg h2 qg;unfold nx;rw[gG,List.getElem?_map,Hq (show i-1<l.length from qg),gG,List.getElem?_map,Hq h2];exact this
end
theorem Pm{l:L By}{i:X}(h:i<l.length):nx l i=l[i]:=by simp[nx,gG,h]
theorem Wm.none{r:X}(hL:So (Ap n) AL)(hp:Wm n AL (Ap n y) r)(ht:¬ Jm n AL y r):∀x∈AL,Ap n x≠Ap n y:=λx hx e=>by
 obtain⟨i,hi,rfl⟩:=List.mem_iff_getElem.1 hx
 rcases Nat.lt_trichotomy i r with q|q|q
 ·have:=hp.lo i q
  rw[Pm hi,e,Fc]at this;cases this
 ·subst q
  exact ht ⟨hi,by rw[Pm hi];exact e⟩
 ·have h1:Lt1 (Ap n) AL[r] AL[i]:=List.pairwise_iff_getElem.1 hL r i qg hi q
  have h2:=hp.hi qg;rw[Pm qg]at h2;unfold Lt1 at h1;rw[e,h2]at h1;cases h1
theorem Wm.ins{r:X}(hL:So (Ap n) AL)(hp:Wm n AL (Ap n y) r)(ht:¬ Jm n AL y r):So (Ap n) (Hg AL y r)∧(∀x,x∈Hg AL y r↔x∈AL∨x=y)∧(Hg AL y r).length=AL.length+1:=by
 have hn:=hp.none hL ht
 have vp:∀x∈AL.take r,Lt1 (Ap n) x y:=λx hx=>by
  obtain⟨i,hi,rfl⟩:=List.mem_iff_getElem.1 hx;rw[List.length_take]at hi;rw[List.getElem_take];have:=hp.lo i qg;rw[Pm qg]at this;exact this
 have hhi:∀z∈AL.drop r,Lt1 (Ap n) y z:=λz hz=>by
  have hzL:=List.mem_of_mem_drop hz;obtain⟨i,hi,rfl⟩:=List.mem_iff_getElem.1 hz;rw[List.length_drop]at hi;rw[List.getElem_drop]at hzL ⊢;refine Lt1.tot ?_ (hn _ hzL);have h2:=hp.hi qg;rw[Pm qg]at h2
  rcases Nat.eq_zero_or_pos i with q|q
  ·subst q;exact h2
  ·have h1:Lt1 (Ap n) AL[r] AL[r+i]:=List.pairwise_iff_getElem.1 hL r (r+i) qg qg qg
   cases hb:Ax (Ap n AL[r+i]) (Ap n y) with
   | false=>rfl
   | true=>have:=Ku h1 hb;rw[h2]at this;cases this
 have hL':=hL;rw[←List.take_append_drop r AL]at hL';obtain⟨p1,p2,p3⟩:=List.pairwise_append.1 hL';refine⟨?_,λx=>?_,Ix _ _ _ hp.le⟩
 ·unfold Hg
  refine List.pairwise_append.2 ⟨List.pairwise_append.2 ⟨p1,List.pairwise_singleton _ _,λa ha b hb=>?_⟩,p2,λa ha b hb=>?_⟩
  ·rw[List.mem_singleton]at hb;subst hb;exact vp a ha
  ·rcases List.mem_append.1 ha with q|q
   ·exact p3 a q b hb
   ·rw[List.mem_singleton]at q;subst q;exact hhi b hb
 ·unfold Hg
  rw[List.mem_append,List.mem_append,List.mem_singleton];constructor
  ·rintro((q|q)|q)
   ·exact Or.inl (List.mem_of_mem_take q)
   ·exact Or.inr q
   ·exact Or.inl (List.mem_of_mem_drop q)
  ·rintro(q|q)
   ·rw[←List.take_append_drop r AL]at q
    rcases List.mem_append.1 q with p|p
    ·exact Or.inl (Or.inl p)
    ·exact Or.inr p
   ·exact Or.inl (Or.inr q)
theorem sum_size(n:X)(x:By):(Ap n x).size=n:=by
 have:∀(V:Int)(n:X),(Ii V n).length=n:=λV n=>by induction n with|zero=>rfl|succ n ih=>simp[Ii,ih]
 show((Ii _ n).toArray).size=n;simp[this]
def Lq(n:X)(s:G3):G3:=⟨s.name,s.ask,Ap n s.sum⟩
theorem gx_map(n:X)(ls:L G3)(k:X)(h:k<ls.length):gx (ls.map (Lq n)) k=Lq n (gx ls k):=by
 unfold gx;exact qmb
def RecOwn(B:X)(w:E)(v1 v2:Z)(is:L I3)(gs:L G3):Prop:=
 ∃xs ys,w.ownsRow B 174 3 v1 is.length xs∧Cs is is.length xs∧w.ownsRow B 115 3 v2 gs.length ys∧Bx gs gs.length ys
theorem filledG_add{gs:L G3}{k:X}{ys:L Z}(h:Bx gs k ys)(hl:ys.length=k*3):Bx gs (k+1) (ys++[S (gx gs k).name,F (gx gs k).ask,S (gx gs k).sum]):=by
 intro i hi
 rcases Nat.lt_or_ge i k with hk|hk
 ·obtain⟨h1,h2,h3⟩:=h i hk
  rw[List.getElem?_append_left qg,List.getElem?_append_left qg,List.getElem?_append_left qg];exact⟨h1,h2,h3⟩
 ·obtain rfl:i=k:=qg
  rw[List.getElem?_append_right qg,List.getElem?_append_right qg,List.getElem?_append_right qg,hl,Nat.sub_self,show i*3+1-i*3=1 from qg,show i*3+2-i*3=2 from qg];exact⟨rfl,rfl,rfl⟩
theorem Tryz.info131b:(prog.info? 115).map (λi=>(i.zero,i.size,i.bytes))=M (M (G #[ze,F false,ze]),3,40):=qk
theorem Gc{b:X}{o:Obj}(h:w.heap[b]?=M o):b<w.heap.size:=by
 rcases Nat.lt_or_ge b w.heap.size with h'|h'
 ·exact h'
 ·rw[Array.getElem?_eq_none h']at h;cases h
theorem Oe(w:E)(o:Obj):(w.alloc o).heap[w.heap.size]?=M o:=qew
theorem Yf{s x:Operand}{ops:Array Oper}{o:Oper}{a:Act}{K:Act→E→Prop}{Q:Exit→Act→E→Prop}{AF:Prop}(uj:o.guard=N)(ho:o.op=.call { callee:=.builtin .append,args:=#[s,x],argTypes:=#[71,71] })(B:X)(v:Z)(nn:X)(xs:L Z)(hs:a.eval s=v)(ah:W.ownsRow B 115 3 v nn xs)(d:X)(t:By)(q:Bool)(u:By)(hx:a.eval x=J (p_ d) 1 1)(hc:W.heap[d]?=M (O #[S t,F q,S u] 115 (0,0)))(hB:B≤W.heap.size)(hn:nn≤200)(h:∀g' aj w',w'.ownsRow B 115 3 (J (p_ g') (nn+1) aj) (nn+1) (xs++[S t,F q,S u])→W.grownBy w' v.ownBlock→K (a.put o.dst (J (p_ g') (nn+1) aj)) w'):if Region.wanted o (yielded ops a.tmps)=true then Oper.wp prog o a W K Q else AF:=by
 obtain⟨i0,hi,bq,bi,ci⟩:=info_parts Tryz.info131b
 refine step_append_lies (w:=W) uj s x 71 ho B 115 i0 (G #[ze,F false,ze]) 3 40 underlying71 hi bq bi ci rfl qh _ nn xs hs ah ⟨d,0,N⟩ 1 1 [S t,F q,S u] hx rfl
  (World.news_of_block (cs:=#[S t,F q,S u]) (t:=115) (fr:=(0,0)) hc) (by intro u hu;simp at hu;rcases hu with rfl|rfl|rfl<;>rfl) qg qq qg hB W.heap.size rfl ?_
 exact qdx
structure NS (w:E) (P:X) (s1 v:Z) (sm:By) (k:X) (gs:L G3):Prop where
 blk:w.heap[P]?=M (O #[s1,v,S sm] 73 (0,0))
 own:∃ys,w.ownsRow (P+1) 115 3 v k ys∧Bx gs k ys
theorem NS.cell{s1:Z}{sm:By}{k:X}{gs:L G3}(h:NS w P s1 v sm k gs):w.cell? ⟨P,0,N⟩=M s1∧w.cell? ⟨P,1,N⟩=M v∧w.cell? ⟨P,2,N⟩=M (S sm):=
 ⟨qhm,qhm,qhm⟩
theorem NS.bl{s1:Z}{sm:By}{k:X}{gs:L G3}(h:NS w P s1 v sm k gs)(hb:Bw w w'):NS w' P s1 v sm k gs:=by
 obtain⟨ys,h1,h2⟩:=h.own;exact⟨by rw[hb.block P (Gc h.blk)];exact h.blk,ys,Ad h1 hb,h2⟩
theorem NS.put{s1:Z}{sm:By}{k:X}{gs:L G3}{xs zs:L Z}(hb:W.heap[P]?=M (O #[s1,v,S sm] 73 (0,0)))(ho:W.ownsRow (P+1) 115 3 v k xs)(hg:W.grownBy w' v.ownBlock)(hn:w'.ownsRow (P+1) 115 3 nv (k+1) zs)(hf:Bx gs (k+1) zs):NS (w'.setCell ⟨P,1,N⟩ nv) P s1 nv sm (k+1) gs:=by
 have hbk:w'.heap[P]?=M (O #[s1,v,S sm] 73 (0,0)):=by
  rw[hg.block P (Gc hb) (λe=>by have:=(ho.lt P e.symm).1;omega)];exact hb
 refine⟨?_,zs,?_,hf⟩
 ·rw[jB hbk];rfl
 ·refine⟨hn.1,?_⟩
  rcases hn.2 with h2|⟨g,cap,cur,hv,xy,hh,r⟩
  ·exact Or.inl h2
  ·refine Or.inr ⟨g,cap,cur,hv,xy,?_,r⟩
   rw[Dm w' ⟨P,1,N⟩ nv g (by intro e;simp at e;omega)];exact hh
theorem Ns{p:Addr}{o:Obj}(h:w.cell? p=M v):(w.alloc o).cell? p=M v:=qgp
theorem Jw{B:X}{xs:L Z}(h:w.ownsRow B e sz v n xs){r:X}(hr:∀b,v.ownBlock=M b→b≠r)(u:Z):(w.setCell ⟨r,j,N⟩ u).ownsRow B e sz v n xs:=
 own_keep (ob:=M r) h (λb _ hne=>Dm w ⟨r,j,N⟩ u b (λe=>hne (by rw[e]))) (λb hb e=>hr b hb (Option.some.inj e))
theorem NS.add{w6 w7:E}{g' aj:X}{s1:Z}{sm:By}{k:X}{gs:L G3}{ys:L Z}{o:Obj}{t u:By}{q:Bool}(h:NS W P s1 v sm k gs)(hy:W.ownsRow (P+1) 115 3 v k ys)(hf:Bx gs k ys)(hb:Bw W w6)(hg:(w6.alloc o).grownBy w7 v.ownBlock)(hn:w7.ownsRow (P+1) 115 3 (J (p_ g') (k+1) aj) (k+1) (ys++[S t,F q,S u]))(hG:gx gs k=⟨t,q,u⟩):NS (w7.setCell ⟨P,1,N⟩ (J (p_ g') (k+1) aj)) P s1 (J (p_ g') (k+1) aj) sm (k+1) gs:=by
 have h6:=h.bl hb;have te:=filledG_add hf hy.1;rw[hG]at te;exact NS.put (by rw[Lib.alloc_old _ _ _ (Gc h6.blk)];exact h6.blk) ((Ad hy hb).alloc _) hg hn te
theorem Xk(a la ca:Option Addr)(ac lc cc:X)(is:L I3)(ls:L G3)(c:Int)(t:By)(nc:X)(n:X)(out:By)(w:E)(hT:Mv w)(hr:Cn w a is)(hlr:Gf w la ls)(hl:is.length≤1048576)(hx:∀i,(ix is i).text.size≤9223372036854775807)(hls:ls.length≤200)(HF:Hd (∀(a:Option Addr)(cap:X)(w:E),Calls prog 151 #[G #[I c,S t,J a nc cap]] w λe w'=>e=H (S out)∧Bw w w'))(hp:Av is=true)(h1:1≤n)(h2:n≤8)(ho:out≠⟨#[]⟩)(hos:out.size≤2002)(Q2:∀i,i<ls.length→(gx ls i).sum.size≤1048576)(cz:∀i,(gx ls i).name.size≤9223372036854775807):Calls prog 152 #[G #[J a is.length ac],J la ls.length lc,G #[I c,S t,J ca nc cc],I n] w λe w'=>Bw w w'∧(((∀i,i<ls.length→Ao (gx ls i).name)∧∃v1 v2,e=H (G #[v1,v2,S (Ap n out)])∧RecOwn w.heap.size w' v1 v2 is (ls.map (Lq n)))∨((∃i,i<ls.length∧¬ Ao (gx ls i).name)∧e=H (G #[nS,nS,ze]))):=by
 have E8:1≤is.length:=by
  exact qnj
 have hoe:out.toList.isEmpty=false:=by
  exact qlj
 have ak:Bw w (((w.alloc (O #[J a is.length ac] 70)).alloc (O #[I c,S t,J ca nc cc] 65)).alloc (O #[nS,nS,ze] 73)):=((aN _ _).alloc qi _).alloc qj _;go_enter func152,ntmps152;go_wp2_with fail;refine(HF.o _ _ _).mono ?_;rintro e w1 ⟨rfl,ag⟩;have bm:=bt ak ag;have p0:w1.cell? ⟨w.heap.size,0,N⟩=M (J a is.length ac):=Aa ag qo
 have kb:w1.heap[w.heap.size+1+1]?=M (O #[nS,nS,ze] 73 (0,0)):=by
  exact qiw
 clear ak ag;go_wp2_with fail;refine(Ld a ac is _ (hT.bl bm) (hr.bl bm) hl hx).mono ?_;rintro e w2 ⟨af,rfl⟩;have bg:=bt bm af;have q0:=Aa af p0;have kb2:w2.heap[w.heap.size+1+1]?=M (O #[nS,nS,ze] 73 (0,0)):=by rw[af.block _ (Gc kb)];exact kb
 have fg:=Gc kb2;rw[hp];clear bm p0 kb af
 go_wp2_with (first|(go_at_call 64;refine(Jy n _ qg qg).mono ?_;rintro e w9 ⟨rfl,rfl⟩))
 refine(Uc a ac is _ (hr.bl bg) E8 hl).mono ?_;rintro e w3 ⟨au,g,cp,rfl,ah⟩;have ig:=bt bg au;have kb3:w3.heap[w.heap.size+1+1]?=M (O #[nS,nS,ze] 73 (0,0)):=by rw[au.block _ (Gc kb2)];exact kb2
 have A6:=Ab ah;clear bg q0 kb2 au ah;go_wp2_with fail;refine(Hc out n _ qg h1 h2).mono ?_;rintro e w4 ⟨rfl,bp⟩;have jj:=bt ig bp;have kb4:w4.heap[w.heap.size+1+1]?=M (O #[nS,nS,ze] 73 (0,0)):=by rw[bp.block _ (Gc kb3)];exact kb3
 have pk:=Ab (Ad A6.o bp);clear ig kb3 bp A6;obtain⟨sm,esm⟩:=Aj (Ap n out);have ESM:=Ab esm;rw[show(⟨(Ii (Df out.data.toList) n).toArray⟩:By)=sm from esm];clear esm;obtain⟨P,eP⟩:=Aj w4.heap.size;obtain⟨w5,ew5⟩:=Aj (w4.alloc (O #[J (p_ g) is.length cp,nS,S sm] 73));have hw5:w5.heap.size=P+1:=by rw[←ew5,←eP];simp
 have zb:Hd (NS w5 P (J (p_ g) is.length cp) nS sm 0 (ls.map (Lq n))):=by
  exact qmp
 have C7:Bw w w5:=by rw[←ew5];exact jj.alloc jj.size _
 have hwP:w.heap.size+1+1<P:=by rw[←eP];exact Gc kb4
 have KB5:Hd (w5.heap[w.heap.size+1+1]?=M (O #[nS,nS,ze] 73 (0,0))):=by show _=_;rw[←ew5,Lib.alloc_old _ _ _ qg];exact kb4
 have S3:Hd (w5.ownsRow w.heap.size 174 3 (J (p_ g) is.length cp) is.length (Fd is)):=by show World.ownsRow _ _ _ _ _ _ _;rw[←ew5];exact Ah (pk.o.alloc _) qg
 have hgR:w.heap.size+1+1<g:=zo ((pk.o.lt g rfl).1);have hgP:g<P:=by rw[←eP];exact(pk.o.lt g rfl).2
 go_wp2;clear ew5 eP jj kb4 pk;have C9:=Ab hw5;clear hw5
 go_loopw [41] (λi wr=>∃(k:X)(v:Z),k≤ls.length∧i=I k∧Hd (NS wr P (J (p_ g) is.length cp) v sm k (ls.map (Lq n)))∧Hd (∀j,j<k→Ao (gx ls j).name)∧Below P w5 wr∧P+1≤wr.heap.size) (λi _=>ls.length-(intOf i).toNat)
 case atStart=>exact⟨0,_,Nat.zero_le _,rfl,zb.o,(λj hj=>by omega:∀j,j<0→Ao (gx ls j).name),Below.refl _ _,by rw[C9.o];exact Nat.le_refl _⟩
 case round=>
  obtain⟨k,v,hk,rfl,HN,HA,bc,de⟩:=hrel;clear zb HF;have hw:Bw w wr:=C7.trans (bc.mono qg)
  by_cases ai:k<ls.length
  ·obtain⟨b,off,rfl,c1,c2,c3⟩:=(hlr.bl hw) k ai
   have ge:=Q2 k ai;have U4:=cz k;have hgk:=gx_map n ls k ai;obtain⟨s,es⟩:=Aj (gx ls k);rw[es]at c1 c2 c3 ge U4 hgk;have ES:=Ab es;have HG:=Ab hgk;clear es hgk Q2 cz hlr hr hT;have fs:(k:Int)<(ls.length:Int):=qg;have jn:(0:Int)≤(k:Int):=qg
   by_cases ip:Ao s.name
   ·have ll:=Dc ip
    obtain⟨_,cP,_⟩:=HN.o.cell;have pe:P<wr.heap.size:=qg
    go_wp2_with (go_at_call 96;refine(Dq s.name _ U4).mono ?_;rintro e w9 ⟨rfl,rfl⟩;rw[ll])
    obtain⟨W,eW⟩:=Aj (wr.alloc (O #[S s.name,F s.ask,S s.sum] 194));obtain⟨q,eq⟩:=Aj wr.heap.size;have d0:W.cell? ⟨q,0,N⟩=M (S s.name):=qhq;have d1:W.cell? ⟨q,1,N⟩=M (F s.ask):=qhq;have d2:W.cell? ⟨q,2,N⟩=M (S s.sum):=qhq;have cj:Bw wr W:=qgt;have dP:=Aa cj cP;(have hWq:W.heap.size=q+1:=by rw[←eW,←eq];simp);have HQ:=Ab hWq;have HNW:=Ab (HN.o.bl cj);obtain⟨ys0,H0,_⟩:=HN.o.own;(have HVQ:Hd (M q≠v.ownBlock):=λe=>by have:=(H0.lt q e.symm).2;omega);(have HVP:Hd (M P≠v.ownBlock):=λe=>by have:=(H0.lt P e.symm).1;omega);have f9:Below P w5 W:=bc.trans (cj.mono qg);have hPq:P<q:=qg;rw[eW,eq];clear eW eq cj hWq cP bc de pe H0 HN c1 c2 c3;obtain⟨u,eu⟩:=Aj (Ap n s.sum);(have HS:Hd (∀W':E,Calls prog 36 #[S s.sum,I n] W' λe w'=>e=H (S u)∧Bw W' w'):=λW'=>by rw[←eu];exact Hc s.sum n W' ge h1 h2);have HU:=Ab eu;clear eu;obtain⟨ys,rm,zu⟩:=HNW.o.own;have um:=Ab rm;have D2:=Ab zu;clear rm zu;(have hWq1:q+1≤W.heap.size:=by rw[HQ.o];exact Nat.le_refl _);refine Lt.begin 14 (λw'=>w'.cell? ⟨P,1,N⟩=M v∧w'.cell? ⟨q,0,N⟩=M (S s.name)∧w'.cell? ⟨q,1,N⟩=M (F s.ask)∧w'.cell? ⟨q,2,N⟩=M (S s.sum)) qk ?_;have gz:W.drew.cell? ⟨P,1,N⟩=M v∧W.drew.cell? ⟨q,0,N⟩=M (S s.name)∧W.drew.cell? ⟨q,1,N⟩=M (F s.ask)∧W.drew.cell? ⟨q,2,N⟩=M (S s.sum):=qu;change K 0 _
    iterate 9
     refine Lt.ti (v:=?_) gz ?_ ?_;rotate_left 1
     ·exact qar
     simp only[gX]
    refine Lt.sp (i:=9) (λK hK=>?_);go_simp;refine(HS.o _).mono ?_;rintro e w6 ⟨rfl,bj⟩;have bo:Bw W w6:=(Below.drew (Below.refl _ _)).trans (bj.mono qi);refine hK.out _ _ (λ_=>⟨Aa bo dP,Aa bo d0,Aa bo d1,Aa bo d2⟩) (λmu=>?_);replace mu:=mu qh;clear hK K gz bj;refine Lt.ti (i:=10) (v:=?_) mu ?_ ?_;rotate_left 1
    ·exact qar
    simp only[gX];refine Lt.sp (i:=11) (λK hK=>?_);go_simp;refine hK.out _ _ (λ_=>⟨Ns mu.1,Ns mu.2.1,Ns mu.2.2.1,Ns mu.2.2.2⟩) (λlx=>?_);replace lx:=lx qh;clear hK K mu;refine Lt.sp (i:=12) (λK hK=>?_);refine Yf rfl qt (P+1) v k ys qt ((Ad um.o bo).alloc _) w6.heap.size s.name s.ask u qt (Oe _ _) (by have:=bo.size;simp;omega) qg ?_;intro g' aj w7 d9 ae;have hsz6:=bo.size;(have x0:w7.cell? ⟨P,1,N⟩=M v:=by rw[ae.cell_far ⟨P,1,N⟩ qj HVP.o];exact lx.1);(have x1:w7.cell? ⟨q,0,N⟩=M (S s.name):=by rw[ae.cell_far ⟨q,0,N⟩ qj HVQ.o];exact lx.2.1);(have x2:w7.cell? ⟨q,1,N⟩=M (F s.ask):=by rw[ae.cell_far ⟨q,1,N⟩ qj HVQ.o];exact lx.2.2.1);(have x3:w7.cell? ⟨q,2,N⟩=M (S s.sum):=by rw[ae.cell_far ⟨q,2,N⟩ qj HVQ.o];exact lx.2.2.2);have HNP:Hd (NS (w7.setCell ⟨P,1,N⟩ (J (p_ g') (k+1) aj)) P (J (p_ g) is.length cp) (J (p_ g') (k+1) aj) sm (k+1) (ls.map (Lq n))):=NS.add HNW.o um.o D2.o bo ae d9 (by rw[HG.o];unfold Lq;rw[HU.o]);have hbP7:Below P w5 w7:=((f9.trans (bo.mono qg)).alloc qg _).grown ae qj (λm hm=>by have:=(um.o.lt m hm).1;omega);(have hs7:P+1≤w7.heap.size:=by have h2:=ae.size;simp at h2;omega);(have fz:w7.frozen? ⟨P,1,N⟩=false:=by rw[ae.frozen_far ⟨P,1,N⟩ qj HVP.o];exact fH (by rw[Lib.alloc_old _ _ _ qg];exact(HNW.o.bl bo).blk) 1);refine hK.out _ _ (λ_=>⟨x0,x1,x2,x3⟩) (λF5=>?_);replace F5:=F5 qh;clear hK K lx ae d9;simp only[gX];refine Lt.ti (i:=13) (v:=?_) F5 ?_ ?_;rotate_left 1
    ·exact qar
    simp only[gX];refine Lt.sp (i:=14) (λK hK=>?_);exact qje
   ·have ll:=Ct ip
    have kbr:wr.heap[w.heap.size+1+1]?=M (O #[nS,nS,ze] 73 (0,0)):=qem;have r0:∀x,(wr.alloc x).cell? ⟨w.heap.size+1+1,0,N⟩=M nS:=λx=>Ns qhr;have r1:∀x,(wr.alloc x).cell? ⟨w.heap.size+1+1,1,N⟩=M nS:=λx=>Ns qhr;have r2:∀x,(wr.alloc x).cell? ⟨w.heap.size+1+1,2,N⟩=M ze:=λx=>Ns qhr;have fr:∀x j,(wr.alloc x).frozen? ⟨w.heap.size+1+1,j,N⟩=false:=λx j=>fH (by rw[Lib.alloc_old _ _ _ qg];exact kbr) j;have hR:w.heap.size≤w.heap.size+1+1:=qg;have hwA:∀x,Bw w (wr.alloc x):=λx=>hw.alloc hw.size _;clear kbr bc hw
    go_wp2_with (go_at_call 96;refine(Dq s.name _ U4).mono ?_;rintro e w9 ⟨rfl,rfl⟩;rw[ll])
    exact bR (v:=G #[nS,nS,ze]) (by simp[results,results152,go_sem,r0,r1,r2]) rfl ⟨(((hwA _).setCell (p:=⟨w.heap.size+1+1,0,N⟩) hR _).setCell (p:=⟨w.heap.size+1+1,1,N⟩) hR _).setCell (p:=⟨w.heap.size+1+1,2,N⟩) hR _,Or.inr ⟨⟨k,ai,by rw[ES.o];exact ip⟩,rfl⟩⟩
  ·have ek:k=ls.length:=qg
   subst ek;obtain⟨c0,c1,c2⟩:=HN.o.cell;obtain⟨ys,rm,zu⟩:=HN.o.own;have kbr:wr.heap[w.heap.size+1+1]?=M (O #[nS,nS,ze] 73 (0,0)):=qem;obtain⟨r0,r1,r2⟩:=ck3 kbr;have fr:=fZ kbr;have hR:w.heap.size≤w.heap.size+1+1:=qg
   have o1:wr.ownsRow w.heap.size 174 3 (J (p_ g) is.length cp) is.length (Fd is):=by
    exact qkb
   have lj:=Ab o1;have um:Hd (wr.ownsRow w.heap.size 115 3 v ls.length ys):=Ah rm qg;(have HV:Hd (∀b,v.ownBlock=M b→b≠w.heap.size+1+1):=λb hb=>by have:=(rm.lt b hb).1;omega);have D2:=Ab zu
   obtain⟨va,vn,vc,rfl⟩:∃va vn vc,v=J va vn vc:=by
    exact qmj
   clear kbr bc o1 rm zu HN;go_wp2;refine bR (v:=G #[J (p_ g) is.length cp,J va vn vc,S sm]) (by simp[results,results152,go_sem,r0,r1,r2]) rfl ⟨((hw.setCell (p:=⟨w.heap.size+1+1,0,N⟩) hR _).setCell (p:=⟨w.heap.size+1+1,1,N⟩) hR _).setCell (p:=⟨w.heap.size+1+1,2,N⟩) hR _,Or.inl ⟨HA.o,_,_,by rw[ESM.o],Fd is,ys,?_,Iz is,?_,by rw[List.length_map];exact D2.o⟩⟩
   ·exact qju
   ·exact qnb
theorem get_any(n:X)(g:X)(ta ra sa:Option Addr)(tc rn rc sc:X)(ts:L By)(t:By)(w:E)(hg:Jr w g n ta ra ts.length tc rn rc (J sa ts.length sc))(cr:Cu w sa (ts.map (Ap n)))(hc:Cu w ta ts)(hl:ts.length<=1048576)(fc:Hf (ts.map (Ap n))):Calls prog 145 #[.pointer (p_ g),S t] w λe w'=>w=w'/\∃A ok,e=H (Y #[S A,F ok])/\Gh n ts t A ok:=by
 have k1:w.cell? ⟨g,1,N⟩=M (J ta ts.length tc):=by unfold Jr at hg;rw[cH hg];rfl
 have k3:w.cell? ⟨g,3,N⟩=M (J sa ts.length sc):=by unfold Jr at hg;rw[cH hg];rfl
 have HC:=Ab hc
 have HB:Hd (Calls prog 120 #[J sa ts.length sc,S t] w λe w'=>w=w'/\∃(r:X)(b:Bool),e=H (Y #[I r,F b])/\((b=true/\r<ts.length/\Ap n (nx ts r)=t)\/(b=false/\¬ El (ts.map (Ap n)) t))):=by
  have:=Ra sa sc (ts.map (Ap n)) t w cr (by rw[List.length_map];exact hl) fc;rw[List.length_map]at this;refine this.mono ?_;rintro e w' ⟨rfl,r,b,rfl,h⟩;refine⟨rfl,r,b,rfl,?_⟩
  rcases h with⟨h1,h2,h3⟩|h
  ·exact Or.inl ⟨h1,h2,by rw[<- Hj n ts r h2];exact h3⟩
  ·exact Or.inr h
 clear hc cr fc hg;go_enter func145,ntmps145;go_wp2_with fail;refine HB.o.mono ?_;rintro e w2 ⟨rfl,r,b,rfl,hr⟩
 rcases hr with⟨rfl,h3,h4⟩|⟨rfl,h3⟩
 ·obtain⟨b,off,rfl,c1⟩:=HC.o r h3
  replace c1:w.cell? ⟨b,off+r,N⟩=M (S (nx ts r)):=c1;have HO:Hd (Gh n ts t (nx ts r) true):=Or.inl ⟨rfl,r,h3,h4,rfl⟩;have hrI:(r:Int)<(ts.length:Int):=qg;clear h4;generalize nx ts r=x at c1 HO;go_wp2_with fail
  go_ret2
  exact⟨rfl,x,true,rfl,HO.o⟩
 ·have HO:Hd (Gh n ts t ⟨#[]⟩ false):=Or.inr ⟨rfl,rfl,h3⟩
  clear h3;go_wp2_with fail
  go_ret2
  exact⟨rfl,⟨#[]⟩,false,rfl,HO.o⟩

theorem Yk{t:By}{k:X}(ha:Hf (ts.map (Ap n)))(h1:∀j,j<k->Ax (Ap n (nx ts j)) t=true)(h2:k<ts.length->Ax (Ap n (nx ts k)) t=false)(hk:k<=ts.length)(hh:El (ts.map (Ap n)) t):k<ts.length/\Ap n (nx ts k)=t:=by
 have hs:∀i,i<ts.length->nx (ts.map (Ap n)) i=Ap n (nx ts i):=λi h=>Hj n ts i h;have hl:(ts.map (Ap n)).length=ts.length:=List.length_map _
 have:=Nk (i:=k) ha (λj hj=>by rw[hs j qg];exact h1 j hj) (λj hj hjl=>by
  have hk':k<ts.length:=qg;exact Uk ha (m:=k) (by rw[hs k hk'];exact h2 hk') j hj hjl) hh
 exact⟨qg,by rw[<- hs k qg];exact this.2⟩
def rrB(s:By):Prop:=∃h:2<=s.size,s.size<=2002/\48<=(s[0].toNat:Int)/\(s[0].toNat:Int)<=53/\(s[1].toNat:Int)=58
def resA(c:Int)(t:By):Z:=G #[I c,S t,nS]
def Tb(c:Int)(t:By)(b:Bool):Z:=Y #[resA c t,F b]
theorem parts_no{s:By}(h:¬ rrB s):s.size<2\/∃h:2<=s.size,2002<s.size\/(s[0].toNat:Int)<48\/53<(s[0].toNat:Int)\/(s[1].toNat:Int)≠58:=by
 by_cases h1:s.size<2
 ·exact .inl h1
 ·refine .inr ⟨qg,?_⟩
  have h2:2<=s.size:=qg;have:¬ (s.size<=2002/\48<=(s[0].toNat:Int)/\(s[0].toNat:Int)<=53/\(s[1].toNat:Int)=58):=λk=>h ⟨h2,k⟩;omega
theorem implRead_no(s:By)(w:E)(hs:s.size<=1048576)(h:¬ rrB s):Calls prog 146 #[S s] w λe w'=>e=H (Tb 0 ⟨#[]⟩ false)/\Bw w w':=by
 rcases parts_no h with h|⟨h,k⟩
 ·go_enter func146,ntmps146
  go_wp2;exact bR (v:=Tb 0 ⟨#[]⟩ false) qgv rfl ⟨rfl,aN _ _⟩
 ·have vr:(s[1].toNat:Int)=58\/((s[1].toNat:Int) != 58)=true:=by by_cases e:(s[1].toNat:Int)=58;exact .inl e;exact .inr (by simpa using e)
  rcases vr with vr|vr
  all_goals
   go_enter func146,ntmps146;go_wp2
  all_goals first
   | exact bR (v:=Tb 0 ⟨#[]⟩ false) qgv rfl ⟨rfl,aN _ _⟩
   | (exfalso;omega)
theorem implRead_yes(s:By)(w:E)(h:rrB s)(h0:0<s.size):Calls prog 146 #[S s] w λe w'=>e=H (Tb ((s[0].toNat:Int)-48) (s.extract 2 s.size) true)/\Bw w w':=by
 obtain⟨h,h2,h3,h4,h5⟩:=h;go_enter func146,ntmps146;go_wp2;go_region;go_wp2;exact bR (v:=Tb ((s[0].toNat:Int)-48) (s.extract 2 s.size) true) qgv rfl ⟨rfl,(aN _ _).drew⟩
def Got(n:X)(ts:L By)(t:By):Prop:=∃i,i<ts.length/\Ap n (nx ts i)=t
open Classical in
noncomputable def Mc (n:X) (ts:L By) (t:By):By:=if h:Got n ts t then nx ts h.choose else ⟨#[]⟩
theorem getA_of{t A:By}{ok:Bool}(ha:Hf (ts.map (Ap n)))(h:Gh n ts t A ok):A=Mc n ts t/\(ok=true↔Got n ts t):=by
 by_cases hg:Got n ts t
 ·have k:Gh n ts t (Mc n ts t) true:=Or.inl ⟨rfl,hg.choose,hg.choose_spec.1,hg.choose_spec.2,by unfold Mc;rw[dif_pos hg]⟩
  obtain⟨e1,e2⟩:=Gh.unique ha k h;exact⟨e1,by rw[e2];simp[hg]⟩
 ·have k:Gh n ts t (Mc n ts t) false:=Or.inr ⟨rfl,by unfold Mc;rw[dif_neg hg],λ⟨i,hi,e⟩=>hg ⟨i,by rw[List.length_map]at hi;exact hi,by rw[<- Hj n ts i (by rw[List.length_map]at hi;exact hi)];exact e⟩⟩
  obtain⟨e1,e2⟩:=Gh.unique ha k h;exact⟨e1,by rw[e2];simp[hg]⟩
theorem getA_none{t:By}(h:¬ Got n ts t):Mc n ts t=⟨#[]⟩:=by unfold Mc;rw[dif_neg h]
theorem Yy{t:By}(hs:∀i,i<ts.length->(nx ts i).size<=2002):(Mc n ts t).size<=2002:=by
 unfold Mc;split
 ·rename_i h;exact hs _ h.choose_spec.1
 ·decide
def rdC(A:By):Int:=if h:0<A.size then (A[0].toNat:Int)-48 else 0
def rdT(A:By):By:=A.extract 2 A.size
theorem rdC_eq{A:By}(h:0<A.size):(A[0].toNat:Int)-48=rdC A:=by unfold rdC;rw[dif_pos h]
theorem rr_empty:¬ rrB (⟨#[]⟩:By):=λ⟨h,_⟩=>absurd h qh
theorem Va{A:By}(h:rrB A):0<A.size:=by obtain⟨h,_⟩:=h;omega
theorem rr_code{A:By}(h:rrB A):0<=rdC A/\rdC A<=5:=by
 rw[<- rdC_eq (Va h)];obtain⟨h1,h2,h3,h4,h5⟩:=h;omega
theorem rr_text{A:By}(h:rrB A):(rdT A).size<=2000:=by
 obtain⟨h1,h2,h3,h4,h5⟩:=h;unfold rdT;rw[ByteArray.size_extract];omega
theorem implRead_any(A:By)(w:E)(hs:A.size<=2002):Calls prog 146 #[S A] w λe w'=>Bw w w'/\((rrB A/\e=H (Y #[G #[I (rdC A),S (rdT A),nS],F true]))\/(¬ rrB A/\e=H (Y #[G #[I 0,ze,nS],F false]))):=by
 by_cases h:rrB A
 ·refine(implRead_yes A w h (Va h)).mono ?_
  rintro e w' ⟨rfl,hb⟩;rw[rdC_eq (Va h)];exact⟨hb,Or.inl ⟨h,rfl⟩⟩
 ·refine(implRead_no A w qg h).mono ?_
  rintro e w' ⟨rfl,hb⟩;exact⟨hb,Or.inr ⟨h,rfl⟩⟩
theorem keepR{A B:Prop}{R:X}(h:A/\B)(k:W.heap[R]?=M (O #[F false,I 0,ze] 191 (0,0))):(A/\B)/\W.heap[R]?=M (O #[F false,I 0,ze] 191 (0,0))/\W.cell? ⟨R,0,N⟩=M (F false)/\W.cell? ⟨R,1,N⟩=M (I 0)/\W.cell? ⟨R,2,N⟩=M ze/\∀j,W.frozen? ⟨R,j,N⟩=false:=⟨h,k,Ci k⟩

theorem Dx{c:Int}{t:By}(ht:t.size<=2000):(Bp c t).size<=2002:=by
 unfold Bp;rw[ByteArray.size_append,ByteArray.size_append];show 1+1+t.size<=2002;omega

structure Sb where
 T:L By
 R:L T3
 ran:L By
 held:L By
 us:L X
inductive Gi where
 | circle (ch:L By)
 | deep (nm:By)
 | clash (A B:By)
 | full
inductive BJ where
 | make (nm:By)
 | work (nm:By) (is:L I3)
 | tri (is:L I3) (i m:X)
 | holds (gs:L G3) (k:X)
 | run (is:L I3) (ys:L R3) (ls:L G3)
inductive BA where
 | ok (d:Md)
 | hit (c:Int) (t:By)
 | none
 | yes
 | no
 | bad (b:Gi)
abbrev Mm:=L (ByteArray×Md)
open Classical in
noncomputable def fd (ms:Mm) (nm:By):Option Md:=(ms.find? λe=>decide (e.1=nm)).map (·.2)
inductive Dr (n:X):L By->L By->L By->Option Gi->Prop
 | nil {T}:Dr n T [] T N
 | go {T x xs r T' T'' a}:Wm n T (Ap n x) r->Ji n T x r 0 T' ⟨#[]⟩ ⟨#[]⟩->Dr n T' xs T'' a->Dr n T (x::xs) T'' a
 | clash {T x xs r A B}:Wm n T (Ap n x) r->Ji n T x r 2 T A B->Dr n T (x::xs) T (M (.clash A B))
 | full {T x xs r}:Wm n T (Ap n x) r->Ji n T x r 3 T ⟨#[]⟩ ⟨#[]⟩->Dr n T (x::xs) T (M .full)
theorem Wm.uniq{T:L By}{x:By}{r r':X}(h:Wm n T x r)(h':Wm n T x r'):r'=r:=by
 rcases Nat.lt_trichotomy r r' with k|k|k
 ·have h1:=h'.lo r k;have h2:=h.hi (zo h'.le);rw[h1]at h2;cases h2
 ·exact k.symm
 ·have h1:=h.lo r' k;have h2:=h'.hi (zo h.le);rw[h1]at h2;cases h2
theorem Ji.uniq{T:L By}{x:By}{r:X}{cd cd':Int}{T2:L By}{A A' B B':By}(h:Ji n T x r cd T1 A B)(h':Ji n T x r cd' T2 A' B'):cd'=cd/\T2=T1/\A'=A/\B'=B:=by
 rcases h with⟨a,b,rfl,rfl,rfl,rfl⟩|⟨a,b,rfl,rfl,rfl,rfl⟩|⟨a,b,rfl,rfl,rfl,rfl⟩|⟨a,b,rfl,rfl,rfl,rfl⟩<;>rcases h' with⟨a',b',rfl,rfl,rfl,rfl⟩|⟨a',b',rfl,rfl,rfl,rfl⟩|⟨a',b',rfl,rfl,rfl,rfl⟩|⟨a',b',rfl,rfl,rfl,rfl⟩<;>first|exact⟨rfl,rfl,rfl,rfl⟩|exact absurd a a'|exact absurd a' a|exact absurd b b'|exact absurd b' b
theorem Dr.uniq{T xs:L By}{a:Option Gi}(h:Dr n T xs T1 a):∀ {T2 a'},Dr n T xs T2 a'->T2=T1/\a'=a:=by
 induction h with
 | nil=>intro T2 a' h';cases h';exact⟨rfl,rfl⟩
 | go h1 h2 _ ih=>
   intro T2 a' h'
   cases h' with
   | go k1 k2 k3=>obtain rfl:=h1.uniq k1;obtain⟨_,rfl,_,_⟩:=h2.uniq k2;exact ih k3
   | clash k1 k2=>obtain rfl:=h1.uniq k1;obtain⟨e,_⟩:=h2.uniq k2;cases e
   | full k1 k2=>obtain rfl:=h1.uniq k1;obtain⟨e,_⟩:=h2.uniq k2;cases e
 | clash h1 h2=>
   intro T2 a' h'
   cases h' with
   | go k1 k2 k3=>obtain rfl:=h1.uniq k1;obtain⟨e,_⟩:=h2.uniq k2;cases e
   | clash k1 k2=>obtain rfl:=h1.uniq k1;obtain⟨_,_,rfl,rfl⟩:=h2.uniq k2;exact⟨rfl,rfl⟩
   | full k1 k2=>obtain rfl:=h1.uniq k1;obtain⟨e,_⟩:=h2.uniq k2;cases e
 | full h1 h2=>
   intro T2 a' h'
   cases h' with
   | go k1 k2 k3=>obtain rfl:=h1.uniq k1;obtain⟨e,_⟩:=h2.uniq k2;cases e
   | clash k1 k2=>obtain rfl:=h1.uniq k1;obtain⟨e,_⟩:=h2.uniq k2;cases e
   | full k1 k2=>exact⟨rfl,rfl⟩
def Jb(ls:L G3):L By:=(ls.filter (·.ask)).map (·.sum)
inductive Ez (n:X) (s:Sb) (is:L I3) (ls:L G3) (c:Int) (t:By):Sb->Option Gi->Prop
 | ok {T'}:Dr n s.T (Jb ls++[Bp c t]) T' N->s.R.length<2000->Ez n s is ls c t ⟨T',s.R++[⟨is,ls.map (Lq n),Ap n (Bp c t)⟩],s.ran,s.held,s.us++[s.R.length]⟩ N
 | recs {T'}:Dr n s.T (Jb ls++[Bp c t]) T' N->2000<=s.R.length->Ez n s is ls c t ⟨T',s.R,s.ran,s.held,s.us⟩ (M .full)
 | bad {T' b}:Dr n s.T (Jb ls++[Bp c t]) T' (M b)->Ez n s is ls c t ⟨T',s.R,s.ran,s.held,s.us⟩ (M b)
theorem Ez.uniq{s:Sb}{is:L I3}{ls:L G3}{c:Int}{t:By}{s1 s2:Sb}{a a':Option Gi}(h:Ez n s is ls c t s1 a)(h':Ez n s is ls c t s2 a'):s2=s1/\a'=a:=by
 cases h with
 | ok h1 h2=>cases h' with
   | ok k1 k2=>obtain⟨rfl,_⟩:=h1.uniq k1;exact⟨rfl,rfl⟩
   | recs k1 k2=>omega
   | bad k1=>obtain⟨_,e⟩:=h1.uniq k1;cases e
 | recs h1 h2=>cases h' with
   | ok k1 k2=>omega
   | recs k1 k2=>obtain⟨rfl,_⟩:=h1.uniq k1;exact⟨rfl,rfl⟩
   | bad k1=>obtain⟨_,e⟩:=h1.uniq k1;cases e
 | bad h1=>cases h' with
   | ok k1 k2=>obtain⟨_,e⟩:=h1.uniq k1;cases e
   | recs k1 k2=>obtain⟨_,e⟩:=h1.uniq k1;cases e
   | bad k1=>obtain⟨rfl,e⟩:=h1.uniq k1;cases e;exact⟨rfl,rfl⟩
noncomputable def outT (n:X) (s:Sb) (i:X):By:=Mc n s.T (qx s.R i).out
def Wn(n:X)(s:Sb)(is:L I3)(i:X):Prop:=(qx s.R i).code=is/\rrB (outT n s i)
inductive Az (ss:L S2) (ts:L T2) (n:X):Mm->Sb->L By->BJ->Mm->Sb->BA->Prop
 | known {ms s st nm d}:fd ms nm=M d->Az ss ts n ms s st (.make nm) ms s (.ok d)
 | circle {ms s st nm i}:fd ms nm=N->i<st.length->nx st i=nm->(∀j,j<i->nx st j≠nm)->Az ss ts n ms s st (.make nm) ms s (.bad (.circle (st.drop i)))
 | source {ms s st nm i}:fd ms nm=N->¬ El st nm->i<ss.length->(sx ss i).name=nm->Az ss ts n ms s st (.make nm) (ms++[(nm,⟨0,(sx ss i).text,[]⟩)]) s (.ok ⟨0,(sx ss i).text,[]⟩)
 | missing {ms s st nm}:fd ms nm=N->¬ El st nm->¬ Ze ss ts nm->Az ss ts n ms s st (.make nm) (ms++[(nm,⟨4,nm,[]⟩)]) s (.ok ⟨4,nm,[]⟩)
 | deep {ms s st nm}:fd ms nm=N->¬ El st nm->¬ El (Au ss) nm->El (Aq ts) nm->60<=st.length->Az ss ts n ms s st (.make nm) ms s (.bad (.deep nm))
 | made {ms s st nm i ms' s' d}:fd ms nm=N->¬ El st nm->¬ El (Au ss) nm->i<ts.length->(tx ts i).name=nm->st.length<60->Az ss ts n ms s (st++[nm]) (.work nm (tx ts i).code) ms' s' (.ok d)->Az ss ts n ms s st (.make nm) (ms'++[(nm,d)]) s' (.ok d)
 | fell {ms s st nm i ms' s' b}:fd ms nm=N->¬ El st nm->¬ El (Au ss) nm->i<ts.length->(tx ts i).name=nm->st.length<60->Az ss ts n ms s (st++[nm]) (.work nm (tx ts i).code) ms' s' (.bad b)->Az ss ts n ms s st (.make nm) ms' s' (.bad b)
 | held {ms s st nm is ms' s' c t}:Az ss ts n ms s st (.tri is 0 s.R.length) ms' s' (.hit c t)->Az ss ts n ms s st (.work nm is) ms' ⟨s'.T,s'.R,s'.ran,s'.held++[nm],s'.us⟩ (.ok ⟨c,t,[]⟩)
 | tfell {ms s st nm is ms' s' b}:Az ss ts n ms s st (.tri is 0 s.R.length) ms' s' (.bad b)->Az ss ts n ms s st (.work nm is) ms' s' (.bad b)
 | ran {ms s st nm is ms1 s1 ms' s' d}:Az ss ts n ms s st (.tri is 0 s.R.length) ms1 s1 .none->Az ss ts n ms1 s1 st (.run is [] []) ms' s' (.ok d)->Az ss ts n ms s st (.work nm is) ms' ⟨s'.T,s'.R,s'.ran++[nm],s'.held,s'.us⟩ (.ok d)
 | rfell {ms s st nm is ms1 s1 ms' s' b}:Az ss ts n ms s st (.tri is 0 s.R.length) ms1 s1 .none->Az ss ts n ms1 s1 st (.run is [] []) ms' s' (.bad b)->Az ss ts n ms s st (.work nm is) ms' s' (.bad b)
 | tend {ms s st is i m}:m<=i->Az ss ts n ms s st (.tri is i m) ms s .none
 | tother {ms s st is i m ms' s' a}:i<m->¬ Wn n s is i->Az ss ts n ms s st (.tri is (i+1) m) ms' s' a->Az ss ts n ms s st (.tri is i m) ms' s' a
 | thit {ms s st is i m ms' s'}:i<m->Wn n s is i->Az ss ts n ms s st (.holds (qx s.R i).looks 0) ms' s' .yes->Az ss ts n ms s st (.tri is i m) ms' ⟨s'.T,s'.R,s'.ran,s'.held,s'.us++[i]⟩ (.hit (rdC (outT n s i)) (rdT (outT n s i)))
 | tno {ms s st is i m ms1 s1 ms' s' a}:i<m->Wn n s is i->Az ss ts n ms s st (.holds (qx s.R i).looks 0) ms1 s1 .no->Az ss ts n ms1 s1 st (.tri is (i+1) m) ms' s' a->Az ss ts n ms s st (.tri is i m) ms' s' a
 | tbad {ms s st is i m ms' s' b}:i<m->Wn n s is i->Az ss ts n ms s st (.holds (qx s.R i).looks 0) ms' s' (.bad b)->Az ss ts n ms s st (.tri is i m) ms' s' (.bad b)
 | hend {ms s st gs k}:gs.length<=k->Az ss ts n ms s st (.holds gs k) ms s .yes
 | hhas {ms s st gs k ms' s' a}:k<gs.length->(gx gs k).ask=false->Ap n (Cz (Cj ss ts (gx gs k).name))=(gx gs k).sum->Az ss ts n ms s st (.holds gs (k+1)) ms' s' a->Az ss ts n ms s st (.holds gs k) ms' s' a
 | hhasno {ms s st gs k}:k<gs.length->(gx gs k).ask=false->Ap n (Cz (Cj ss ts (gx gs k).name))≠(gx gs k).sum->Az ss ts n ms s st (.holds gs k) ms s .no
 | hask {ms s st gs k ms1 s1 d ms' s' a}:k<gs.length->(gx gs k).ask=true->Az ss ts n ms s st (.make (gx gs k).name) ms1 s1 (.ok d)->Ap n (Bp d.c d.t)=(gx gs k).sum->Az ss ts n ms1 s1 st (.holds gs (k+1)) ms' s' a->Az ss ts n ms s st (.holds gs k) ms' s' a
 | haskno {ms s st gs k ms' s' d}:k<gs.length->(gx gs k).ask=true->Az ss ts n ms s st (.make (gx gs k).name) ms' s' (.ok d)->Ap n (Bp d.c d.t)≠(gx gs k).sum->Az ss ts n ms s st (.holds gs k) ms' s' .no
 | haskbad {ms s st gs k ms' s' b}:k<gs.length->(gx gs k).ask=true->Az ss ts n ms s st (.make (gx gs k).name) ms' s' (.bad b)->Az ss ts n ms s st (.holds gs k) ms' s' (.bad b)
 | over {ms s st is ys ls c t m s'}:Ck is ys Mx (.over c t m)->Ez n s is ls c t s' N->Az ss ts n ms s st (.run is ys ls) ms s' (.ok ⟨c,t,ls⟩)
 | overbad {ms s st is ys ls c t m s' b}:Ck is ys Mx (.over c t m)->Ez n s is ls c t s' (M b)->Az ss ts n ms s st (.run is ys ls) ms s' (.bad b)
 | has {ms s st is ys ls nm m ms' s' a}:Ck is ys Mx (.wait false nm m)->Az ss ts n ms s st (.run is (ys++[⟨Cj ss ts nm,0,⟨#[]⟩⟩]) (ls++[⟨nm,false,Cz (Cj ss ts nm)⟩])) ms' s' a->Az ss ts n ms s st (.run is ys ls) ms' s' a
 | asked {ms s st is ys ls nm m ms1 s1 d ms' s' a}:Ck is ys Mx (.wait true nm m)->Az ss ts n ms s st (.make nm) ms1 s1 (.ok d)->Az ss ts n ms1 s1 st (.run is (ys++[Xf ss ts nm d]) (ls++[⟨nm,true,Bp d.c d.t⟩])) ms' s' a->Az ss ts n ms s st (.run is ys ls) ms' s' a
 | askbad {ms s st is ys ls nm m ms' s' b}:Ck is ys Mx (.wait true nm m)->Az ss ts n ms s st (.make nm) ms' s' (.bad b)->Az ss ts n ms s st (.run is ys ls) ms' s' (.bad b)
theorem Az.unique{ss:L S2}{ts:L T2}(hs:Hf (Au ss))(ht:Hf (Aq ts)){ms:Mm}{s:Sb}{st:L By}{j:BJ}{ms1:Mm}{s1:Sb}{a:BA}(h:Az ss ts n ms s st j ms1 s1 a):∀ {ce:Mm} {s2:Sb} {a2:BA},Az ss ts n ms s st j ce s2 a2->ce=ms1/\s2=s1/\a2=a:=by
 induction h with
 | known h1=>
   intro m2 s2 a2 q
   cases q with
   | known k1=>rw[h1]at k1;cases k1;exact⟨rfl,rfl,rfl⟩
   | circle k1=>rw[h1]at k1;cases k1
   | source k1=>rw[h1]at k1;cases k1
   | missing k1=>rw[h1]at k1;cases k1
   | deep k1=>rw[h1]at k1;cases k1
   | made k1=>rw[h1]at k1;cases k1
   | fell k1=>rw[h1]at k1;cases k1
 | circle h1 h2 h3 h4=>
   intro m2 s2 a2 q
   cases q with
   | known k1=>rw[h1]at k1;cases k1
   | circle k1 k2 k3 k4=>
     rename_i i i'
     rcases Nat.lt_trichotomy i i' with e|e|e
     ·exact absurd h3 (k4 _ e)
     ·subst e;exact⟨rfl,rfl,rfl⟩
     ·exact absurd k3 (h4 _ e)
   | source k1 k0=>exact absurd ⟨_,h2,h3⟩ k0
   | missing k1 k0=>exact absurd ⟨_,h2,h3⟩ k0
   | deep k1 k0=>exact absurd ⟨_,h2,h3⟩ k0
   | made k1 k0=>exact absurd ⟨_,h2,h3⟩ k0
   | fell k1 k0=>exact absurd ⟨_,h2,h3⟩ k0
 | source h1 h0 h2 h3=>
   intro m2 s2 a2 q
   cases q with
   | known k1=>rw[h1]at k1;cases k1
   | circle k1 k2 k3=>exact absurd ⟨_,k2,k3⟩ h0
   | source k1 k0 k2 k3=>obtain rfl:=src_inj hs h2 k2 (h3.trans k3.symm);exact⟨rfl,rfl,rfl⟩
   | missing k1 k0 k2=>exact absurd (Or.inl (h3▸Hl h2)) k2
   | deep k1 k0 k2=>exact absurd (h3▸Hl h2) k2
   | made k1 k0 k2=>exact absurd (h3▸Hl h2) k2
   | fell k1 k0 k2=>exact absurd (h3▸Hl h2) k2
 | missing h1 h0 h2=>
   intro m2 s2 a2 q
   cases q with
   | known k1=>rw[h1]at k1;cases k1
   | circle k1 k2 k3=>exact absurd ⟨_,k2,k3⟩ h0
   | source k1 k0 k2 k3=>exact absurd (Or.inl (k3▸Hl k2)) h2
   | missing k1 k0 k2=>exact⟨rfl,rfl,rfl⟩
   | deep k1 k0 k2 k3=>exact absurd (Or.inr k3) h2
   | made k1 k0 k2 k3 k4=>exact absurd (Or.inr (k4▸Ir k3)) h2
   | fell k1 k0 k2 k3 k4=>exact absurd (Or.inr (k4▸Ir k3)) h2
 | deep h1 h0 h2 h3 h4=>
   intro m2 s2 a2 q
   cases q with
   | known k1=>rw[h1]at k1;cases k1
   | circle k1 k2 k3=>exact absurd ⟨_,k2,k3⟩ h0
   | source k1 k0 k2 k3=>exact absurd (k3▸Hl k2) h2
   | missing k1 k0 k2=>exact absurd (Or.inr h3) k2
   | deep k1 k0 k2 k3=>exact⟨rfl,rfl,rfl⟩
   | made k1 k0 k2 k3 k4 k5=>omega
   | fell k1 k0 k2 k3 k4 k5=>omega
 | made h1 h0 h2 h3 h4 h5 _ ih=>
   intro m2 s2 a2 q
   cases q with
   | known k1=>rw[h1]at k1;cases k1
   | circle k1 k2 k3=>exact absurd ⟨_,k2,k3⟩ h0
   | source k1 k0 k2 k3=>exact absurd (k3▸Hl k2) h2
   | missing k1 k0 k2=>exact absurd (Or.inr (h4▸Ir h3)) k2
   | deep k1 k0 k2 k3 k4=>omega
   | made k1 k0 k2 k3 k4 k5 k6=>obtain rfl:=Uf ht h3 k3 (h4.trans k4.symm);obtain⟨rfl,rfl,e⟩:=ih k6;cases e;exact⟨rfl,rfl,rfl⟩
   | fell k1 k0 k2 k3 k4 k5 k6=>obtain rfl:=Uf ht h3 k3 (h4.trans k4.symm);obtain⟨_,_,e⟩:=ih k6;cases e
 | fell h1 h0 h2 h3 h4 h5 _ ih=>
   intro m2 s2 a2 q
   cases q with
   | known k1=>rw[h1]at k1;cases k1
   | circle k1 k2 k3=>exact absurd ⟨_,k2,k3⟩ h0
   | source k1 k0 k2 k3=>exact absurd (k3▸Hl k2) h2
   | missing k1 k0 k2=>exact absurd (Or.inr (h4▸Ir h3)) k2
   | deep k1 k0 k2 k3 k4=>omega
   | made k1 k0 k2 k3 k4 k5 k6=>obtain rfl:=Uf ht h3 k3 (h4.trans k4.symm);obtain⟨_,_,e⟩:=ih k6;cases e
   | fell k1 k0 k2 k3 k4 k5 k6=>obtain rfl:=Uf ht h3 k3 (h4.trans k4.symm);exact ih k6
 | held _ ih=>
   intro m2 s2 a2 q
   cases q with
   | held k1=>obtain⟨rfl,rfl,e⟩:=ih k1;cases e;exact⟨rfl,rfl,rfl⟩
   | tfell k1=>obtain⟨_,_,e⟩:=ih k1;cases e
   | ran k1=>obtain⟨_,_,e⟩:=ih k1;cases e
   | rfell k1=>obtain⟨_,_,e⟩:=ih k1;cases e
 | tfell _ ih=>
   intro m2 s2 a2 q
   cases q with
   | held k1=>obtain⟨_,_,e⟩:=ih k1;cases e
   | tfell k1=>exact ih k1
   | ran k1=>obtain⟨_,_,e⟩:=ih k1;cases e
   | rfell k1=>obtain⟨_,_,e⟩:=ih k1;cases e
 | ran _ _ ih ih2=>
   intro m2 s2 a2 q
   cases q with
   | held k1=>obtain⟨_,_,e⟩:=ih k1;cases e
   | tfell k1=>obtain⟨_,_,e⟩:=ih k1;cases e
   | ran k1 k2=>obtain⟨rfl,rfl,_⟩:=ih k1;obtain⟨rfl,rfl,e⟩:=ih2 k2;cases e;exact⟨rfl,rfl,rfl⟩
   | rfell k1 k2=>obtain⟨rfl,rfl,_⟩:=ih k1;obtain⟨_,_,e⟩:=ih2 k2;cases e
 | rfell _ _ ih ih2=>
   intro m2 s2 a2 q
   cases q with
   | held k1=>obtain⟨_,_,e⟩:=ih k1;cases e
   | tfell k1=>obtain⟨_,_,e⟩:=ih k1;cases e
   | ran k1 k2=>obtain⟨rfl,rfl,_⟩:=ih k1;obtain⟨_,_,e⟩:=ih2 k2;cases e
   | rfell k1 k2=>obtain⟨rfl,rfl,_⟩:=ih k1;exact ih2 k2
 | tend h1=>
   intro m2 s2 a2 q
   cases q with
   | tend k1=>exact⟨rfl,rfl,rfl⟩
   | tother k1=>omega
   | thit k1=>omega
   | tno k1=>omega
   | tbad k1=>omega
 | tother h1 h2 _ ih=>
   intro m2 s2 a2 q
   cases q with
   | tend k1=>omega
   | tother k1 k2 k3=>exact ih k3
   | thit k1 k2=>exact absurd k2 h2
   | tno k1 k2=>exact absurd k2 h2
   | tbad k1 k2=>exact absurd k2 h2
 | thit h1 h2 _ ih=>
   intro m2 s2 a2 q
   cases q with
   | tend k1=>omega
   | tother k1 k2=>exact absurd h2 k2
   | thit k1 k2 k3=>obtain⟨rfl,rfl,_⟩:=ih k3;exact⟨rfl,rfl,rfl⟩
   | tno k1 k2 k3=>obtain⟨_,_,e⟩:=ih k3;cases e
   | tbad k1 k2 k3=>obtain⟨_,_,e⟩:=ih k3;cases e
 | tno h1 h2 _ _ ih ih2=>
   intro m2 s2 a2 q
   cases q with
   | tend k1=>omega
   | tother k1 k2=>exact absurd h2 k2
   | thit k1 k2 k3=>obtain⟨_,_,e⟩:=ih k3;cases e
   | tno k1 k2 k3 k4=>obtain⟨rfl,rfl,_⟩:=ih k3;exact ih2 k4
   | tbad k1 k2 k3=>obtain⟨_,_,e⟩:=ih k3;cases e
 | tbad h1 h2 _ ih=>
   intro m2 s2 a2 q
   cases q with
   | tend k1=>omega
   | tother k1 k2=>exact absurd h2 k2
   | thit k1 k2 k3=>obtain⟨_,_,e⟩:=ih k3;cases e
   | tno k1 k2 k3=>obtain⟨_,_,e⟩:=ih k3;cases e
   | tbad k1 k2 k3=>exact ih k3
 | hend h1=>
   intro m2 s2 a2 q
   cases q with
   | hend k1=>exact⟨rfl,rfl,rfl⟩
   | hhas k1=>omega
   | hhasno k1=>omega
   | hask k1=>omega
   | haskno k1=>omega
   | haskbad k1=>omega
 | hhas h1 h2 h3 _ ih=>
   intro m2 s2 a2 q
   cases q with
   | hend k1=>omega
   | hhas k1 k2 k3 k4=>exact ih k4
   | hhasno k1 k2 k3=>exact absurd h3 k3
   | hask k1 k2=>rw[h2]at k2;cases k2
   | haskno k1 k2=>rw[h2]at k2;cases k2
   | haskbad k1 k2=>rw[h2]at k2;cases k2
 | hhasno h1 h2 h3=>
   intro m2 s2 a2 q
   cases q with
   | hend k1=>omega
   | hhas k1 k2 k3 k4=>exact absurd k3 h3
   | hhasno k1 k2 k3=>exact⟨rfl,rfl,rfl⟩
   | hask k1 k2=>rw[h2]at k2;cases k2
   | haskno k1 k2=>rw[h2]at k2;cases k2
   | haskbad k1 k2=>rw[h2]at k2;cases k2
 | hask h1 h2 _ h4 _ ih ih2=>
   intro m2 s2 a2 q
   cases q with
   | hend k1=>omega
   | hhas k1 k2=>rw[h2]at k2;cases k2
   | hhasno k1 k2=>rw[h2]at k2;cases k2
   | hask k1 k2 k3 k4 k5=>obtain⟨rfl,rfl,e⟩:=ih k3;cases e;exact ih2 k5
   | haskno k1 k2 k3 k4=>obtain⟨rfl,rfl,e⟩:=ih k3;cases e;exact absurd h4 k4
   | haskbad k1 k2 k3=>obtain⟨_,_,e⟩:=ih k3;cases e
 | haskno h1 h2 _ h4 ih=>
   intro m2 s2 a2 q
   cases q with
   | hend k1=>omega
   | hhas k1 k2=>rw[h2]at k2;cases k2
   | hhasno k1 k2=>rw[h2]at k2;cases k2
   | hask k1 k2 k3 k4 k5=>obtain⟨rfl,rfl,e⟩:=ih k3;cases e;exact absurd k4 h4
   | haskno k1 k2 k3 k4=>obtain⟨rfl,rfl,e⟩:=ih k3;exact⟨rfl,rfl,rfl⟩
   | haskbad k1 k2 k3=>obtain⟨_,_,e⟩:=ih k3;cases e
 | haskbad h1 h2 _ ih=>
   intro m2 s2 a2 q
   cases q with
   | hend k1=>omega
   | hhas k1 k2=>rw[h2]at k2;cases k2
   | hhasno k1 k2=>rw[h2]at k2;cases k2
   | hask k1 k2 k3 k4 k5=>obtain⟨_,_,e⟩:=ih k3;cases e
   | haskno k1 k2 k3 k4=>obtain⟨_,_,e⟩:=ih k3;cases e
   | haskbad k1 k2 k3=>exact ih k3
 | over h1 h2=>
   intro m2 s2 a2 q
   cases q with
   | over k1 k2=>cases Ck.unique h1 k1;obtain⟨rfl,_⟩:=h2.uniq k2;exact⟨rfl,rfl,rfl⟩
   | overbad k1 k2=>cases Ck.unique h1 k1;obtain⟨_,e⟩:=h2.uniq k2;cases e
   | has k1=>cases Ck.unique h1 k1
   | asked k1=>cases Ck.unique h1 k1
   | askbad k1=>cases Ck.unique h1 k1
 | overbad h1 h2=>
   intro m2 s2 a2 q
   cases q with
   | over k1 k2=>cases Ck.unique h1 k1;obtain⟨_,e⟩:=h2.uniq k2;cases e
   | overbad k1 k2=>cases Ck.unique h1 k1;obtain⟨rfl,e⟩:=h2.uniq k2;cases e;exact⟨rfl,rfl,rfl⟩
   | has k1=>cases Ck.unique h1 k1
   | asked k1=>cases Ck.unique h1 k1
   | askbad k1=>cases Ck.unique h1 k1
 | has h1 _ ih=>
   intro m2 s2 a2 q
   cases q with
   | over k1=>cases Ck.unique h1 k1
   | overbad k1=>cases Ck.unique h1 k1
   | has k1 k2=>cases Ck.unique h1 k1;exact ih k2
   | asked k1=>cases Ck.unique h1 k1
   | askbad k1=>cases Ck.unique h1 k1
 | asked h1 _ _ ih ih2=>
   intro m2 s2 a2 q
   cases q with
   | over k1=>cases Ck.unique h1 k1
   | overbad k1=>cases Ck.unique h1 k1
   | has k1=>cases Ck.unique h1 k1
   | asked k1 k2 k3=>cases Ck.unique h1 k1;obtain⟨rfl,rfl,e⟩:=ih k2;cases e;exact ih2 k3
   | askbad k1 k2=>cases Ck.unique h1 k1;obtain⟨_,_,e⟩:=ih k2;cases e
 | askbad h1 _ ih=>
   intro m2 s2 a2 q
   cases q with
   | over k1=>cases Ck.unique h1 k1
   | overbad k1=>cases Ck.unique h1 k1
   | has k1=>cases Ck.unique h1 k1
   | asked k1 k2 k3=>cases Ck.unique h1 k1;obtain⟨_,_,e⟩:=ih k2;cases e
   | askbad k1 k2=>cases Ck.unique h1 k1;exact ih k2
structure Dn (B:X) (AM X':X->Prop) (w w':E):Prop where
 bel:Below B w w'
 keep:∀b,b<w.heap.size->¬ AM b->w'.heap[b]?=w.heap[b]?
 new:∀b,X' b->AM b\/w.heap.size<=b
theorem Dn.no{B:X}(h:Dn B AM X' w w'){b:X}(hb:b<w.heap.size)(hx:¬ AM b):¬ X' b:=λk=>by
 rcases h.new b k with q|q
 ·exact hx q
 ·omega
theorem Dn.trans{B:X}{X'':X->Prop}{w1 w2:E}(h:Dn B AM X' w w1)(k:Dn B X' X'' w1 w2):Dn B AM X'' w w2:=by
 have hs:=h.bel.size;refine⟨h.bel.trans k.bel,λb hb hx=>(k.keep b qg (h.no hb hx)).trans (h.keep b hb hx),λb hb=>?_⟩
 rcases k.new b hb with q|q
 ·exact h.new b q
 ·right;omega
theorem Dn.refl{B:X}(w:E):Dn B AM AM w w:=⟨Below.refl _ _,λ_ _ _=>rfl,λ_ h=>Or.inl h⟩
theorem Dn.of_below{B:X}(h:Bw w w')(hB:B<=w.heap.size):Dn B AM AM w w':=⟨h.mono hB,λb hb _=>h.block b hb,λ_ h=>Or.inl h⟩
theorem Dn.blk{B:X}(h:Dn B AM X' w w'){b:X}{o:Obj}(hb:w.heap[b]?=M o)(hx:¬ AM b):w'.heap[b]?=M o:=(h.keep b (Ag hb) hx).trans hb
theorem Dn.own{B:X}(h:Dn B AM X' w w'){B':X}{xs:L Z}(ho:w.ownsRow B' e sz u n xs)(hx:∀b,u.ownBlock=M b->¬ AM b):w'.ownsRow B' e sz u n xs:=An ho λb e=>h.keep b (ho.lt b e).2 (hx b e)
structure Hv where
 tx:Z
 qv:Z
 mv:Z
 kv:Z
 nv:Z
 ev:Z
 u:L X
def Cx(h:X)(v:Hv)(b:X):Prop:=b=h\/v.qv.ownBlock=M b\/v.mv.ownBlock=M b\/v.kv.ownBlock=M b\/v.nv.ownBlock=M b\/v.ev.ownBlock=M b
def mm(ms:Mm)(i:X):By×Md:=ms.getD i (⟨#[]⟩,⟨0,⟨#[]⟩,[]⟩)
def FilM(ms:Mm)(xs:L Z):Prop:=∀i,i<ms.length->xs[i*5]?=M (S (mm ms i).1)/\xs[i*5+1]?=M (I (mm ms i).2.c)/\xs[i*5+2]?=M (S (mm ms i).2.t)/\xs[i*5+3]?=M nS/\∃r,xs[i*5+4]?=M (I r)
theorem mm_lt{ms:Mm}{e:By×Md}{i:X}(h:i<ms.length):mm (ms++[e]) i=mm ms i:=by
 unfold mm;rw[gG,List.getElem?_append_left h,gG]
theorem mm_at(ms:Mm)(e:By×Md):mm (ms++[e]) ms.length=e:=by
 unfold mm;rw[gG,List.getElem?_append_right (Nat.le_refl _)];simp
def RecM(m:X)(xs:L Z)(us u:L X):Prop:=∃rs:L Int,rs.length=m/\(∀i,i<m->xs[i*5+4]?=M (I (rs.getD i 0)))/\us=(rs.filter λr=>decide (0<=r)).map Int.toNat++u
theorem RecM.app{m:X}{xs:L Z}{u:L X}(h:RecM m xs us u)(x:L X):RecM m xs (us++x) (u++x):=by
 obtain⟨rs,h1,h2,h3⟩:=h;exact⟨rs,h1,h2,by rw[h3,List.append_assoc]⟩
theorem RecM.snoc{m:X}{xs:L Z}{u:L X}(h:RecM m xs us u)(hl:xs.length=m*5)(a b c d:Z)(r:Int)(hu:u=if 0<=r then [r.toNat] else []):RecM (m+1) (xs++[a,b,c,d,I r]) us []:=by
 obtain⟨rs,h1,h2,h3⟩:=h;refine⟨rs++[r],by simp[h1],λi hi=>?_,?_⟩
 ·rcases Nat.lt_or_ge i m with k|k
  ·rw[List.getElem?_append_left qg,h2 i k,gG,gG,List.getElem?_append_left qg]
  ·obtain rfl:i=m:=qg
   rw[List.getElem?_append_right qg,show i*5+4-xs.length=4 from qg,gG,List.getElem?_append_right qg,h1];simp
 ·rw[h3,hu,List.filter_append,List.map_append]
  by_cases q:0<=r<;>simp[q]
theorem FilM.snoc{ms:Mm}{xs:L Z}(h:FilM ms xs)(hl:xs.length=ms.length*5)(nm:By)(d:Md)(r:Int):FilM (ms++[(nm,d)]) (xs++[S nm,I d.c,S d.t,nS,I r]):=by
 intro i hi;rw[List.length_append,List.length_singleton]at hi
 rcases Nat.lt_or_ge i ms.length with k|k
 ·obtain⟨a,b,c,e,q,f⟩:=h i k
  rw[mm_lt k];refine⟨?_,?_,?_,?_,q,?_⟩<;>rw[List.getElem?_append_left qg]<;>assumption
 ·obtain rfl:i=ms.length:=qg
  rw[mm_at];refine⟨?_,?_,?_,?_,r,?_⟩
  ·rw[List.getElem?_append_right qg,show ms.length*5-xs.length=0 from qg];rfl
  ·rw[List.getElem?_append_right qg,show ms.length*5+1-xs.length=1 from qg];rfl
  ·rw[List.getElem?_append_right qg,show ms.length*5+2-xs.length=2 from qg];rfl
  ·rw[List.getElem?_append_right qg,show ms.length*5+3-xs.length=3 from qg];rfl
  ·rw[List.getElem?_append_right qg,show ms.length*5+4-xs.length=4 from qg];rfl
structure Dv (w:E) (B:X) (v:Z) (R:L T3) (xs:L Z) (cv lv:X->Z):Prop where
 row:w.ownsRow B 73 3 v R.length xs
 fil:∀i,i<R.length->xs[i*3]?=M (cv i)/\xs[i*3+1]?=M (lv i)/\xs[i*3+2]?=M (S (qx R i).out)
 code:∀i,i<R.length->∃ys,w.ownsRow B 174 3 (cv i) (qx R i).code.length ys/\Cs (qx R i).code (qx R i).code.length ys
 look:∀i,i<R.length->∃ys,w.ownsRow B 115 3 (lv i) (qx R i).looks.length ys/\Bx (qx R i).looks (qx R i).looks.length ys
 apc:∀i j,i<j->j<R.length->∀b,(cv i).ownBlock=M b->(cv j).ownBlock≠M b
 apl:∀i j,i<j->j<R.length->∀b,(lv i).ownBlock=M b->(lv j).ownBlock≠M b
def Eo(w:E)(B:X)(v:Z)(R:L T3):Prop:=∃xs cv lv,Dv w B v R xs cv lv
theorem Al{B:X}{xs:L Z}(h:w.ownsRow B e sz v n xs):∃a cap,v=J a n cap:=by
 rcases h.2 with⟨e,h0⟩|⟨g,c,cur,e,_⟩
 ·exact qeb
 ·exact⟨_,c,e⟩
theorem Qh{B:X}{is:L I3}{ys:L Z}(h:w.ownsRow B 174 3 v is.length ys)(hf:Cs is is.length ys):∃a cap,v=J a is.length cap/\Cn w a is:=by
 have h':=h
 rcases h.2 with⟨e,h0⟩|⟨g,c,cur,e,_⟩
 ·exact⟨N,0,by rw[e,h0],λi hi=>qg⟩
 ·rw[e]at h'
  exact⟨_,c,e,row3_own rfl h' hf⟩
theorem Gl{B T:X}{gs:L G3}{ys:L Z}(h:w.ownsRow B T 3 v gs.length ys)(hf:Bx gs gs.length ys):∃a cap,v=J a gs.length cap/\Gf w a gs:=by
 have h':=h
 rcases h.2 with⟨e,h0⟩|⟨g,c,cur,e,_⟩
 ·exact⟨N,0,by rw[e,h0],λi hi=>qg⟩
 ·rw[e]at h'
  exact⟨_,c,e,rowG_own rfl h' hf⟩
theorem Cv{B:X}{a:Option Addr}{xs:L Z}(h:w.ownsRow B e sz (J a n cap) n xs)(hj:xs[j]?=M u):∃b,a=p_ b/\w.cell? ⟨b,j,N⟩=M u:=by
 rcases h.2 with⟨e,h0⟩|⟨g,c,cur,e,hg,hh,h1,h2,h3,h4⟩
 ·have:=h.1
  rw[h0,Nat.zero_mul]at this;rw[List.eq_nil_of_length_eq_zero this]at hj;simp at hj
 ·cases e
  refine⟨g,rfl,?_⟩;rw[cH hh,←Array.getElem?_toList];rw[←h4,List.getElem?_take]at hj
  split at hj
  ·exact hj
  ·cases hj
theorem Eo.at{B:X}{a:Option Addr}{R:L T3}(h:Eo w B (J a R.length cap) R){i:X}(hi:i<R.length):∃b ca cc la lc,a=p_ b/\w.cell? ⟨b,i*3,N⟩=M (J ca (qx R i).code.length cc)/\w.cell? ⟨b,i*3+1,N⟩=M (J la (qx R i).looks.length lc)/\w.cell? ⟨b,i*3+2,N⟩=M (S (qx R i).out)/\Cn w ca (qx R i).code/\Gf w la (qx R i).looks:=by
 obtain⟨xs,cv,lv,h⟩:=h;obtain⟨f1,f2,f3⟩:=h.fil i hi;obtain⟨ys,k1,k2⟩:=h.code i hi;obtain⟨zs,l1,l2⟩:=h.look i hi;obtain⟨ca,cc,e1,r1⟩:=Qh k1 k2;obtain⟨la,lc,e2,r2⟩:=Gl l1 l2;rw[e1]at f1;rw[e2]at f2;obtain⟨b,rfl,c1⟩:=Cv h.row f1;obtain⟨b',q,c2⟩:=Cv h.row f2;cases q;obtain⟨b',q,c3⟩:=Cv h.row f3;cases q;exact⟨b,ca,cc,la,lc,rfl,c1,c2,c3,r1,r2⟩
structure Gd (B h:X) (sv tv:Z) (n:X) (w:E) (ms:Mm) (s:Sb) (st:L By) (v:Hv):Prop where
 hB:B<=h
 blk:w.heap[h]?=M (O #[sv,tv,I n,v.tx,v.qv,v.mv,v.kv,v.nv,v.ev,F false,I 0,ze,nS,I 0,nS,nS,nS,nS,ze,ze] 63 (0,0))
 txt:w.ownsRow B 9 1 v.tx s.T.length (Ar s.T)
 rcs:Eo w B v.qv s.R
 made:∃xs,w.ownsRow B 67 5 v.mv ms.length xs/\FilM ms xs/\RecM ms.length xs s.us v.u
 stk:w.ownsRow B 9 1 v.kv st.length (Ar st)
 ran:w.ownsRow B 9 1 v.nv s.ran.length (Ar s.ran)
 held:w.ownsRow B 9 1 v.ev s.held.length (Ar s.held)
 txa:∃g p,v.tx=J (p_ g) s.T.length p
 tk:∀b,v.tx.ownBlock=M b->v.kv.ownBlock≠M b/\v.nv.ownBlock≠M b/\v.ev.ownBlock≠M b
 kn:∀b,v.kv.ownBlock=M b->v.nv.ownBlock≠M b/\v.ev.ownBlock≠M b
 ne:∀b,v.nv.ownBlock=M b->v.ev.ownBlock≠M b
def Ot(B:X)(w:E)(b:Gi)(e:L Z):Prop:=
 match b with
 | .circle ch=>∃cv,w.ownsRow B 9 1 cv ch.length (Ar ch)/\e=[I 6,ze,cv,I 0,nS,nS,nS,nS,ze,ze]
 | .deep nm=>e=[I 7,S nm,nS,I 0,nS,nS,nS,nS,ze,ze]
 | .clash A B=>e=[I 10,ze,nS,I 0,nS,nS,nS,nS,S A,S B]
 | .full=>e=[I 11,ze,nS,I 0,nS,nS,nS,nS,ze,ze]
def Hx:Gi->Int
 | .circle _=>6
 | .deep _=>7
 | .clash _ _=>10
 | .full=>11
def ownD(h:X)(nv:Z)(b:X):Prop:=b=h\/nv.ownBlock=M b
def DeadR(B k:X)(nv:Z)(w:E)(pre e:L Z):Prop:=pre[7]?=M nv/\(∃xs:L By,w.ownsRow B 9 1 nv xs.length (Ar xs)/\xs.length+k<=1000)/\∀u b,e[2]?=M u->u.ownBlock=M b->nv.ownBlock≠M b
def Gj(B h k:X)(nv:Z)(w:E)(b:Gi):Prop:=∃pre e,pre.length=9/\w.heap[h]?=M (O ((pre++[Value.bool true]++e).toArray) 63 (0,0))/\Ot B w b e/\DeadR B k nv w pre e
theorem Ot.code{B:X}{b:Gi}{e:L Z}(h:Ot B w b e):e.length=10/\e[0]?=M (I (Hx b)):=by
 cases b with
 | circle ch=>obtain⟨cv,_,rfl⟩:=h;exact⟨rfl,rfl⟩
 | deep nm=>cases h;exact⟨rfl,rfl⟩
 | clash A B=>cases h;exact⟨rfl,rfl⟩
 | full=>cases h;exact⟨rfl,rfl⟩
theorem Gj.cells{B m:X}{b:Gi}(k:Gj B h m nv w b):w.cell? ⟨h,9,N⟩=M (F true)/\w.cell? ⟨h,10,N⟩=M (I (Hx b))/\h<w.heap.size:=by
 obtain⟨pre,e,hl,hb,he,_⟩:=k;obtain⟨e1,e2⟩:=he.code;refine⟨?_,?_,Ag hb⟩
 ·rw[cH hb]
  simp[List.getElem?_append,hl]
 ·rw[cH hb]
  simp[List.getElem?_append,hl,e2]
theorem Gj.frx{B m:X}{b:Gi}(k:Gj B h m nv w b)(hb:Bw w w'):Gj B h m nv w' b:=by
 obtain⟨pre,e,hl,hk,he,d1,⟨xs,d2,d4⟩,d3⟩:=k;refine⟨pre,e,hl,Af hk hb,?_,d1,⟨xs,Ad d2 hb,d4⟩,d3⟩
 cases b with
 | circle ch=>obtain⟨cv,h1,h2⟩:=he;exact⟨cv,Ad h1 hb,h2⟩
 | deep nm=>exact he
 | clash A B=>exact he
 | full=>exact he
theorem Gd.pend{B:X}{ms:Mm}{s:Sb}{st:L By}{v:Hv}(k:Gd B h sv tv n w ms s st v)(x:L X):Gd B h sv tv n w ms ⟨s.T,s.R,s.ran,s.held,s.us++x⟩ st ⟨v.tx,v.qv,v.mv,v.kv,v.nv,v.ev,v.u++x⟩:=by
 obtain⟨xs,m1,m2⟩:=k.made;exact⟨k.hB,k.blk,k.txt,k.rcs,⟨xs,m1,m2.1,m2.2.app x⟩,k.stk,k.ran,k.held,k.txa,k.tk,k.kn,k.ne⟩
theorem Gd.bl{B:X}{ms:Mm}{s:Sb}{st:L By}{v:Hv}(k:Gd B h sv tv n w ms s st v)(hb:Bw w w'):Gd B h sv tv n w' ms s st v:=by
 obtain⟨xs,m1,m2⟩:=k.made;refine⟨k.hB,Af k.blk hb,Ad k.txt hb,?_,⟨xs,Ad m1 hb,m2⟩,Ad k.stk hb,Ad k.ran hb,Ad k.held hb,k.txa,k.tk,k.kn,k.ne⟩;obtain⟨xs,cv,lv,r⟩:=k.rcs;exact⟨xs,cv,lv,Ad r.row hb,r.fil,λi hi=>by obtain⟨ys,a,b⟩:=r.code i hi;exact⟨ys,Ad a hb,b⟩,λi hi=>by obtain⟨ys,a,b⟩:=r.look i hi;exact⟨ys,Ad a hb,b⟩,r.apc,r.apl⟩
theorem Gd.not{B:X}{ms:Mm}{s:Sb}{st:L By}{v:Hv}(k:Gd B h sv tv n w ms s st v){b:X}(hb:w.heap.size<=b):¬ Cx h v b:=by
 have h0:=Ag k.blk;obtain⟨xs,m1,m2⟩:=k.made;obtain⟨ys,cv,lv,r⟩:=k.rcs;rintro(e|e|e|e|e|e)
 ·omega
 ·have:=(r.row.lt b e).2;omega
 ·have:=(m1.lt b e).2;omega
 ·have:=(k.stk.lt b e).2;omega
 ·have:=(k.ran.lt b e).2;omega
 ·have:=(k.held.lt b e).2;omega
end Go.Proofs.YtnflkpmmfpfhlaaGreatDoor
