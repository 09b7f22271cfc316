import Derived.Test.YtbkkjodaaijimaaGreatDoorVsB
import Derived.Test.YtbkkjodaaijimaaGreatDoorVsC
namespace Go.Proofs.YtbkkjodaaijimaaGreatDoor
open Value renaming slice->J,string->S,bool->F,agg->G
open Option renaming some->M,none->N
open Obj renaming cells->O
open Go renaming Value->Z,World->E
open Ending renaming returned->H
open _root_ renaming List->L,Nat->X
set_option maxHeartbeats 4000000
set_option maxRecDepth 100000
open _root_.Go.Proofs.Tryz Go.RowKit Go.Deep
set_option linter.unusedVariables false
set_option linter.unusedSimpArgs false
variable {k P:X} {ys xs:L Z} {w W w':E} {s1:Z}
def Hg(n:X)(s:G3):G3:=⟨s.name,s.ask,Av n s.sum⟩
theorem gx_map(n:X)(ls:L G3)(k:X)(h:k<ls.length):gx (ls.map (Hg n)) k=Hg n (gx ls k):=by
 unfold gx;exact qkz
def RecOwn(B:X)(w:E)(v1 v2:Z)(is:L I3)(gs:L G3):Prop:=
 ∃xs ys,w.ownsRow B 143 3 v1 is.length xs∧Ck is is.length xs∧w.ownsRow B 145 3 v2 gs.length ys∧Bk gs gs.length ys
theorem filledG_add{gs:L G3}(h:Bk gs k ys)(hl:ys.length=k*3):Bk gs (k+1) (ys++[S (gx gs k).name,F (gx gs k).ask,S (gx gs k).sum]):=by
 intro i hi
 rcases Nat.lt_or_ge i k with hk|hk
 ·obtain⟨h1,h2,h3⟩:=h i hk
  rw[List.getElem?_append_left qb,List.getElem?_append_left qb,List.getElem?_append_left qb];exact⟨h1,h2,h3⟩
 ·obtain rfl:i=k:=qb
  rw[List.getElem?_append_right qb,List.getElem?_append_right qb,List.getElem?_append_right qb,hl,Nat.sub_self,show i*3+1-i*3=1 from qb,show i*3+2-i*3=2 from qb];exact⟨rfl,rfl,rfl⟩
theorem Tryz.info131b:(prog.info? 145).map (λi=>(i.zero,i.size,i.bytes))=M (M (G #[ze,F false,ze]),3,40):=qi
theorem Fu{b:X}{o:Obj}(h:w.heap[b]?=M o):b<w.heap.size:=by
 rcases Nat.lt_or_ge b w.heap.size with h'|h'
 ·exact h'
 ·rw[Array.getElem?_eq_none h']at h;cases h
theorem Nt(w:E)(o:Obj):(w.alloc o).heap[w.heap.size]?=M o:=qeb
theorem Wk{s x:Operand}{ops:Array Oper}{o:Oper}{a:Act}{K:Act→E→Prop}{Q:Exit→Act→E→Prop}{AF:Prop}(ri:o.guard=N)(ho:o.op=.call { callee:=.builtin .append,args:=#[s,x],argTypes:=#[92,92] })(B:X)(v:Z)(nn:X)(xs:L Z)(hs:a.eval s=v)(ah:W.ownsRow B 145 3 v nn xs)(d:X)(t:By)(q:Bool)(u:By)(hx:a.eval x=J (p_ d) 1 1)(hc:W.heap[d]?=M (O #[S t,F q,S u] 145 (0,0)))(hB:B≤W.heap.size)(hn:nn≤200)(h:∀g' ai w',w'.ownsRow B 145 3 (J (p_ g') (nn+1) ai) (nn+1) (xs++[S t,F q,S u])→W.grownBy w' v.ownBlock→K (a.put o.dst (J (p_ g') (nn+1) ai)) w'):if Region.wanted o (yielded ops a.tmps)=true then Oper.wp prog o a W K Q else AF:=by
 obtain⟨i0,hi,bq,bg,bv⟩:=info_parts Tryz.info131b
 refine step_append_lies (w:=W) ri s x 92 ho B 145 i0 (G #[ze,F false,ze]) 3 40 underlying92 hi bq bg bv rfl qd _ nn xs hs ah ⟨d,0,N⟩ 1 1 [S t,F q,S u] hx rfl
  (World.news_of_block (cs:=#[S t,F q,S u]) (t:=145) (fr:=(0,0)) hc) (by intro u hu;simp at hu;rcases hu with rfl|rfl|rfl<;>rfl) qb qm qb hB W.heap.size rfl ?_
 exact qdi
structure NS (w:E) (P:X) (s1 v:Z) (sm:By) (k:X) (gs:L G3):Prop where
 blk:w.heap[P]?=M (O #[s1,v,S sm] 94 (0,0))
 own:∃ys,w.ownsRow (P+1) 145 3 v k ys∧Bk gs k ys
theorem NS.cell{v:Z}{sm:By}{gs:L G3}(h:NS w P s1 v sm k gs):w.cell? ⟨P,0,N⟩=M s1∧w.cell? ⟨P,1,N⟩=M v∧w.cell? ⟨P,2,N⟩=M (S sm):=
 ⟨qgm,qgm,qgm⟩
theorem NS.bl{v:Z}{sm:By}{gs:L G3}(h:NS w P s1 v sm k gs)(hb:Bw w w'):NS w' P s1 v sm k gs:=by
 obtain⟨ys,h1,h2⟩:=h.own;exact⟨by rw[hb.block P (Fu h.blk)];exact h.blk,ys,Ab h1 hb,h2⟩
theorem NS.put{v nv:Z}{sm:By}{gs:L G3}{zs:L Z}(hb:W.heap[P]?=M (O #[s1,v,S sm] 94 (0,0)))(ho:W.ownsRow (P+1) 145 3 v k xs)(hg:W.grownBy w' v.ownBlock)(hn:w'.ownsRow (P+1) 145 3 nv (k+1) zs)(hf:Bk gs (k+1) zs):NS (w'.setCell ⟨P,1,N⟩ nv) P s1 nv sm (k+1) gs:=by
 have hbk:w'.heap[P]?=M (O #[s1,v,S sm] 94 (0,0)):=by
  rw[hg.block P (Fu hb) (λe=>by have:=(ho.lt P e.symm).1;omega)];exact hb
 refine⟨?_,zs,?_,hf⟩
 ·rw[jB hbk];rfl
 ·refine⟨hn.1,?_⟩
  rcases hn.2 with h2|⟨g,cap,cur,hv,F5,hh,r⟩
  ·exact Or.inl h2
  ·refine Or.inr ⟨g,cap,cur,hv,F5,?_,r⟩
   rw[hC w' ⟨P,1,N⟩ nv g (by intro e;simp at e;omega)];exact hh
theorem Ni{p:Addr}{v:Z}{o:Obj}(h:w.cell? p=M v):(w.alloc o).cell? p=M v:=qfp
theorem Jk{B e sz n:X}{v:Z}(h:w.ownsRow B e sz v n xs){r j:X}(hr:∀b,v.ownBlock=M b→b≠r)(u:Z):(w.setCell ⟨r,j,N⟩ u).ownsRow B e sz v n xs:=
 own_keep (ob:=M r) h (λb _ hne=>hC w ⟨r,j,N⟩ u b (λe=>hne (by rw[e]))) (λb hb e=>hr b hb (Option.some.inj e))
theorem NS.add{w6 w7:E}{g' ai:X}{v:Z}{sm:By}{gs:L G3}{o:Obj}{t u:By}{q:Bool}(h:NS W P s1 v sm k gs)(hy:W.ownsRow (P+1) 145 3 v k ys)(hf:Bk gs k ys)(hb:Bw W w6)(hg:(w6.alloc o).grownBy w7 v.ownBlock)(hn:w7.ownsRow (P+1) 145 3 (J (p_ g') (k+1) ai) (k+1) (ys++[S t,F q,S u]))(hG:gx gs k=⟨t,q,u⟩):NS (w7.setCell ⟨P,1,N⟩ (J (p_ g') (k+1) ai)) P s1 (J (p_ g') (k+1) ai) sm (k+1) gs:=by
 have h6:=h.bl hb;have sr:=filledG_add hf hy.1;rw[hG]at sr;exact NS.put (by rw[Lib.alloc_old _ _ _ (Fu h6.blk)];exact h6.blk) ((Ab hy hb).alloc _) hg hn sr
theorem Vs(a la ca:Option Addr)(ac lc cc:X)(is:L I3)(ls:L G3)(c:Int)(t:By)(nc:X)(n:X)(out:By)(w:E)(hT:Kd w)(hr:Bu w a is)(hlr:Fr w la ls)(hl:is.length≤1048576)(hx:∀i,(ix is i).text.size≤9223372036854775807)(hls:ls.length≤200)(HF:Hd (∀(a:Option Addr)(cap:X)(w:E),Calls prog 167 #[G #[I c,S t,J a nc cap]] w λe w'=>e=H (S out)∧Bw w w'))(hp:Au is=true)(h1:1≤n)(h2:n≤8)(ho:out≠⟨#[]⟩)(hos:out.size≤2002)(I7:∀i,i<ls.length→(gx ls i).sum.size≤1048576)(cm:∀i,(gx ls i).name.size≤9223372036854775807):Calls prog 168 #[G #[J a is.length ac],J la ls.length lc,G #[I c,S t,J ca nc cc],I n] w λe w'=>Bw w w'∧(((∀i,i<ls.length→Ar (gx ls i).name)∧∃v1 v2,e=H (G #[v1,v2,S (Av n out)])∧RecOwn w.heap.size w' v1 v2 is (ls.map (Hg n)))∨((∃i,i<ls.length∧¬ Ar (gx ls i).name)∧e=H (G #[nS,nS,ze]))):=by
 have zq:1≤is.length:=by
  exact qmm
 have hoe:out.toList.isEmpty=false:=by
  exact qkg
 have ak:Bw w (((w.alloc (O #[J a is.length ac] 91)).alloc (O #[I c,S t,J ca nc cc] 120)).alloc (O #[nS,nS,ze] 94)):=((aN _ _).alloc qg _).alloc qh _;go_enter func168,ntmps168;go_wp2_with fail;refine(HF.o _ _ _).mono ?_;rintro e w1 ⟨rfl,af⟩;have bh:=bt ak af;have p0:w1.cell? ⟨w.heap.size,0,N⟩=M (J a is.length ac):=Aa af qk
 have kb:w1.heap[w.heap.size+1+1]?=M (O #[nS,nS,ze] 94 (0,0)):=by
  exact qhv
 clear ak af;go_wp2_with fail;refine(Kt a ac is _ (hT.bl bh) (hr.bl bh) hl hx).mono ?_;rintro e w2 ⟨ag,rfl⟩;have be:=bt bh ag;have q0:=Aa ag p0;have kb2:w2.heap[w.heap.size+1+1]?=M (O #[nS,nS,ze] 94 (0,0)):=by rw[ag.block _ (Fu kb)];exact kb
 have d9:w.heap.size+1+1<w2.heap.size:=Fu kb2;rw[hp];clear bh p0 kb ag
 go_wp2_with (first|(go_at_call 137;refine(Jl n _ qb qb).mono ?_;rintro e w9 ⟨rfl,rfl⟩))
 refine(Sq a ac is _ (hr.bl be) zq hl).mono ?_;rintro e w3 ⟨ba,g,cp,rfl,ah⟩;have ij:=bt be ba;have kb3:w3.heap[w.heap.size+1+1]?=M (O #[nS,nS,ze] 94 (0,0)):=by rw[ba.block _ (Fu kb2)];exact kb2
 have G9:Hd (w3.ownsRow w2.heap.size 143 3 (J (p_ g) is.length cp) is.length (Di is)):=ah;clear be q0 kb2 ba ah;go_wp2_with fail;refine(Ir out n _ qb h1 h2).mono ?_;rintro e w4 ⟨rfl,co⟩;have ii:=bt ij co;have kb4:w4.heap[w.heap.size+1+1]?=M (O #[nS,nS,ze] 94 (0,0)):=by rw[co.block _ (Fu kb3)];exact kb3
 have tu:Hd (w4.ownsRow w2.heap.size 143 3 (J (p_ g) is.length cp) is.length (Di is)):=Ab G9.o co;clear ij kb3 co G9;obtain⟨sm,esm⟩:=Aj (Av n out);have ESM:Hd (Av n out=sm):=esm;rw[show(⟨(Ib (Ci out.data.toList) n).toArray⟩:By)=sm from esm];clear esm;obtain⟨P,eP⟩:=Aj w4.heap.size;obtain⟨w5,Q8⟩:=Aj (w4.alloc (O #[J (p_ g) is.length cp,nS,S sm] 94));have hw5:w5.heap.size=P+1:=by rw[←Q8,←eP];simp
 have B4:Hd (NS w5 P (J (p_ g) is.length cp) nS sm 0 (ls.map (Hg n))):=by
  exact qlp
 have yj:Bw w w5:=by rw[←Q8];exact ii.alloc ii.size _
 have hwP:w.heap.size+1+1<P:=by rw[←eP];exact Fu kb4
 have KB5:Hd (w5.heap[w.heap.size+1+1]?=M (O #[nS,nS,ze] 94 (0,0))):=by show _=_;rw[←Q8,Lib.alloc_old _ _ _ qb];exact kb4
 have K6:Hd (w5.ownsRow w.heap.size 143 3 (J (p_ g) is.length cp) is.length (Di is)):=by show World.ownsRow _ _ _ _ _ _ _;rw[←Q8];exact Ah (tu.o.alloc _) qb
 have hgR:w.heap.size+1+1<g:=zo ((tu.o.lt g rfl).1);have hgP:g<P:=by rw[←eP];exact(tu.o.lt g rfl).2
 go_wp2;clear Q8 eP ii kb4 tu;have yn:Hd (w5.heap.size=P+1):=hw5;clear hw5
 go_loopw [41] (λi wr=>∃(k:X)(v:Z),k≤ls.length∧i=I k∧Hd (NS wr P (J (p_ g) is.length cp) v sm k (ls.map (Hg n)))∧Hd (∀j,j<k→Ar (gx ls j).name)∧Below P w5 wr∧P+1≤wr.heap.size) (λi _=>ls.length-(intOf i).toNat)
 case atStart=>exact⟨0,_,Nat.zero_le _,rfl,B4.o,(λj hj=>by omega:∀j,j<0→Ar (gx ls j).name),Below.refl _ _,by rw[yn.o];exact Nat.le_refl _⟩
 case round=>
  obtain⟨k,v,hk,rfl,HN,HA,bc,cz⟩:=hrel;clear B4 HF;have hw:Bw w wr:=yj.trans (bc.mono qb)
  by_cases aj:k<ls.length
  ·obtain⟨b,off,rfl,c1,c2,c3⟩:=(hlr.bl hw) k aj
   have fx:=I7 k aj;have M4:=cm k;have hgk:=gx_map n ls k aj;obtain⟨s,es⟩:=Aj (gx ls k);rw[es]at c1 c2 c3 fx M4 hgk;have ES:Hd (gx ls k=s):=es;have HG:Hd (gx (ls.map (Hg n)) k=Hg n s):=hgk;clear es hgk I7 cm hlr hr hT;have io:(k:Int)<(ls.length:Int):=qb;have iy:(0:Int)≤(k:Int):=qb
   by_cases gg:Ar s.name
   ·have ig:=Cs gg
    obtain⟨_,cP,_⟩:=HN.o.cell;have Y0:P<wr.heap.size:=qb
    go_wp2_with (go_at_call 126;refine(Df s.name _ M4).mono ?_;rintro e w9 ⟨rfl,rfl⟩;rw[ig])
    obtain⟨W,eW⟩:=Aj (wr.alloc (O #[S s.name,F s.ask,S s.sum] 199));obtain⟨q,eq⟩:=Aj wr.heap.size;have d0:W.cell? ⟨q,0,N⟩=M (S s.name):=qgq;have d1:W.cell? ⟨q,1,N⟩=M (F s.ask):=qgq;have d2:W.cell? ⟨q,2,N⟩=M (S s.sum):=qgq;have bn:Bw wr W:=qfu;have dP:=Aa bn cP;(have hWq:W.heap.size=q+1:=by rw[←eW,←eq];simp);have HQ:Hd (W.heap.size=q+1):=hWq;have HNW:Hd (NS W P (J (p_ g) is.length cp) v sm k (ls.map (Hg n))):=HN.o.bl bn;obtain⟨ys0,B7,_⟩:=HN.o.own;(have Y6:Hd (M q≠v.ownBlock):=λe=>by have:=(B7.lt q e.symm).2;omega);(have Y7:Hd (M P≠v.ownBlock):=λe=>by have:=(B7.lt P e.symm).1;omega);have hbP:Below P w5 W:=bc.trans (bn.mono qb);have hPq:P<q:=qb;rw[eW,eq];clear eW eq bn hWq cP bc cz Y0 B7 HN c1 c2 c3;obtain⟨u,eu⟩:=Aj (Av n s.sum);(have HS:Hd (∀W':E,Calls prog 156 #[S s.sum,I n] W' λe w'=>e=H (S u)∧Bw W' w'):=λW'=>by rw[←eu];exact Ir s.sum n W' fx h1 h2);have HU:Hd (Av n s.sum=u):=eu;clear eu;obtain⟨ys,py,ww⟩:=HNW.o.own;have ym:Hd (W.ownsRow (P+1) 145 3 v k ys):=py;have HFY:Hd (Bk (ls.map (Hg n)) k ys):=ww;clear py ww;(have hWq1:q+1≤W.heap.size:=by rw[HQ.o];exact Nat.le_refl _);refine Lt.begin 14 (λw'=>w'.cell? ⟨P,1,N⟩=M v∧w'.cell? ⟨q,0,N⟩=M (S s.name)∧w'.cell? ⟨q,1,N⟩=M (F s.ask)∧w'.cell? ⟨q,2,N⟩=M (S s.sum)) qi ?_;have gp:W.drew.cell? ⟨P,1,N⟩=M v∧W.drew.cell? ⟨q,0,N⟩=M (S s.name)∧W.drew.cell? ⟨q,1,N⟩=M (F s.ask)∧W.drew.cell? ⟨q,2,N⟩=M (S s.sum):=qt;change K 0 _
    iterate 9
     refine Lt.ti (v:=?_) gp ?_ ?_;rotate_left 1
     ·exact qak
     simp only[gX]
    refine Lt.sp (i:=9) (λK hK=>?_);go_simp;refine(HS.o _).mono ?_;rintro e w6 ⟨rfl,bz⟩;have ce:Bw W w6:=(Below.drew (Below.refl _ _)).trans (bz.mono qg);refine hK.out _ _ (λ_=>⟨Aa ce dP,Aa ce d0,Aa ce d1,Aa ce d2⟩) (λlh=>?_);replace lh:=lh qd;clear hK K gp bz;refine Lt.ti (i:=10) (v:=?_) lh ?_ ?_;rotate_left 1
    ·exact qak
    simp only[gX];refine Lt.sp (i:=11) (λK hK=>?_);go_simp;refine hK.out _ _ (λ_=>⟨Ni lh.1,Ni lh.2.1,Ni lh.2.2.1,Ni lh.2.2.2⟩) (λjy=>?_);replace jy:=jy qd;clear hK K lh;refine Lt.sp (i:=12) (λK hK=>?_);refine Wk rfl qo (P+1) v k ys qo ((Ab ym.o ce).alloc _) w6.heap.size s.name s.ask u qo (Nt _ _) (by have:=ce.size;simp;omega) qb ?_;intro g' ai w7 dw ae;have hsz6:=ce.size;(have x0:w7.cell? ⟨P,1,N⟩=M v:=by rw[ae.cell_far ⟨P,1,N⟩ qh Y7.o];exact jy.1);(have x1:w7.cell? ⟨q,0,N⟩=M (S s.name):=by rw[ae.cell_far ⟨q,0,N⟩ qh Y6.o];exact jy.2.1);(have x2:w7.cell? ⟨q,1,N⟩=M (F s.ask):=by rw[ae.cell_far ⟨q,1,N⟩ qh Y6.o];exact jy.2.2.1);(have x3:w7.cell? ⟨q,2,N⟩=M (S s.sum):=by rw[ae.cell_far ⟨q,2,N⟩ qh Y6.o];exact jy.2.2.2);have HNP:Hd (NS (w7.setCell ⟨P,1,N⟩ (J (p_ g') (k+1) ai)) P (J (p_ g) is.length cp) (J (p_ g') (k+1) ai) sm (k+1) (ls.map (Hg n))):=NS.add HNW.o ym.o HFY.o ce ae dw (by rw[HG.o];unfold Hg;rw[HU.o]);have X5:Below P w5 w7:=((hbP.trans (ce.mono qb)).alloc qb _).grown ae qh (λm hm=>by have:=(ym.o.lt m hm).1;omega);(have hs7:P+1≤w7.heap.size:=by have h2:=ae.size;simp at h2;omega);(have fz:w7.frozen? ⟨P,1,N⟩=false:=by rw[ae.frozen_far ⟨P,1,N⟩ qh Y7.o];exact fH (by rw[Lib.alloc_old _ _ _ qb];exact(HNW.o.bl ce).blk) 1);refine hK.out _ _ (λ_=>⟨x0,x1,x2,x3⟩) (λA1=>?_);replace A1:=A1 qd;clear hK K jy ae dw;simp only[gX];refine Lt.ti (i:=13) (v:=?_) A1 ?_ ?_;rotate_left 1
    ·exact qak
    simp only[gX];refine Lt.sp (i:=14) (λK hK=>?_);exact qic
   ·have ig:=Cn gg
    have kbr:wr.heap[w.heap.size+1+1]?=M (O #[nS,nS,ze] 94 (0,0)):=qdv;have r0:∀x,(wr.alloc x).cell? ⟨w.heap.size+1+1,0,N⟩=M nS:=λx=>Ni qgr;have r1:∀x,(wr.alloc x).cell? ⟨w.heap.size+1+1,1,N⟩=M nS:=λx=>Ni qgr;have r2:∀x,(wr.alloc x).cell? ⟨w.heap.size+1+1,2,N⟩=M ze:=λx=>Ni qgr;have fr:∀x j,(wr.alloc x).frozen? ⟨w.heap.size+1+1,j,N⟩=false:=λx j=>fH (by rw[Lib.alloc_old _ _ _ qb];exact kbr) j;have hR:w.heap.size≤w.heap.size+1+1:=qb;have hwA:∀x,Bw w (wr.alloc x):=λx=>hw.alloc hw.size _;clear kbr bc hw
    go_wp2_with (go_at_call 126;refine(Df s.name _ M4).mono ?_;rintro e w9 ⟨rfl,rfl⟩;rw[ig])
    exact bR (v:=G #[nS,nS,ze]) (by simp[results,results168,go_sem,r0,r1,r2]) rfl ⟨(((hwA _).setCell (p:=⟨w.heap.size+1+1,0,N⟩) hR _).setCell (p:=⟨w.heap.size+1+1,1,N⟩) hR _).setCell (p:=⟨w.heap.size+1+1,2,N⟩) hR _,Or.inr ⟨⟨k,aj,by rw[ES.o];exact gg⟩,rfl⟩⟩
  ·have ek:k=ls.length:=qb
   subst ek;obtain⟨c0,c1,c2⟩:=HN.o.cell;obtain⟨ys,py,ww⟩:=HN.o.own;have kbr:wr.heap[w.heap.size+1+1]?=M (O #[nS,nS,ze] 94 (0,0)):=qdv;obtain⟨r0,r1,r2⟩:=ck3 kbr;have fr:=fZ kbr;have hR:w.heap.size≤w.heap.size+1+1:=qb
   have o1:wr.ownsRow w.heap.size 143 3 (J (p_ g) is.length cp) is.length (Di is):=by
    exact qiz
   have jt:Hd (wr.ownsRow w.heap.size 143 3 (J (p_ g) is.length cp) is.length (Di is)):=o1;have ym:Hd (wr.ownsRow w.heap.size 145 3 v ls.length ys):=Ah py qb;(have HV:Hd (∀b,v.ownBlock=M b→b≠w.heap.size+1+1):=λb hb=>by have:=(py.lt b hb).1;omega);have HFY:Hd (Bk (ls.map (Hg n)) ls.length ys):=ww
   obtain⟨va,vn,vc,rfl⟩:∃va vn vc,v=J va vn vc:=by
    exact qlh
   clear kbr bc o1 py ww HN;go_wp2;refine bR (v:=G #[J (p_ g) is.length cp,J va vn vc,S sm]) (by simp[results,results168,go_sem,r0,r1,r2]) rfl ⟨((hw.setCell (p:=⟨w.heap.size+1+1,0,N⟩) hR _).setCell (p:=⟨w.heap.size+1+1,1,N⟩) hR _).setCell (p:=⟨w.heap.size+1+1,2,N⟩) hR _,Or.inl ⟨HA.o,_,_,by rw[ESM.o],Di is,ys,?_,Kl is,?_,by rw[List.length_map];exact HFY.o⟩⟩
   ·exact qir
   ·exact qme
end Go.Proofs.YtbkkjodaaijimaaGreatDoor
