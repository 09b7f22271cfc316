import Derived.Test.YtbkkjodaaijimaaGreatDoorTClK
import Derived.Test.YtbkkjodaaijimaaGreatDoorVsN
import Derived.Test.YtbkkjodaaijimaaGreatDoorVsV
namespace Go.Proofs.YtbkkjodaaijimaaGreatDoor
open Value renaming slice->J,string->S,bool->F,agg->G
open Option renaming some->M,none->N
open Obj renaming cells->O
open Go renaming World->E
open Ending renaming returned->H
open _root_ renaming Nat->X
set_option maxHeartbeats 4000000
set_option maxRecDepth 100000
open _root_.Go.Proofs.Tryz Go.RowKit Go.Deep
set_option linter.unusedVariables false
set_option linter.unusedSimpArgs false
theorem Te{s t:By}(h:s.toList=t.toList):s=t:=by
 rw[ByteArray.toList_eq,ByteArray.toList_eq]at h;exact ByteArray.ext (Array.ext' h)
theorem ix_ext{is js:List I3}(hl:is.length=js.length)(h:∀j,j<is.length→ix is j=ix js j):is=js:=by
 apply List.ext_getElem hl;intro i h1 h2;have:=h i h1;unfold ix at this
 rwa [gG,Ix h1,gG,Ix h2]at this
theorem l5Same_any(a a':Option Addr)(ic jc:X)(is js:List I3)(w:E)(hc:Bu w a is)(mr:Bu w a' js)(hl:is.length≤1048576)(F4:js.length≤1048576):Calls prog 106 #[G #[J a is.length ic],G #[J a' js.length jc]] w λe w'=>Bw w w'∧∃b,e=H (F b)∧(b=true↔is=js):=by
 obtain⟨W,eW⟩:=Aj ((w.alloc (O #[J a is.length ic] 91)).alloc (O #[J a' js.length jc] 91));have bn:Bw w W:=eW▸(aN _ _).alloc qg _;have c1:W.cell? ⟨w.heap.size,0,N⟩=M (J a is.length ic):=qcp;have c2:W.cell? ⟨w.heap.size+1,0,N⟩=M (J a' js.length jc):=qcp
 by_cases hn:is.length=js.length
 ·obtain⟨n,yv⟩:∃n,Hd (is.length=n):=⟨_,rfl⟩
  have HLB:Hd (js.length=n):=hn.symm.trans yv.o;rw[yv.o]at c1 hl eW ⊢;rw[HLB.o]at c2 F4 eW ⊢;clear hn;have U4:((n:Int) != (n:Int))=false:=qg;go_enter func106,ntmps106;go_wp2;clear eW
  go_loopw [5] (λi wr=>∃k:X,k≤n∧i=I k∧Hd (∀j,j<k→ix is j=ix js j)∧wr.cell? ⟨w.heap.size,0,N⟩=M (J a n ic)∧wr.cell? ⟨w.heap.size+1,0,N⟩=M (J a' n jc)∧Bw w wr) (λi _=>n-(intOf i).toNat)
  case atStart=>exact⟨0,Nat.zero_le _,rfl,(λj hj=>qb),c1,c2,bn⟩
  case round=>
   clear c1 c2 bn;obtain⟨k,hk,rfl,HN,c1,c2,hB⟩:=hrel
   by_cases aj:k<n
   ·obtain⟨b,off,rfl,e1,e2,e3⟩:=(hc.bl hB) k (zo yv.o)
    obtain⟨b',bp,rfl,f1,f2,f3⟩:=(mr.bl hB) k (zo HLB.o);have io:(k:Int)<(n:Int):=qb;have iy:(0:Int)≤(k:Int):=qb;have mn:Hd (ix is k≠ix js k→(false=true↔is=js)):=λhne=>⟨λh=>(by cases h),λe=>absurd (by rw[e]) hne⟩
    have B4:Hd (ix is k=ix js k→∀j,j<k+1→ix is j=ix js j):=λhe j hj=>by
     exact qlu
    generalize ix is k=x at *;generalize ix js k=y at *;obtain⟨x0,x1,x2⟩:=x;obtain⟨y0,y1,y2⟩:=y;dsimp only at e1 e2 e3 f1 f2 f3
    by_cases h0:x0=y0
    ·subst h0
     by_cases h1:x1=y1
     ·subst h1
      by_cases h2:x2=y2
      ·subst h2
       have R4:=Ac (B4.o rfl);clear B4 mn HN;go_wp2_with fail
       go_region_held3 (λw'=>w'.cell? ⟨w.heap.size,0,N⟩=M (J (M ⟨b,off,N⟩) n ic)∧w'.cell? ⟨w.heap.size+1,0,N⟩=M (J (M ⟨b',bp,N⟩) n jc)∧w'.cell? ⟨b,off+k*3,N⟩=M (I x0)∧w'.cell? ⟨b,off+k*3+1,N⟩=M (S x1)∧w'.cell? ⟨b,off+k*3+2,N⟩=M (I x2)∧w'.cell? ⟨b',bp+k*3,N⟩=M (I x0)∧w'.cell? ⟨b',bp+k*3+1,N⟩=M (S x1)∧w'.cell? ⟨b',bp+k*3+2,N⟩=M (I x2))
        (first|assumption|(simp[*];done)) (fail)
       all_goals
        go_wp2;exact⟨⟨k+1,qb,qj,R4.o,c1,c2,hB.drew⟩,qaj⟩
      ·have hq:=h2
       have dd:¬ (x2=y2):=hq;have O5:=Ac (mn.o (λe=>hq qas));clear B4 mn HN hq h2;go_wp2_with fail
       go_region_held3 (λw'=>w'.cell? ⟨w.heap.size,0,N⟩=M (J (M ⟨b,off,N⟩) n ic)∧w'.cell? ⟨w.heap.size+1,0,N⟩=M (J (M ⟨b',bp,N⟩) n jc)∧w'.cell? ⟨b,off+k*3,N⟩=M (I x0)∧w'.cell? ⟨b,off+k*3+1,N⟩=M (S x1)∧w'.cell? ⟨b,off+k*3+2,N⟩=M (I x2)∧w'.cell? ⟨b',bp+k*3,N⟩=M (I x0)∧w'.cell? ⟨b',bp+k*3+1,N⟩=M (S x1)∧w'.cell? ⟨b',bp+k*3+2,N⟩=M (I y2))
        (first|assumption|(simp[*];done)) (fail)
       all_goals
        go_wp2;exact qfl
     ·have hq:=h1
      have dd:¬ (x1.toList=y1.toList):=λe=>hq (Te e);have O5:=Ac (mn.o (λe=>hq qas));clear B4 mn HN hq h1;go_wp2_with fail
      go_region_held3 (λw'=>w'.cell? ⟨w.heap.size,0,N⟩=M (J (M ⟨b,off,N⟩) n ic)∧w'.cell? ⟨w.heap.size+1,0,N⟩=M (J (M ⟨b',bp,N⟩) n jc)∧w'.cell? ⟨b,off+k*3,N⟩=M (I x0)∧w'.cell? ⟨b,off+k*3+1,N⟩=M (S x1)∧w'.cell? ⟨b,off+k*3+2,N⟩=M (I x2)∧w'.cell? ⟨b',bp+k*3,N⟩=M (I x0)∧w'.cell? ⟨b',bp+k*3+1,N⟩=M (S y1)∧w'.cell? ⟨b',bp+k*3+2,N⟩=M (I y2))
       (first|assumption|(simp[*];done)) (fail)
      all_goals
       go_wp2;exact qfl
    ·have hq:=h0
     have dd:¬ (x0=y0):=hq;have O5:=Ac (mn.o (λe=>hq qas));clear B4 mn HN hq h0;go_wp2_with fail
     go_region_held3 (λw'=>w'.cell? ⟨w.heap.size,0,N⟩=M (J (M ⟨b,off,N⟩) n ic)∧w'.cell? ⟨w.heap.size+1,0,N⟩=M (J (M ⟨b',bp,N⟩) n jc)∧w'.cell? ⟨b,off+k*3,N⟩=M (I x0)∧w'.cell? ⟨b,off+k*3+1,N⟩=M (S x1)∧w'.cell? ⟨b,off+k*3+2,N⟩=M (I x2)∧w'.cell? ⟨b',bp+k*3,N⟩=M (I y0)∧w'.cell? ⟨b',bp+k*3+1,N⟩=M (S y1)∧w'.cell? ⟨b',bp+k*3+2,N⟩=M (I y2))
      (first|assumption|(simp[*];done)) (fail)
     all_goals
      go_wp2;exact qfl
   ·exact qio
 ·have U4:((is.length:Int) != (js.length:Int))=true:=qh
  have hni:¬ ((is.length:Int)=(js.length:Int)):=qb;have O5:Hd (false=true↔is=js):=⟨λh=>(by cases h),λe=>absurd (by rw[e]) hn⟩;go_enter func106,ntmps106;go_wp2;go_ret;exact⟨bn,false,rfl,O5.o⟩
theorem Vh(a la ca:Option Addr)(ac lc cc:X)(is:List I3)(ls:List G3)(c:Int)(t:By)(nc:X)(n:X)(out:By)(w:E)(hr:Bu w a is)(hlr:Fr w la ls)(hl:is.length≤1048576)(hx:∀i,(ix is i).text.size≤9223372036854775807)(hls:ls.length≤200)(HF:Hd (∀(a:Option Addr)(cap:X)(w:E),Calls prog 114 #[G #[I c,S t,J a nc cap]] w λe w'=>e=H (S out)∧Bw w w'))(hp:Au is=true)(h1:1≤n)(h2:n≤8)(ho:out≠⟨#[]⟩)(hos:out.size≤2002)(I7:∀i,i<ls.length→(gx ls i).sum.size≤1048576)(cm:∀i,(gx ls i).name.size≤9223372036854775807):Calls prog 135 #[G #[J a is.length ac],J la ls.length lc,G #[I c,S t,J ca nc cc],I n] w λe w'=>Bw w w'∧(((∀i,i<ls.length→Ar (gx ls i).name)∧∃v1 v2,e=H (G #[v1,v2,S (Av n out)])∧RecOwn w.heap.size w' v1 v2 is (ls.map (Hg n)))∨((∃i,i<ls.length∧¬ Ar (gx ls i).name)∧e=H (G #[nS,nS,ze]))):=by
 have zq:1≤is.length:=by
  exact qmm
 have hoe:out.toList.isEmpty=false:=by
  exact qkg
 have ak:Bw w (((w.alloc (O #[J a is.length ac] 91)).alloc (O #[I c,S t,J ca nc cc] 120)).alloc (O #[nS,nS,ze] 94)):=((aN _ _).alloc qg _).alloc qh _;go_enter func135,ntmps135;go_wp2_with fail;refine(HF.o _ _ _).mono ?_;rintro e w1 ⟨rfl,af⟩;have bh:=bt ak af;have p0:w1.cell? ⟨w.heap.size,0,N⟩=M (J a is.length ac):=Aa af qk
 have kb:w1.heap[w.heap.size+1+1]?=M (O #[nS,nS,ze] 94 (0,0)):=by
  exact qhv
 clear ak af;go_wp2_with fail;refine(Ih a ac is _ (hr.bl bh) hl hx).mono ?_;rintro e w2 ⟨ag,rfl⟩;have be:=bt bh ag;have q0:=Aa ag p0;have kb2:w2.heap[w.heap.size+1+1]?=M (O #[nS,nS,ze] 94 (0,0)):=by rw[ag.block _ (Fu kb)];exact kb
 have d9:w.heap.size+1+1<w2.heap.size:=Fu kb2;rw[hp];clear bh p0 kb ag
 go_wp2_with (first|(go_at_call 57;refine(Kk n _ qb qb).mono ?_;rintro e w9 ⟨rfl,rfl⟩))
 refine(Vq a ac is _ (hr.bl be) zq hl).mono ?_;rintro e w3 ⟨ba,g,cp,rfl,ah⟩;have ij:=bt be ba;have kb3:w3.heap[w.heap.size+1+1]?=M (O #[nS,nS,ze] 94 (0,0)):=by rw[ba.block _ (Fu kb2)];exact kb2
 have G9:Hd (w3.ownsRow w2.heap.size 143 3 (J (p_ g) is.length cp) is.length (Di is)):=ah;clear be q0 kb2 ba ah;go_wp2_with fail;refine(Fo out n _ qb h1 h2).mono ?_;rintro e w4 ⟨rfl,co⟩;have ii:=bt ij co;have kb4:w4.heap[w.heap.size+1+1]?=M (O #[nS,nS,ze] 94 (0,0)):=by rw[co.block _ (Fu kb3)];exact kb3
 have tu:Hd (w4.ownsRow w2.heap.size 143 3 (J (p_ g) is.length cp) is.length (Di is)):=Ab G9.o co;clear ij kb3 co G9;obtain⟨sm,esm⟩:=Aj (Av n out);have ESM:Hd (Av n out=sm):=esm;rw[show(⟨(Ib (Ci out.data.toList) n).toArray⟩:By)=sm from esm];clear esm;obtain⟨P,eP⟩:=Aj w4.heap.size;obtain⟨w5,Q8⟩:=Aj (w4.alloc (O #[J (p_ g) is.length cp,nS,S sm] 94));have hw5:w5.heap.size=P+1:=by rw[←Q8,←eP];simp
 have B4:Hd (NS w5 P (J (p_ g) is.length cp) nS sm 0 (ls.map (Hg n))):=by
  exact qlp
 have yj:Bw w w5:=by rw[←Q8];exact ii.alloc ii.size _
 have hwP:w.heap.size+1+1<P:=by rw[←eP];exact Fu kb4
 have KB5:Hd (w5.heap[w.heap.size+1+1]?=M (O #[nS,nS,ze] 94 (0,0))):=by show _=_;rw[←Q8,Lib.alloc_old _ _ _ qb];exact kb4
 have K6:Hd (w5.ownsRow w.heap.size 143 3 (J (p_ g) is.length cp) is.length (Di is)):=by show World.ownsRow _ _ _ _ _ _ _;rw[←Q8];exact Ah (tu.o.alloc _) qb
 have hgR:w.heap.size+1+1<g:=zo ((tu.o.lt g rfl).1);have hgP:g<P:=by rw[←eP];exact(tu.o.lt g rfl).2
 go_wp2;clear Q8 eP ii kb4 tu;have yn:Hd (w5.heap.size=P+1):=hw5;clear hw5
 go_loopw [11] (λi wr=>∃(k:X)(v:Value),k≤ls.length∧i=I k∧Hd (NS wr P (J (p_ g) is.length cp) v sm k (ls.map (Hg n)))∧Hd (∀j,j<k→Ar (gx ls j).name)∧Below P w5 wr∧P+1≤wr.heap.size) (λi _=>ls.length-(intOf i).toNat)
 case atStart=>exact⟨0,_,Nat.zero_le _,rfl,B4.o,(λj hj=>by omega:∀j,j<0→Ar (gx ls j).name),Below.refl _ _,by rw[yn.o];exact Nat.le_refl _⟩
 case round=>
  obtain⟨k,v,hk,rfl,HN,HA,bc,cz⟩:=hrel;clear B4 HF;have hw:Bw w wr:=yj.trans (bc.mono qb)
  by_cases aj:k<ls.length
  ·obtain⟨b,off,rfl,c1,c2,c3⟩:=(hlr.bl hw) k aj
   have jw:Hd (b<w.heap.size):=by
    obtain⟨b',bp,e',k1,_⟩:=hlr k aj
    cases e'
    exact World.block_lt_of_cell? _ _ k1
   have fx:=I7 k aj;have M4:=cm k;have hgk:=gx_map n ls k aj;obtain⟨s,es⟩:=Aj (gx ls k);rw[es]at c1 c2 c3 fx M4 hgk;have ES:Hd (gx ls k=s):=es;have HG:Hd (gx (ls.map (Hg n)) k=Hg n s):=hgk;clear es hgk I7 cm hlr hr;have io:(k:Int)<(ls.length:Int):=qb;have iy:(0:Int)≤(k:Int):=qb
   by_cases gg:Ar s.name
   ·have ig:=Cs gg
    obtain⟨_,cP,_⟩:=HN.o.cell;have Y0:P<wr.heap.size:=qb
    go_wp2_with (go_at_call 41;refine(Ca s.name _ M4).mono ?_;rintro e w9 ⟨rfl,rfl⟩;rw[ig])
    have bi:b<w.heap.size:=jw.o;obtain⟨ys0,B7,_⟩:=HN.o.own;(have Y6:Hd (M b≠v.ownBlock):=λe=>by have:=(B7.lt b e.symm).1;omega);(have Y7:Hd (M P≠v.ownBlock):=λe=>by have:=(B7.lt P e.symm).1;omega);have HNW:=HN;have hbP:=bc;have dP:=cP;clear cP Y0 B7 HN;obtain⟨u,eu⟩:=Aj (Av n s.sum);(have HS:Hd (∀W':E,Calls prog 58 #[S s.sum,I n] W' λe w'=>e=H (S u)∧Bw W' w'):=λW'=>by rw[←eu];exact Fo s.sum n W' fx h1 h2);have HU:Hd (Av n s.sum=u):=eu;clear eu;obtain⟨ys,py,ww⟩:=HNW.o.own;have ym:Hd (wr.ownsRow (P+1) 145 3 v k ys):=py;have HFY:Hd (Bk (ls.map (Hg n)) k ys):=ww;clear py ww;refine Lt.begin 23 (λw'=>w'.cell? ⟨P,1,N⟩=M v∧w'.cell? ⟨b,off+k*3,N⟩=M (S s.name)∧w'.cell? ⟨b,off+k*3+1,N⟩=M (F s.ask)∧w'.cell? ⟨b,off+k*3+2,N⟩=M (S s.sum)) qi ?_;have gp:wr.drew.cell? ⟨P,1,N⟩=M v∧wr.drew.cell? ⟨b,off+k*3,N⟩=M (S s.name)∧wr.drew.cell? ⟨b,off+k*3+1,N⟩=M (F s.ask)∧wr.drew.cell? ⟨b,off+k*3+2,N⟩=M (S s.sum):=qt;change K 0 _
    iterate 18
     refine Lt.ti (v:=?_) gp ?_ ?_;rotate_left 1
     ·exact qak
     simp only[gX]
    refine Lt.sp (i:=18) (λK hK=>?_);go_simp;refine(HS.o _).mono ?_;rintro e w6 ⟨rfl,bz⟩;have ce:Bw wr w6:=(Below.drew (Below.refl _ _)).trans (bz.mono qg);refine hK.out _ _ (λ_=>⟨Aa ce dP,Aa ce c1,Aa ce c2,Aa ce c3⟩) (λlh=>?_);replace lh:=lh qd;clear hK K gp bz;refine Lt.ti (i:=19) (v:=?_) lh ?_ ?_;rotate_left 1
    ·exact qak
    simp only[gX];refine Lt.sp (i:=20) (λK hK=>?_);go_simp;refine hK.out _ _ (λ_=>⟨Ni lh.1,Ni lh.2.1,Ni lh.2.2.1,Ni lh.2.2.2⟩) (λjy=>?_);replace jy:=jy qd;clear hK K lh;refine Lt.sp (i:=21) (λK hK=>?_);refine Wk rfl qo (P+1) v k ys qo ((Ab ym.o ce).alloc _) w6.heap.size s.name s.ask u qo (Nt _ _) (by have:=ce.size;simp;omega) qb ?_;intro g' ai w7 dw ae;have hsz6:=ce.size;(have x0:w7.cell? ⟨P,1,N⟩=M v:=by rw[ae.cell_far ⟨P,1,N⟩ qh Y7.o];exact jy.1);(have x1:w7.cell? ⟨b,off+k*3,N⟩=M (S s.name):=by rw[ae.cell_far ⟨b,off+k*3,N⟩ qh Y6.o];exact jy.2.1);(have x2:w7.cell? ⟨b,off+k*3+1,N⟩=M (F s.ask):=by rw[ae.cell_far ⟨b,off+k*3+1,N⟩ qh Y6.o];exact jy.2.2.1);(have x3:w7.cell? ⟨b,off+k*3+2,N⟩=M (S s.sum):=by rw[ae.cell_far ⟨b,off+k*3+2,N⟩ qh Y6.o];exact jy.2.2.2);have HNP:Hd (NS (w7.setCell ⟨P,1,N⟩ (J (p_ g') (k+1) ai)) P (J (p_ g) is.length cp) (J (p_ g') (k+1) ai) sm (k+1) (ls.map (Hg n))):=NS.add HNW.o ym.o HFY.o ce ae dw (by rw[HG.o];unfold Hg;rw[HU.o]);have X5:Below P w5 w7:=((hbP.trans (ce.mono qb)).alloc qb _).grown ae qh (λm hm=>by have:=(ym.o.lt m hm).1;omega);(have hs7:P+1≤w7.heap.size:=by have h2:=ae.size;simp at h2;omega);(have fz:w7.frozen? ⟨P,1,N⟩=false:=by rw[ae.frozen_far ⟨P,1,N⟩ qh Y7.o];exact fH (by rw[Lib.alloc_old _ _ _ qb];exact(HNW.o.bl ce).blk) 1);refine hK.out _ _ (λ_=>⟨x0,x1,x2,x3⟩) (λA1=>?_);replace A1:=A1 qd;clear hK K jy ae dw;simp only[gX];refine Lt.ti (i:=22) (v:=?_) A1 ?_ ?_;rotate_left 1
    ·exact qak
    simp only[gX];refine Lt.sp (i:=23) (λK hK=>?_);exact qic
   ·have ig:=Cn gg
    have kbr:wr.heap[w.heap.size+1+1]?=M (O #[nS,nS,ze] 94 (0,0)):=qdv;obtain⟨r0,r1,r2⟩:=ck3 kbr;have fr:=fZ kbr;have hR:w.heap.size≤w.heap.size+1+1:=qb;clear kbr bc
    go_wp2_with (go_at_call 41;refine(Ca s.name _ M4).mono ?_;rintro e w9 ⟨rfl,rfl⟩;rw[ig])
    exact bR (v:=G #[nS,nS,ze]) (by simp[results,results135,go_sem,r0,r1,r2]) rfl ⟨((hw.setCell (p:=⟨w.heap.size+1+1,0,N⟩) hR _).setCell (p:=⟨w.heap.size+1+1,1,N⟩) hR _).setCell (p:=⟨w.heap.size+1+1,2,N⟩) hR _,Or.inr ⟨⟨k,aj,by rw[ES.o];exact gg⟩,rfl⟩⟩
  ·have ek:k=ls.length:=qb
   subst ek;obtain⟨c0,c1,c2⟩:=HN.o.cell;obtain⟨ys,py,ww⟩:=HN.o.own;have kbr:wr.heap[w.heap.size+1+1]?=M (O #[nS,nS,ze] 94 (0,0)):=qdv;obtain⟨r0,r1,r2⟩:=ck3 kbr;have fr:=fZ kbr;have hR:w.heap.size≤w.heap.size+1+1:=qb
   have o1:wr.ownsRow w.heap.size 143 3 (J (p_ g) is.length cp) is.length (Di is):=by
    exact qiz
   have jt:Hd (wr.ownsRow w.heap.size 143 3 (J (p_ g) is.length cp) is.length (Di is)):=o1;have ym:Hd (wr.ownsRow w.heap.size 145 3 v ls.length ys):=Ah py qb;(have HV:Hd (∀b,v.ownBlock=M b→b≠w.heap.size+1+1):=λb hb=>by have:=(py.lt b hb).1;omega);have HFY:Hd (Bk (ls.map (Hg n)) ls.length ys):=ww
   obtain⟨va,vn,vc,rfl⟩:∃va vn vc,v=J va vn vc:=by
    exact qlh
   clear kbr bc o1 py ww HN;go_wp2;refine bR (v:=G #[J (p_ g) is.length cp,J va vn vc,S sm]) (by simp[results,results135,go_sem,r0,r1,r2]) rfl ⟨((hw.setCell (p:=⟨w.heap.size+1+1,0,N⟩) hR _).setCell (p:=⟨w.heap.size+1+1,1,N⟩) hR _).setCell (p:=⟨w.heap.size+1+1,2,N⟩) hR _,Or.inl ⟨HA.o,_,_,by rw[ESM.o],Di is,ys,?_,Kl is,?_,by rw[List.length_map];exact HFY.o⟩⟩
   ·exact qir
   ·exact qme
end Go.Proofs.YtbkkjodaaijimaaGreatDoor
