import Derived.Test.YtoihflimijabjaaGreatDoorFtF
import Derived.Test.YtoihflimijabjaaGreatDoorVsN
import Derived.Test.YtoihflimijabjaaGreatDoorVsV
namespace Go.Proofs.YtoihflimijabjaaGreatDoor
open Value renaming slice->J,string->S,bool->F,agg->G
open Option renaming some->M,none->N
open Obj renaming cells->O
open Go renaming World->E
open Ending renaming returned->H
open _root_ renaming Nat->X
set_option maxHeartbeats 4000000
set_option maxRecDepth 100000
open _root_.Go.Proofs.Tryz Go.RowKit Go.Deep
set_option linter.unusedVariables false
set_option linter.unusedSimpArgs false
theorem Yo{s t:By}(h:s.toList=t.toList):s=t:=by
 rw[ByteArray.toList_eq,ByteArray.toList_eq]at h;exact ByteArray.ext (Array.ext' h)
theorem ix_ext{is js:List I3}(hl:is.length=js.length)(h:∀j,j<is.length→ix is j=ix js j):is=js:=by
 apply List.ext_getElem hl;intro i h1 h2;have:=h i h1;unfold ix at this
 rwa [gG,gQ h1,gG,gQ h2]at this
theorem Zv(a a':Option Addr)(ic jc:X)(is js:List I3)(w:E)(hc:Dl w a is)(U6:Dl w a' js)(hl:is.length≤1048576)(hl':js.length≤1048576):Calls prog 100 #[G #[J a is.length ic],G #[J a' js.length jc]] w λe w'=>Bw w w'∧∃b,e=H (F b)∧(b=true↔is=js):=by
 obtain⟨W,eW⟩:=Aj ((w.alloc (O #[J a is.length ic] 53)).alloc (O #[J a' js.length jc] 53));have f7:Bw w W:=eW▸(aN _ _).alloc qi _;have c1:W.cell? ⟨w.heap.size,0,N⟩=M (J a is.length ic):=qbf;have c2:W.cell? ⟨w.heap.size+1,0,N⟩=M (J a' js.length jc):=qbf
 by_cases hn:is.length=js.length
 ·obtain⟨n,je⟩:∃n,Hd (is.length=n):=⟨_,rfl⟩
  have HLB:Hd (js.length=n):=hn.symm.trans je.o;rw[je.o]at c1 hl eW ⊢;rw[HLB.o]at c2 hl' eW ⊢;clear hn;have hnn:((n:Int) != (n:Int))=false:=qi;go_enter func100,ntmps100;go_wp2;clear eW
  go_loopw [5] (λi wr=>∃k:X,k≤n∧i=I k∧Hd (∀j,j<k→ix is j=ix js j)∧wr.cell? ⟨w.heap.size,0,N⟩=M (J a n ic)∧wr.cell? ⟨w.heap.size+1,0,N⟩=M (J a' n jc)∧Bw w wr) (λi _=>n-(intOf i).toNat)
  case atStart=>exact⟨0,Nat.zero_le _,rfl,(λj hj=>qg),c1,c2,f7⟩
  case round=>
   clear c1 c2 f7;obtain⟨k,hk,rfl,HN,c1,c2,hB⟩:=hrel
   by_cases au:k<n
   ·obtain⟨b,off,rfl,e1,e2,e3⟩:=(hc.bl hB) k (zo je.o)
    obtain⟨b',bq,rfl,f1,f2,f3⟩:=(U6.bl hB) k (zo HLB.o);have gi:(k:Int)<(n:Int):=qg;have fe:(0:Int)≤(k:Int):=qg;have zn:Hd (ix is k≠ix js k→(false=true↔is=js)):=λaq=>⟨λh=>(by cases h),λe=>absurd (by rw[e]) aq⟩
    have HN0:Hd (ix is k=ix js k→∀j,j<k+1→ix is j=ix js j):=λhe j hj=>by
     rcases Nat.lt_or_ge j k with q|q
     ·exact HN.o j q
     ·obtain rfl:j=k:=qg
      exact he
    generalize ix is k=x at *;generalize ix js k=y at *;obtain⟨x0,x1,x2⟩:=x;obtain⟨y0,y1,y2⟩:=y;dsimp only at e1 e2 e3 f1 f2 f3
    by_cases h0:x0=y0
    ·subst h0
     by_cases h1:x1=y1
     ·subst h1
      by_cases h2:x2=y2
      ·subst h2
       have zq:=Ad (HN0.o rfl);clear HN0 zn HN;go_wp2_with fail
       go_region_held3 (λw'=>w'.cell? ⟨w.heap.size,0,N⟩=M (J (M ⟨b,off,N⟩) n ic)∧w'.cell? ⟨w.heap.size+1,0,N⟩=M (J (M ⟨b',bq,N⟩) n jc)∧w'.cell? ⟨b,off+k*3,N⟩=M (I x0)∧w'.cell? ⟨b,off+k*3+1,N⟩=M (S x1)∧w'.cell? ⟨b,off+k*3+2,N⟩=M (I x2)∧w'.cell? ⟨b',bq+k*3,N⟩=M (I x0)∧w'.cell? ⟨b',bq+k*3+1,N⟩=M (S x1)∧w'.cell? ⟨b',bq+k*3+2,N⟩=M (I x2))
        (first|assumption|(simp[*];done)) (fail)
       all_goals
        go_wp2;exact⟨⟨k+1,qg,qp,zq.o,c1,c2,hB.drew⟩,Yj⟩
      ·have hq:=h2
       have dd:¬ (x2=y2):=hq;have F6:=Ad (zn.o (λe=>hq (by injection e)));clear HN0 zn HN hq h2;go_wp2_with fail
       go_region_held3 (λw'=>w'.cell? ⟨w.heap.size,0,N⟩=M (J (M ⟨b,off,N⟩) n ic)∧w'.cell? ⟨w.heap.size+1,0,N⟩=M (J (M ⟨b',bq,N⟩) n jc)∧w'.cell? ⟨b,off+k*3,N⟩=M (I x0)∧w'.cell? ⟨b,off+k*3+1,N⟩=M (S x1)∧w'.cell? ⟨b,off+k*3+2,N⟩=M (I x2)∧w'.cell? ⟨b',bq+k*3,N⟩=M (I x0)∧w'.cell? ⟨b',bq+k*3+1,N⟩=M (S x1)∧w'.cell? ⟨b',bq+k*3+2,N⟩=M (I y2))
        (first|assumption|(simp[*];done)) (fail)
       all_goals
        go_wp2;exact qex
     ·have hq:=h1
      have dd:¬ (x1.toList=y1.toList):=λe=>hq (Yo e);have F6:=Ad (zn.o (λe=>hq (by injection e)));clear HN0 zn HN hq h1;go_wp2_with fail
      go_region_held3 (λw'=>w'.cell? ⟨w.heap.size,0,N⟩=M (J (M ⟨b,off,N⟩) n ic)∧w'.cell? ⟨w.heap.size+1,0,N⟩=M (J (M ⟨b',bq,N⟩) n jc)∧w'.cell? ⟨b,off+k*3,N⟩=M (I x0)∧w'.cell? ⟨b,off+k*3+1,N⟩=M (S x1)∧w'.cell? ⟨b,off+k*3+2,N⟩=M (I x2)∧w'.cell? ⟨b',bq+k*3,N⟩=M (I x0)∧w'.cell? ⟨b',bq+k*3+1,N⟩=M (S y1)∧w'.cell? ⟨b',bq+k*3+2,N⟩=M (I y2))
       (first|assumption|(simp[*];done)) (fail)
      all_goals
       go_wp2;exact qex
    ·have hq:=h0
     have dd:¬ (x0=y0):=hq;have F6:=Ad (zn.o (λe=>hq (by injection e)));clear HN0 zn HN hq h0;go_wp2_with fail
     go_region_held3 (λw'=>w'.cell? ⟨w.heap.size,0,N⟩=M (J (M ⟨b,off,N⟩) n ic)∧w'.cell? ⟨w.heap.size+1,0,N⟩=M (J (M ⟨b',bq,N⟩) n jc)∧w'.cell? ⟨b,off+k*3,N⟩=M (I x0)∧w'.cell? ⟨b,off+k*3+1,N⟩=M (S x1)∧w'.cell? ⟨b,off+k*3+2,N⟩=M (I x2)∧w'.cell? ⟨b',bq+k*3,N⟩=M (I y0)∧w'.cell? ⟨b',bq+k*3+1,N⟩=M (S y1)∧w'.cell? ⟨b',bq+k*3+2,N⟩=M (I y2))
      (first|assumption|(simp[*];done)) (fail)
     all_goals
      go_wp2;exact qex
   ·have ek:k=n:=qg
    subst ek;have HEQ:=Ad (show is=js from ix_ext (je.o.trans HLB.o.symm) (λj hj=>HN.o j (zo je.o)));clear HN;go_wp2;go_ret;exact⟨hB,true,rfl,by simp only[true_iff];exact HEQ.o⟩
 ·have hnn:((is.length:Int) != (js.length:Int))=true:=qj
  have hni:¬ ((is.length:Int)=(js.length:Int)):=qg;have F6:Hd (false=true↔is=js):=⟨λh=>(by cases h),λe=>absurd (by rw[e]) hn⟩;go_enter func100,ntmps100;go_wp2;go_ret;exact⟨f7,false,rfl,F6.o⟩
theorem Sv(a la ca:Option Addr)(ac lc cc:X)(is:List I3)(ls:List G3)(c:Int)(t:By)(nc:X)(n:X)(out:By)(w:E)(hr:Dl w a is)(hlr:Kb w la ls)(hl:is.length≤1048576)(hx:∀i,(ix is i).text.size≤9223372036854775807)(hls:ls.length≤200)(HF:Hd (∀(a:Option Addr)(cap:X)(w:E),Calls prog 106 #[G #[I c,S t,J a nc cap]] w λe w'=>e=H (S out)∧Bw w w'))(hp:Aq is=true)(h1:1≤n)(h2:n≤8)(ho:out≠⟨#[]⟩)(O3:out.size≤2002)(hsd:∀i,i<ls.length→(gx ls i).sum.size≤1048576)(iw:∀i,(gx ls i).name.size≤9223372036854775807):Calls prog 109 #[G #[J a is.length ac],J la ls.length lc,G #[I c,S t,J ca nc cc],I n] w λe w'=>Bw w w'∧(((∀i,i<ls.length→Ay (gx ls i).name)∧∃v1 v2,e=H (G #[v1,v2,S (Ap n out)])∧RecOwn w.heap.size w' v1 v2 is (ls.map (Mr n)))∨((∃i,i<ls.length∧¬ Ay (gx ls i).name)∧e=H (G #[nS,nS,ze]))):=by
 have A4:1≤is.length:=by
  exact qlj
 have hoe:out.toList.isEmpty=false:=by
  rcases h:out.toList with _|⟨x,l⟩
  ·exfalso
   apply ho;rw[ByteArray.toList_eq]at h;exact WideShapes.bytes_inj h
  ·rfl
 have ba:Bw w (((w.alloc (O #[J a is.length ac] 53)).alloc (O #[I c,S t,J ca nc cc] 134)).alloc (O #[nS,nS,ze] 56)):=((aN _ _).alloc qi _).alloc qj _;go_enter func109,ntmps109;go_wp2_with fail;refine(HF.o _ _ _).mono ?_;rintro e w1 ⟨rfl,ah⟩;have db:=bt ba ah;have p0:w1.cell? ⟨w.heap.size,0,N⟩=M (J a is.length ac):=Aa ah qr
 have kb:w1.heap[w.heap.size+1+1]?=M (O #[nS,nS,ze] 56 (0,0)):=by
  rw[ah.block _ qi];have h:=Pa ((w.alloc (O #[J a is.length ac] 53)).alloc (O #[I c,S t,J ca nc cc] 134)) (O #[nS,nS,ze] 56);rw[show((w.alloc (O #[J a is.length ac] 53)).alloc (O #[I c,S t,J ca nc cc] 134)).heap.size=w.heap.size+1+1 from qi]at h;exact h
 clear ba ah;go_wp2_with fail;refine(Ci a ac is _ (hr.bl db) hl hx).mono ?_;rintro e w2 ⟨a9,rfl⟩;have bp:=bt db a9;have q0:=Aa a9 p0;have On:w2.heap[w.heap.size+1+1]?=M (O #[nS,nS,ze] 56 (0,0)):=by rw[a9.block _ (Jn kb)];exact kb
 have gm:w.heap.size+1+1<w2.heap.size:=Jn On;rw[hp];clear db p0 kb a9
 go_wp2_with (first|(go_at_call 17;refine(Jk n _ qg qg).mono ?_;rintro e w9 ⟨rfl,rfl⟩))
 refine(Jo a ac is _ (hr.bl bp) A4 hl).mono ?_;rintro e w3 ⟨bh,g,cp,rfl,ak⟩;have fm:=bt bp bh;have S0:w3.heap[w.heap.size+1+1]?=M (O #[nS,nS,ze] 56 (0,0)):=by rw[bh.block _ (Jn On)];exact On
 have sq:Hd (w3.ownsRow w2.heap.size 103 3 (J (p_ g) is.length cp) is.length (Cy is)):=ak;clear bp q0 On bh ak;go_wp2_with fail;refine(Cl out n _ qg h1 h2).mono ?_;rintro e w4 ⟨rfl,bx⟩;have i7:=bt fm bx;have kb4:w4.heap[w.heap.size+1+1]?=M (O #[nS,nS,ze] 56 (0,0)):=by rw[bx.block _ (Jn S0)];exact S0
 have yd:Hd (w4.ownsRow w2.heap.size 103 3 (J (p_ g) is.length cp) is.length (Cy is)):=Ae sq.o bx;clear fm S0 bx sq;obtain⟨sm,esm⟩:=Aj (Ap n out);have ESM:Hd (Ap n out=sm):=esm;rw[show(⟨(Ho (Cd out.data.toList) n).toArray⟩:By)=sm from esm];clear esm;obtain⟨P,eP⟩:=Aj w4.heap.size;obtain⟨w5,zi⟩:=Aj (w4.alloc (O #[J (p_ g) is.length cp,nS,S sm] 56));have hw5:w5.heap.size=P+1:=by rw[←zi,←eP];simp
 have HN0:Hd (NS w5 P (J (p_ g) is.length cp) nS sm 0 (ls.map (Mr n))):=by
  rw[←zi,←eP];exact⟨Pa _ _,[],World.ownsRow_nil _ _ 79 3,λi hi=>qg⟩
 have mj:Bw w w5:=by rw[←zi];exact i7.alloc i7.size _
 have hwP:w.heap.size+1+1<P:=by rw[←eP];exact Jn kb4
 have KB5:Hd (w5.heap[w.heap.size+1+1]?=M (O #[nS,nS,ze] 56 (0,0))):=by show _=_;rw[←zi,Lib.alloc_old _ _ _ qg];exact kb4
 have HO5:Hd (w5.ownsRow w.heap.size 103 3 (J (p_ g) is.length cp) is.length (Cy is)):=by show World.ownsRow _ _ _ _ _ _ _;rw[←zi];exact Al (yd.o.alloc _) qg
 have hgR:w.heap.size+1+1<g:=zo ((yd.o.lt g rfl).1);have hgP:g<P:=by rw[←eP];exact(yd.o.lt g rfl).2
 go_wp2;clear zi eP i7 kb4 yd;have vq:Hd (w5.heap.size=P+1):=hw5;clear hw5
 go_loopw [11] (λi wr=>∃(k:X)(v:Value),k≤ls.length∧i=I k∧Hd (NS wr P (J (p_ g) is.length cp) v sm k (ls.map (Mr n)))∧Hd (∀j,j<k→Ay (gx ls j).name)∧Below P w5 wr∧P+1≤wr.heap.size) (λi _=>ls.length-(intOf i).toNat)
 case atStart=>exact⟨0,_,Nat.zero_le _,rfl,HN0.o,(λj hj=>by omega:∀j,j<0→Ay (gx ls j).name),Below.refl _ _,by rw[vq.o];exact Nat.le_refl _⟩
 case round=>
  obtain⟨k,v,hk,rfl,HN,HA,bu,iz⟩:=hrel;clear HN0 HF;have hw:Bw w wr:=mj.trans (bu.mono qg)
  by_cases au:k<ls.length
  ·obtain⟨b,off,rfl,c1,c2,c3⟩:=(hlr.bl hw) k au
   have jg:Hd (b<w.heap.size):=by
    obtain⟨b',bq,e',k1,_⟩:=hlr k au
    cases e'
    exact World.block_lt_of_cell? _ _ k1
   have jb:=hsd k au;have G7:=iw k;have hgk:=gx_map n ls k au;obtain⟨s,es⟩:=Aj (gx ls k);rw[es]at c1 c2 c3 jb G7 hgk;have ES:Hd (gx ls k=s):=es;have HG:Hd (gx (ls.map (Mr n)) k=Mr n s):=hgk;clear es hgk hsd iw hlr hr;have gi:(k:Int)<(ls.length:Int):=qg;have fe:(0:Int)≤(k:Int):=qg
   by_cases nh:Ay s.name
   ·have gy:=Cr nh
    obtain⟨_,cP,_⟩:=HN.o.cell;have U8:P<wr.heap.size:=qg
    go_wp2_with (go_at_call 59;refine(Bb s.name _ G7).mono ?_;rintro e w9 ⟨rfl,rfl⟩;rw[gy])
    have di:b<w.heap.size:=jg.o;obtain⟨ys0,nd,_⟩:=HN.o.own;(have HVQ:Hd (M b≠v.ownBlock):=λe=>by have:=(nd.lt b e.symm).1;omega);(have vd:Hd (M P≠v.ownBlock):=λe=>by have:=(nd.lt P e.symm).1;omega);have X7:=HN;have hbP:=bu;have dP:=cP;clear cP U8 nd HN;obtain⟨u,eu⟩:=Aj (Ap n s.sum);(have HS:Hd (∀W':E,Calls prog 18 #[S s.sum,I n] W' λe w'=>e=H (S u)∧Bw W' w'):=λW'=>by rw[←eu];exact Cl s.sum n W' jb h1 h2);have HU:Hd (Ap n s.sum=u):=eu;clear eu;obtain⟨ys,mz,hfy⟩:=X7.o.own;have mw:Hd (wr.ownsRow (P+1) 79 3 v k ys):=mz;have Y1:Hd (Be (ls.map (Mr n)) k ys):=hfy;clear mz hfy;refine Lt.begin 23 (λw'=>w'.cell? ⟨P,1,N⟩=M v∧w'.cell? ⟨b,off+k*3,N⟩=M (S s.name)∧w'.cell? ⟨b,off+k*3+1,N⟩=M (F s.ask)∧w'.cell? ⟨b,off+k*3+2,N⟩=M (S s.sum)) qk ?_;have aw:wr.drew.cell? ⟨P,1,N⟩=M v∧wr.drew.cell? ⟨b,off+k*3,N⟩=M (S s.name)∧wr.drew.cell? ⟨b,off+k*3+1,N⟩=M (F s.ask)∧wr.drew.cell? ⟨b,off+k*3+2,N⟩=M (S s.sum):=qu;change K 0 _
    iterate 18
     refine Lt.ti (v:=?_) aw ?_ ?_;rotate_left 1
     ·exact qbn
     simp only[gX]
    refine Lt.sp (i:=18) (λK hK=>?_);go_simp;refine(HS.o _).mono ?_;rintro e w6 ⟨rfl,cj⟩;have bv:Bw wr w6:=(Below.drew (Below.refl _ _)).trans (cj.mono qi);refine hK.out _ _ (λ_=>⟨Aa bv dP,Aa bv c1,Aa bv c2,Aa bv c3⟩) (λia=>?_);replace ia:=ia qh;clear hK K aw cj;refine Lt.ti (i:=19) (v:=?_) ia ?_ ?_;rotate_left 1
    ·exact qbn
    simp only[gX];refine Lt.sp (i:=20) (λK hK=>?_);go_simp;refine hK.out _ _ (λ_=>⟨cellA ia.1,cellA ia.2.1,cellA ia.2.2.1,cellA ia.2.2.2⟩) (λfw=>?_);replace fw:=fw qh;clear hK K ia;refine Lt.sp (i:=21) (λK hK=>?_);refine step_appG rfl qo (P+1) v k ys qo ((Ae mw.o bv).alloc _) w6.heap.size s.name s.ask u qo (Pa _ _) (by have:=bv.size;simp;omega) qg ?_;intro g' ai w7 bw ae;have J1:=bv.size;(have x0:w7.cell? ⟨P,1,N⟩=M v:=by rw[ae.cell_far ⟨P,1,N⟩ qj vd.o];exact fw.1);(have x1:w7.cell? ⟨b,off+k*3,N⟩=M (S s.name):=by rw[ae.cell_far ⟨b,off+k*3,N⟩ qj HVQ.o];exact fw.2.1);(have x2:w7.cell? ⟨b,off+k*3+1,N⟩=M (F s.ask):=by rw[ae.cell_far ⟨b,off+k*3+1,N⟩ qj HVQ.o];exact fw.2.2.1);(have x3:w7.cell? ⟨b,off+k*3+2,N⟩=M (S s.sum):=by rw[ae.cell_far ⟨b,off+k*3+2,N⟩ qj HVQ.o];exact fw.2.2.2);have ou:Hd (NS (w7.setCell ⟨P,1,N⟩ (J (p_ g') (k+1) ai)) P (J (p_ g) is.length cp) (J (p_ g') (k+1) ai) sm (k+1) (ls.map (Mr n))):=NS.add X7.o mw.o Y1.o bv ae bw (by rw[HG.o];unfold Mr;rw[HU.o]);have uq:Below P w5 w7:=((hbP.trans (bv.mono qg)).alloc qg _).grown ae qj (λm hm=>by have:=(mw.o.lt m hm).1;omega);(have T4:P+1≤w7.heap.size:=by have h2:=ae.size;simp at h2;omega);(have fz:w7.frozen? ⟨P,1,N⟩=false:=by rw[ae.frozen_far ⟨P,1,N⟩ qj vd.o];exact fH (by rw[Lib.alloc_old _ _ _ qg];exact(X7.o.bl bv).blk) 1);refine hK.out _ _ (λ_=>⟨x0,x1,x2,x3⟩) (λiy=>?_);replace iy:=iy qh;clear hK K fw ae bw;simp only[gX];refine Lt.ti (i:=22) (v:=?_) iy ?_ ?_;rotate_left 1
    ·exact qbn
    simp only[gX];refine Lt.sp (i:=23) (λK hK=>?_);go_simp;refine hK.out _ _ (λh=>absurd rfl h) (λ_=>?_);clear hK K iy;refine Lt.done qk ?_ _;go_wp2;go_roundw
    case rel=>exact⟨k+1,_,qg,qp,ou.o,Ds HA.o (by rw[ES.o];exact nh),uq.setCell (p:=⟨P,1,N⟩) (Nat.le_refl _) _,by simpa using T4⟩
    case measure=>simp[intOf];omega
   ·have gy:=Cg nh
    have kbr:wr.heap[w.heap.size+1+1]?=M (O #[nS,nS,ze] 56 (0,0)):=qfv;obtain⟨r0,r1,r2⟩:=ck3 kbr;have fr:=fZ kbr;have hR:w.heap.size≤w.heap.size+1+1:=qg;clear kbr bu
    go_wp2_with (go_at_call 59;refine(Bb s.name _ G7).mono ?_;rintro e w9 ⟨rfl,rfl⟩;rw[gy])
    exact bR (v:=G #[nS,nS,ze]) (by simp[results,results109,go_sem,r0,r1,r2]) rfl ⟨((hw.setCell (p:=⟨w.heap.size+1+1,0,N⟩) hR _).setCell (p:=⟨w.heap.size+1+1,1,N⟩) hR _).setCell (p:=⟨w.heap.size+1+1,2,N⟩) hR _,Or.inr ⟨⟨k,au,by rw[ES.o];exact nh⟩,rfl⟩⟩
  ·have ek:k=ls.length:=qg
   subst ek;obtain⟨c0,c1,c2⟩:=HN.o.cell;obtain⟨ys,mz,hfy⟩:=HN.o.own;have kbr:wr.heap[w.heap.size+1+1]?=M (O #[nS,nS,ze] 56 (0,0)):=qfv;obtain⟨r0,r1,r2⟩:=ck3 kbr;have fr:=fZ kbr;have hR:w.heap.size≤w.heap.size+1+1:=qg
   have o1:wr.ownsRow w.heap.size 103 3 (J (p_ g) is.length cp) is.length (Cy is):=by
    refine⟨HO5.o.1,?_⟩
    rcases HO5.o.2 with⟨h2,_⟩|⟨g',cap,cur,hv,hg,hh,r⟩
    ·cases h2
    ·cases hv
     exact Or.inr ⟨g,cp,cur,rfl,hg,by rw[bu.block g hgP];exact hh,r⟩
   have fc:Hd (wr.ownsRow w.heap.size 103 3 (J (p_ g) is.length cp) is.length (Cy is)):=o1;have mw:Hd (wr.ownsRow w.heap.size 79 3 v ls.length ys):=Al mz qg;(have HV:Hd (∀b,v.ownBlock=M b→b≠w.heap.size+1+1):=λb hb=>by have:=(mz.lt b hb).1;omega);have Y1:Hd (Be (ls.map (Mr n)) ls.length ys):=hfy
   obtain⟨va,vn,vc,rfl⟩:∃va vn vc,v=J va vn vc:=by
    rcases Dc mz with⟨h,_⟩|⟨g',c',h⟩
    ·exact⟨_,_,_,h⟩
    ·exact⟨_,_,_,h⟩
   clear kbr bu o1 mz hfy HN;go_wp2;refine bR (v:=G #[J (p_ g) is.length cp,J va vn vc,S sm]) (by simp[results,results109,go_sem,r0,r1,r2]) rfl ⟨((hw.setCell (p:=⟨w.heap.size+1+1,0,N⟩) hR _).setCell (p:=⟨w.heap.size+1+1,1,N⟩) hR _).setCell (p:=⟨w.heap.size+1+1,2,N⟩) hR _,Or.inl ⟨HA.o,_,_,by rw[ESM.o],Cy is,ys,?_,Ez is,?_,by rw[List.length_map];exact Y1.o⟩⟩
   ·have aq:∀b,(Value.slice (p_ g) is.length cp).ownBlock=M b→b≠w.heap.size+1+1:=λb hb=>by cases hb;show g≠_;omega
    exact Ga (Ga (Ga fc.o aq _) aq _) aq _
   ·rw[List.length_map]
    exact Ga (Ga (Ga mw.o HV.o _) HV.o _) HV.o _
end Go.Proofs.YtoihflimijabjaaGreatDoor
