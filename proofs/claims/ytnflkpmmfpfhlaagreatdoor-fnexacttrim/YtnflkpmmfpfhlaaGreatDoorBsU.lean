import Derived.Test.YtnflkpmmfpfhlaaGreatDoorBsA
namespace Go.Proofs.YtnflkpmmfpfhlaaGreatDoor
open Value renaming slice->J,string->S,bool->F,agg->G
open Option renaming some->M,none->N
open Obj renaming cells->O
open Go renaming World->E
open Ending renaming returned->H
open _root_ renaming Nat->X
set_option maxHeartbeats 4000000
set_option maxRecDepth 100000
open _root_.Go.Proofs.Tryz Go.RowKit Go.Deep
set_option linter.unusedVariables false
set_option linter.unusedSimpArgs false
theorem Ur{s t:By}(h:s.toList=t.toList):s=t:=by
 rw[ByteArray.toList_eq,ByteArray.toList_eq]at h;exact ByteArray.ext (Array.ext' h)
theorem ix_ext{is js:List I3}(hl:is.length=js.length)(h:∀j,j<is.length→ix is j=ix js j):is=js:=by
 apply List.ext_getElem hl;intro i h1 h2;have:=h i h1;unfold ix at this
 rwa [gG,Hq h1,gG,Hq h2]at this
theorem l5Same_any(a a':Option Addr)(ic jc:X)(is js:List I3)(w:E)(hc:Cn w a is)(pa:Cn w a' js)(hl:is.length≤1048576)(M3:js.length≤1048576):Calls prog 106 #[G #[J a is.length ic],G #[J a' js.length jc]] w λe w'=>Bw w w'∧∃b,e=H (F b)∧(b=true↔is=js):=by
 obtain⟨W,eW⟩:=Aj ((w.alloc (O #[J a is.length ic] 70)).alloc (O #[J a' js.length jc] 70));have cj:Bw w W:=eW▸(aN _ _).alloc qi _;have c1:W.cell? ⟨w.heap.size,0,N⟩=M (J a is.length ic):=by rw[←eW];simp[go_sem]
 have c2:W.cell? ⟨w.heap.size+1,0,N⟩=M (J a' js.length jc):=by rw[←eW];simp[go_sem]
 by_cases hn:is.length=js.length
 ·obtain⟨n,D1⟩:∃n,Hd (is.length=n):=⟨_,rfl⟩
  have HLB:=Ab (hn.symm.trans D1.o);rw[D1.o]at c1 hl eW ⊢;rw[HLB.o]at c2 M3 eW ⊢;clear hn;have U3:((n:Int) != (n:Int))=false:=qi;go_enter func106,ntmps106;go_wp2;clear eW
  go_loopw [5] (λi wr=>∃k:X,k≤n∧i=I k∧Hd (∀j,j<k→ix is j=ix js j)∧wr.cell? ⟨w.heap.size,0,N⟩=M (J a n ic)∧wr.cell? ⟨w.heap.size+1,0,N⟩=M (J a' n jc)∧Bw w wr) (λi _=>n-(intOf i).toNat)
  case atStart=>exact⟨0,Nat.zero_le _,rfl,(λj hj=>qg),c1,c2,cj⟩
  case round=>
   clear c1 c2 cj;obtain⟨k,hk,rfl,HN,c1,c2,hB⟩:=hrel
   by_cases ai:k<n
   ·obtain⟨b,off,rfl,e1,e2,e3⟩:=(hc.bl hB) k (zo D1.o)
    obtain⟨b',bz,rfl,f1,f2,f3⟩:=(pa.bl hB) k (zo HLB.o);have fs:(k:Int)<(n:Int):=qg;have jn:(0:Int)≤(k:Int):=qg;have oq:Hd (ix is k≠ix js k→(false=true↔is=js)):=λhne=>⟨λh=>(by cases h),λe=>absurd (by rw[e]) hne⟩
    have zb:Hd (ix is k=ix js k→∀j,j<k+1→ix is j=ix js j):=λhe j hj=>by
     exact qmu
    generalize ix is k=x at *;generalize ix js k=y at *;obtain⟨x0,x1,x2⟩:=x;obtain⟨y0,y1,y2⟩:=y;dsimp only at e1 e2 e3 f1 f2 f3
    by_cases h0:x0=y0
    ·subst h0
     by_cases h1:x1=y1
     ·subst h1
      by_cases h2:x2=y2
      ·subst h2
       have S4:=Ab (zb.o rfl);clear zb oq HN;go_wp2_with fail
       go_region_held3 (λw'=>w'.cell? ⟨w.heap.size,0,N⟩=M (J (M ⟨b,off,N⟩) n ic)∧w'.cell? ⟨w.heap.size+1,0,N⟩=M (J (M ⟨b',bz,N⟩) n jc)∧w'.cell? ⟨b,off+k*3,N⟩=M (I x0)∧w'.cell? ⟨b,off+k*3+1,N⟩=M (S x1)∧w'.cell? ⟨b,off+k*3+2,N⟩=M (I x2)∧w'.cell? ⟨b',bz+k*3,N⟩=M (I x0)∧w'.cell? ⟨b',bz+k*3+1,N⟩=M (S x1)∧w'.cell? ⟨b',bz+k*3+2,N⟩=M (I x2))
        (first|assumption|(simp[*];done)) (fail)
       all_goals
        go_wp2;exact⟨⟨k+1,qg,qm,S4.o,c1,c2,hB.drew⟩,qap⟩
      ·have hq:=h2
       have dd:=hq;have D0:=Ab (oq.o (λe=>hq qax));clear zb oq HN hq h2;go_wp2_with fail
       go_region_held3 (λw'=>w'.cell? ⟨w.heap.size,0,N⟩=M (J (M ⟨b,off,N⟩) n ic)∧w'.cell? ⟨w.heap.size+1,0,N⟩=M (J (M ⟨b',bz,N⟩) n jc)∧w'.cell? ⟨b,off+k*3,N⟩=M (I x0)∧w'.cell? ⟨b,off+k*3+1,N⟩=M (S x1)∧w'.cell? ⟨b,off+k*3+2,N⟩=M (I x2)∧w'.cell? ⟨b',bz+k*3,N⟩=M (I x0)∧w'.cell? ⟨b',bz+k*3+1,N⟩=M (S x1)∧w'.cell? ⟨b',bz+k*3+2,N⟩=M (I y2))
        (first|assumption|(simp[*];done)) (fail)
       all_goals
        go_wp2;exact qgl
     ·have hq:=h1
      have dd:¬ (x1.toList=y1.toList):=λe=>hq (Ur e);have D0:=Ab (oq.o (λe=>hq qax));clear zb oq HN hq h1;go_wp2_with fail
      go_region_held3 (λw'=>w'.cell? ⟨w.heap.size,0,N⟩=M (J (M ⟨b,off,N⟩) n ic)∧w'.cell? ⟨w.heap.size+1,0,N⟩=M (J (M ⟨b',bz,N⟩) n jc)∧w'.cell? ⟨b,off+k*3,N⟩=M (I x0)∧w'.cell? ⟨b,off+k*3+1,N⟩=M (S x1)∧w'.cell? ⟨b,off+k*3+2,N⟩=M (I x2)∧w'.cell? ⟨b',bz+k*3,N⟩=M (I x0)∧w'.cell? ⟨b',bz+k*3+1,N⟩=M (S y1)∧w'.cell? ⟨b',bz+k*3+2,N⟩=M (I y2))
       (first|assumption|(simp[*];done)) (fail)
      all_goals
       go_wp2;exact qgl
    ·have hq:=h0
     have dd:=hq;have D0:=Ab (oq.o (λe=>hq qax));clear zb oq HN hq h0;go_wp2_with fail
     go_region_held3 (λw'=>w'.cell? ⟨w.heap.size,0,N⟩=M (J (M ⟨b,off,N⟩) n ic)∧w'.cell? ⟨w.heap.size+1,0,N⟩=M (J (M ⟨b',bz,N⟩) n jc)∧w'.cell? ⟨b,off+k*3,N⟩=M (I x0)∧w'.cell? ⟨b,off+k*3+1,N⟩=M (S x1)∧w'.cell? ⟨b,off+k*3+2,N⟩=M (I x2)∧w'.cell? ⟨b',bz+k*3,N⟩=M (I y0)∧w'.cell? ⟨b',bz+k*3+1,N⟩=M (S y1)∧w'.cell? ⟨b',bz+k*3+2,N⟩=M (I y2))
      (first|assumption|(simp[*];done)) (fail)
     all_goals
      go_wp2;exact qgl
   ·exact qjr
 ·have U3:((is.length:Int) != (js.length:Int))=true:=qj
  have D0:Hd (false=true↔is=js):=⟨λh=>(by cases h),λe=>absurd (by rw[e]) hn⟩;go_enter func106,ntmps106;go_wp2;go_ret;exact⟨cj,false,rfl,D0.o⟩
theorem Xa(a la ca:Option Addr)(ac lc cc:X)(is:List I3)(ls:List G3)(c:Int)(t:By)(nc:X)(n:X)(out:By)(w:E)(hr:Cn w a is)(hlr:Gf w la ls)(hl:is.length≤1048576)(hx:∀i,(ix is i).text.size≤9223372036854775807)(hls:ls.length≤200)(HF:Hd (∀(a:Option Addr)(cap:X)(w:E),Calls prog 114 #[G #[I c,S t,J a nc cap]] w λe w'=>e=H (S out)∧Bw w w'))(hp:Av is=true)(h1:1≤n)(h2:n≤8)(ho:out≠⟨#[]⟩)(hos:out.size≤2002)(Q2:∀i,i<ls.length→(gx ls i).sum.size≤1048576)(cz:∀i,(gx ls i).name.size≤9223372036854775807):Calls prog 136 #[G #[J a is.length ac],J la ls.length lc,G #[I c,S t,J ca nc cc],I n] w λe w'=>Bw w w'∧(((∀i,i<ls.length→Ao (gx ls i).name)∧∃v1 v2,e=H (G #[v1,v2,S (Ap n out)])∧RecOwn w.heap.size w' v1 v2 is (ls.map (Lq n)))∨((∃i,i<ls.length∧¬ Ao (gx ls i).name)∧e=H (G #[nS,nS,ze]))):=by
 have E8:1≤is.length:=by
  exact qnj
 have hoe:out.toList.isEmpty=false:=by
  exact qlj
 have ak:Bw w (((w.alloc (O #[J a is.length ac] 70)).alloc (O #[I c,S t,J ca nc cc] 65)).alloc (O #[nS,nS,ze] 73)):=((aN _ _).alloc qi _).alloc qj _;go_enter func136,ntmps136;go_wp2_with fail;refine(HF.o _ _ _).mono ?_;rintro e w1 ⟨rfl,ag⟩;have bm:=bt ak ag;have p0:w1.cell? ⟨w.heap.size,0,N⟩=M (J a is.length ac):=Aa ag qo
 have kb:w1.heap[w.heap.size+1+1]?=M (O #[nS,nS,ze] 73 (0,0)):=by
  exact qiw
 clear ak ag;go_wp2_with fail;refine(Ik a ac is _ (hr.bl bm) hl hx).mono ?_;rintro e w2 ⟨af,rfl⟩;have bg:=bt bm af;have q0:=Aa af p0;have kb2:w2.heap[w.heap.size+1+1]?=M (O #[nS,nS,ze] 73 (0,0)):=by rw[af.block _ (Gc kb)];exact kb
 have fg:=Gc kb2;rw[hp];clear bm p0 kb af
 go_wp2_with (first|(go_at_call 54;refine(Kv n _ qg qg).mono ?_;rintro e w9 ⟨rfl,rfl⟩))
 refine(Xi a ac is _ (hr.bl bg) E8 hl).mono ?_;rintro e w3 ⟨au,g,cp,rfl,ah⟩;have ig:=bt bg au;have kb3:w3.heap[w.heap.size+1+1]?=M (O #[nS,nS,ze] 73 (0,0)):=by rw[au.block _ (Gc kb2)];exact kb2
 have A6:=Ab ah;clear bg q0 kb2 au ah;go_wp2_with fail;refine(Ex out n _ qg h1 h2).mono ?_;rintro e w4 ⟨rfl,bp⟩;have jj:=bt ig bp;have kb4:w4.heap[w.heap.size+1+1]?=M (O #[nS,nS,ze] 73 (0,0)):=by rw[bp.block _ (Gc kb3)];exact kb3
 have pk:=Ab (Ad A6.o bp);clear ig kb3 bp A6;obtain⟨sm,esm⟩:=Aj (Ap n out);have ESM:=Ab esm;rw[show(⟨(Ii (Df out.data.toList) n).toArray⟩:By)=sm from esm];clear esm;obtain⟨P,eP⟩:=Aj w4.heap.size;obtain⟨w5,ew5⟩:=Aj (w4.alloc (O #[J (p_ g) is.length cp,nS,S sm] 73));have hw5:w5.heap.size=P+1:=by rw[←ew5,←eP];simp
 have zb:Hd (NS w5 P (J (p_ g) is.length cp) nS sm 0 (ls.map (Lq n))):=by
  exact qmp
 have C7:Bw w w5:=by rw[←ew5];exact jj.alloc jj.size _
 have hwP:w.heap.size+1+1<P:=by rw[←eP];exact Gc kb4
 have KB5:Hd (w5.heap[w.heap.size+1+1]?=M (O #[nS,nS,ze] 73 (0,0))):=by show _=_;rw[←ew5,Lib.alloc_old _ _ _ qg];exact kb4
 have S3:Hd (w5.ownsRow w.heap.size 174 3 (J (p_ g) is.length cp) is.length (Fd is)):=by show World.ownsRow _ _ _ _ _ _ _;rw[←ew5];exact Ah (pk.o.alloc _) qg
 have hgR:w.heap.size+1+1<g:=zo ((pk.o.lt g rfl).1);have hgP:g<P:=by rw[←eP];exact(pk.o.lt g rfl).2
 go_wp2;clear ew5 eP jj kb4 pk;have C9:=Ab hw5;clear hw5
 go_loopw [11] (λi wr=>∃(k:X)(v:Value),k≤ls.length∧i=I k∧Hd (NS wr P (J (p_ g) is.length cp) v sm k (ls.map (Lq n)))∧Hd (∀j,j<k→Ao (gx ls j).name)∧Below P w5 wr∧P+1≤wr.heap.size) (λi _=>ls.length-(intOf i).toNat)
 case atStart=>exact⟨0,_,Nat.zero_le _,rfl,zb.o,(λj hj=>by omega:∀j,j<0→Ao (gx ls j).name),Below.refl _ _,by rw[C9.o];exact Nat.le_refl _⟩
 case round=>
  obtain⟨k,v,hk,rfl,HN,HA,bc,de⟩:=hrel;clear zb HF;have hw:Bw w wr:=C7.trans (bc.mono qg)
  by_cases ai:k<ls.length
  ·obtain⟨b,off,rfl,c1,c2,c3⟩:=(hlr.bl hw) k ai
   have jr:Hd (b<w.heap.size):=by
    obtain⟨b',bz,e',k1,_⟩:=hlr k ai
    cases e'
    exact World.block_lt_of_cell? _ _ k1
   have ge:=Q2 k ai;have U4:=cz k;have hgk:=gx_map n ls k ai;obtain⟨s,es⟩:=Aj (gx ls k);rw[es]at c1 c2 c3 ge U4 hgk;have ES:=Ab es;have HG:=Ab hgk;clear es hgk Q2 cz hlr hr;have fs:(k:Int)<(ls.length:Int):=qg;have jn:(0:Int)≤(k:Int):=qg
   by_cases ip:Ao s.name
   ·have ll:=Dc ip
    obtain⟨_,cP,_⟩:=HN.o.cell;have pe:P<wr.heap.size:=qg
    go_wp2_with (go_at_call 76;refine(Cf s.name _ U4).mono ?_;rintro e w9 ⟨rfl,rfl⟩;rw[ll])
    have bv:=jr.o;obtain⟨ys0,H0,_⟩:=HN.o.own;(have HVQ:Hd (M b≠v.ownBlock):=λe=>by have:=(H0.lt b e.symm).1;omega);(have HVP:Hd (M P≠v.ownBlock):=λe=>by have:=(H0.lt P e.symm).1;omega);have HNW:=HN;have f9:=bc;have dP:=cP;clear cP pe H0 HN;obtain⟨u,eu⟩:=Aj (Ap n s.sum);(have HS:Hd (∀W':E,Calls prog 27 #[S s.sum,I n] W' λe w'=>e=H (S u)∧Bw W' w'):=λW'=>by rw[←eu];exact Ex s.sum n W' ge h1 h2);have HU:=Ab eu;clear eu;obtain⟨ys,rm,zu⟩:=HNW.o.own;have um:=Ab rm;have D2:=Ab zu;clear rm zu;refine Lt.begin 23 (λw'=>w'.cell? ⟨P,1,N⟩=M v∧w'.cell? ⟨b,off+k*3,N⟩=M (S s.name)∧w'.cell? ⟨b,off+k*3+1,N⟩=M (F s.ask)∧w'.cell? ⟨b,off+k*3+2,N⟩=M (S s.sum)) qk ?_;have gz:wr.drew.cell? ⟨P,1,N⟩=M v∧wr.drew.cell? ⟨b,off+k*3,N⟩=M (S s.name)∧wr.drew.cell? ⟨b,off+k*3+1,N⟩=M (F s.ask)∧wr.drew.cell? ⟨b,off+k*3+2,N⟩=M (S s.sum):=qu;change K 0 _
    iterate 18
     refine Lt.ti (v:=?_) gz ?_ ?_;rotate_left 1
     ·exact qar
     simp only[gX]
    refine Lt.sp (i:=18) (λK hK=>?_);go_simp;refine(HS.o _).mono ?_;rintro e w6 ⟨rfl,bj⟩;have bo:Bw wr w6:=(Below.drew (Below.refl _ _)).trans (bj.mono qi);refine hK.out _ _ (λ_=>⟨Aa bo dP,Aa bo c1,Aa bo c2,Aa bo c3⟩) (λmu=>?_);replace mu:=mu qh;clear hK K gz bj;refine Lt.ti (i:=19) (v:=?_) mu ?_ ?_;rotate_left 1
    ·exact qar
    simp only[gX];refine Lt.sp (i:=20) (λK hK=>?_);go_simp;refine hK.out _ _ (λ_=>⟨Ns mu.1,Ns mu.2.1,Ns mu.2.2.1,Ns mu.2.2.2⟩) (λlx=>?_);replace lx:=lx qh;clear hK K mu;refine Lt.sp (i:=21) (λK hK=>?_);refine Yf rfl qt (P+1) v k ys qt ((Ad um.o bo).alloc _) w6.heap.size s.name s.ask u qt (Oe _ _) (by have:=bo.size;simp;omega) qg ?_;intro g' aj w7 d9 ae;have hsz6:=bo.size;(have x0:w7.cell? ⟨P,1,N⟩=M v:=by rw[ae.cell_far ⟨P,1,N⟩ qj HVP.o];exact lx.1);(have x1:w7.cell? ⟨b,off+k*3,N⟩=M (S s.name):=by rw[ae.cell_far ⟨b,off+k*3,N⟩ qj HVQ.o];exact lx.2.1);(have x2:w7.cell? ⟨b,off+k*3+1,N⟩=M (F s.ask):=by rw[ae.cell_far ⟨b,off+k*3+1,N⟩ qj HVQ.o];exact lx.2.2.1);(have x3:w7.cell? ⟨b,off+k*3+2,N⟩=M (S s.sum):=by rw[ae.cell_far ⟨b,off+k*3+2,N⟩ qj HVQ.o];exact lx.2.2.2);have HNP:Hd (NS (w7.setCell ⟨P,1,N⟩ (J (p_ g') (k+1) aj)) P (J (p_ g) is.length cp) (J (p_ g') (k+1) aj) sm (k+1) (ls.map (Lq n))):=NS.add HNW.o um.o D2.o bo ae d9 (by rw[HG.o];unfold Lq;rw[HU.o]);have hbP7:Below P w5 w7:=((f9.trans (bo.mono qg)).alloc qg _).grown ae qj (λm hm=>by have:=(um.o.lt m hm).1;omega);(have hs7:P+1≤w7.heap.size:=by have h2:=ae.size;simp at h2;omega);(have fz:w7.frozen? ⟨P,1,N⟩=false:=by rw[ae.frozen_far ⟨P,1,N⟩ qj HVP.o];exact fH (by rw[Lib.alloc_old _ _ _ qg];exact(HNW.o.bl bo).blk) 1);refine hK.out _ _ (λ_=>⟨x0,x1,x2,x3⟩) (λF5=>?_);replace F5:=F5 qh;clear hK K lx ae d9;simp only[gX];refine Lt.ti (i:=22) (v:=?_) F5 ?_ ?_;rotate_left 1
    ·exact qar
    simp only[gX];refine Lt.sp (i:=23) (λK hK=>?_);exact qje
   ·have ll:=Ct ip
    have kbr:wr.heap[w.heap.size+1+1]?=M (O #[nS,nS,ze] 73 (0,0)):=qem;obtain⟨r0,r1,r2⟩:=ck3 kbr;have fr:=fZ kbr;have hR:w.heap.size≤w.heap.size+1+1:=qg;clear kbr bc
    go_wp2_with (go_at_call 76;refine(Cf s.name _ U4).mono ?_;rintro e w9 ⟨rfl,rfl⟩;rw[ll])
    exact bR (v:=G #[nS,nS,ze]) (by simp[results,results136,go_sem,r0,r1,r2]) rfl ⟨((hw.setCell (p:=⟨w.heap.size+1+1,0,N⟩) hR _).setCell (p:=⟨w.heap.size+1+1,1,N⟩) hR _).setCell (p:=⟨w.heap.size+1+1,2,N⟩) hR _,Or.inr ⟨⟨k,ai,by rw[ES.o];exact ip⟩,rfl⟩⟩
  ·have ek:k=ls.length:=qg
   subst ek;obtain⟨c0,c1,c2⟩:=HN.o.cell;obtain⟨ys,rm,zu⟩:=HN.o.own;have kbr:wr.heap[w.heap.size+1+1]?=M (O #[nS,nS,ze] 73 (0,0)):=qem;obtain⟨r0,r1,r2⟩:=ck3 kbr;have fr:=fZ kbr;have hR:w.heap.size≤w.heap.size+1+1:=qg
   have o1:wr.ownsRow w.heap.size 174 3 (J (p_ g) is.length cp) is.length (Fd is):=by
    exact qkb
   have lj:=Ab o1;have um:Hd (wr.ownsRow w.heap.size 115 3 v ls.length ys):=Ah rm qg;(have HV:Hd (∀b,v.ownBlock=M b→b≠w.heap.size+1+1):=λb hb=>by have:=(rm.lt b hb).1;omega);have D2:=Ab zu
   obtain⟨va,vn,vc,rfl⟩:∃va vn vc,v=J va vn vc:=by
    exact qmj
   clear kbr bc o1 rm zu HN;go_wp2;refine bR (v:=G #[J (p_ g) is.length cp,J va vn vc,S sm]) (by simp[results,results136,go_sem,r0,r1,r2]) rfl ⟨((hw.setCell (p:=⟨w.heap.size+1+1,0,N⟩) hR _).setCell (p:=⟨w.heap.size+1+1,1,N⟩) hR _).setCell (p:=⟨w.heap.size+1+1,2,N⟩) hR _,Or.inl ⟨HA.o,_,_,by rw[ESM.o],Fd is,ys,?_,Iz is,?_,by rw[List.length_map];exact D2.o⟩⟩
   ·exact qju
   ·exact qnb
end Go.Proofs.YtnflkpmmfpfhlaaGreatDoor
