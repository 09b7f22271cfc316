import Derived.Test.YtoakjccojifagaaGreatDoorVsN
namespace Go.Proofs.YtoakjccojifagaaGreatDoor
open Value renaming slice->J,string->S,bool->F,agg->G
open Option renaming some->M,none->N
open Obj renaming cells->O
open Go renaming World->E
open Ending renaming returned->H
open _root_ renaming Nat->X
set_option maxHeartbeats 4000000
set_option maxRecDepth 100000
open _root_.Go.Proofs.Tryz Go.RowKit Go.Deep
set_option linter.unusedVariables false
set_option linter.unusedSimpArgs false
theorem Ub{s t:By}(h:s.toList=t.toList):s=t:=by
 rw[ByteArray.toList_eq,ByteArray.toList_eq]at h;exact ByteArray.ext (Array.ext' h)
theorem ix_ext{is js:List I3}(hl:is.length=js.length)(h:∀j,j<is.length→ix is j=ix js j):is=js:=by
 apply List.ext_getElem hl;intro i h1 h2;have:=h i h1;unfold ix at this
 rwa [gG,Jr h1,gG,Jr h2]at this
theorem l5Same_any(a a':Option Addr)(ic jc:X)(is js:List I3)(w:E)(hc:Ch w a is)(o6:Ch w a' js)(hl:is.length≤1048576)(K9:js.length≤1048576):Calls prog 117 #[G #[J a is.length ic],G #[J a' js.length jc]] w λe w'=>Bw w w'∧∃b,e=H (F b)∧(b=true↔is=js):=by
 obtain⟨W,eW⟩:=Aj ((w.alloc (O #[J a is.length ic] 92)).alloc (O #[J a' js.length jc] 92));have bq:Bw w W:=eW▸(aN _ _).alloc qg _;have c1:W.cell? ⟨w.heap.size,0,N⟩=M (J a is.length ic):=by rw[←eW];simp[go_sem]
 have c2:W.cell? ⟨w.heap.size+1,0,N⟩=M (J a' js.length jc):=by rw[←eW];simp[go_sem]
 by_cases hn:is.length=js.length
 ·obtain⟨n,C8⟩:∃n,Hd (is.length=n):=⟨_,rfl⟩
  have HLB:Hd (js.length=n):=hn.symm.trans C8.o;rw[C8.o]at c1 hl eW ⊢;rw[HLB.o]at c2 K9 eW ⊢;clear hn;have T4:((n:Int) != (n:Int))=false:=qg;go_enter func117,ntmps117;go_wp2;clear eW
  go_loopw [5] (λi wr=>∃k:X,k≤n∧i=I k∧Hd (∀j,j<k→ix is j=ix js j)∧wr.cell? ⟨w.heap.size,0,N⟩=M (J a n ic)∧wr.cell? ⟨w.heap.size+1,0,N⟩=M (J a' n jc)∧Bw w wr) (λi _=>n-(intOf i).toNat)
  case atStart=>exact⟨0,Nat.zero_le _,rfl,(λj hj=>qb),c1,c2,bq⟩
  case round=>
   clear c1 c2 bq;obtain⟨k,hk,rfl,HN,c1,c2,hB⟩:=hrel
   by_cases aj:k<n
   ·obtain⟨b,off,rfl,e1,e2,e3⟩:=(hc.bl hB) k (zo C8.o)
    obtain⟨b',br,rfl,f1,f2,f3⟩:=(o6.bl hB) k (zo HLB.o);have iy:(k:Int)<(n:Int):=qb;have jr:(0:Int)≤(k:Int):=qb;have ol:Hd (ix is k≠ix js k→(false=true↔is=js)):=λhne=>⟨λh=>(by cases h),λe=>absurd (by rw[e]) hne⟩
    have Ge:Hd (ix is k=ix js k→∀j,j<k+1→ix is j=ix js j):=λhe j hj=>by
     exact qme
    generalize ix is k=x at *;generalize ix js k=y at *;obtain⟨x0,x1,x2⟩:=x;obtain⟨y0,y1,y2⟩:=y;dsimp only at e1 e2 e3 f1 f2 f3
    by_cases h0:x0=y0
    ·subst h0
     by_cases h1:x1=y1
     ·subst h1
      by_cases h2:x2=y2
      ·subst h2
       have HN2:=Ad (Ge.o rfl);clear Ge ol HN;go_wp2_with fail
       go_region_held3 (λw'=>w'.cell? ⟨w.heap.size,0,N⟩=M (J (M ⟨b,off,N⟩) n ic)∧w'.cell? ⟨w.heap.size+1,0,N⟩=M (J (M ⟨b',br,N⟩) n jc)∧w'.cell? ⟨b,off+k*3,N⟩=M (I x0)∧w'.cell? ⟨b,off+k*3+1,N⟩=M (S x1)∧w'.cell? ⟨b,off+k*3+2,N⟩=M (I x2)∧w'.cell? ⟨b',br+k*3,N⟩=M (I x0)∧w'.cell? ⟨b',br+k*3+1,N⟩=M (S x1)∧w'.cell? ⟨b',br+k*3+2,N⟩=M (I x2))
        (first|assumption|(simp[*];done)) (fail)
       all_goals
        go_wp2;exact⟨⟨k+1,qb,qj,HN2.o,c1,c2,hB.drew⟩,qak⟩
      ·have hq:=h2
       have dd:¬ (x2=y2):=hq;have X0:=Ad (ol.o (λe=>hq qat));clear Ge ol HN hq h2;go_wp2_with fail
       go_region_held3 (λw'=>w'.cell? ⟨w.heap.size,0,N⟩=M (J (M ⟨b,off,N⟩) n ic)∧w'.cell? ⟨w.heap.size+1,0,N⟩=M (J (M ⟨b',br,N⟩) n jc)∧w'.cell? ⟨b,off+k*3,N⟩=M (I x0)∧w'.cell? ⟨b,off+k*3+1,N⟩=M (S x1)∧w'.cell? ⟨b,off+k*3+2,N⟩=M (I x2)∧w'.cell? ⟨b',br+k*3,N⟩=M (I x0)∧w'.cell? ⟨b',br+k*3+1,N⟩=M (S x1)∧w'.cell? ⟨b',br+k*3+2,N⟩=M (I y2))
        (first|assumption|(simp[*];done)) (fail)
       all_goals
        go_wp2;exact qgg
     ·have hq:=h1
      have dd:¬ (x1.toList=y1.toList):=λe=>hq (Ub e);have X0:=Ad (ol.o (λe=>hq qat));clear Ge ol HN hq h1;go_wp2_with fail
      go_region_held3 (λw'=>w'.cell? ⟨w.heap.size,0,N⟩=M (J (M ⟨b,off,N⟩) n ic)∧w'.cell? ⟨w.heap.size+1,0,N⟩=M (J (M ⟨b',br,N⟩) n jc)∧w'.cell? ⟨b,off+k*3,N⟩=M (I x0)∧w'.cell? ⟨b,off+k*3+1,N⟩=M (S x1)∧w'.cell? ⟨b,off+k*3+2,N⟩=M (I x2)∧w'.cell? ⟨b',br+k*3,N⟩=M (I x0)∧w'.cell? ⟨b',br+k*3+1,N⟩=M (S y1)∧w'.cell? ⟨b',br+k*3+2,N⟩=M (I y2))
       (first|assumption|(simp[*];done)) (fail)
      all_goals
       go_wp2;exact qgg
    ·have hq:=h0
     have dd:¬ (x0=y0):=hq;have X0:=Ad (ol.o (λe=>hq qat));clear Ge ol HN hq h0;go_wp2_with fail
     go_region_held3 (λw'=>w'.cell? ⟨w.heap.size,0,N⟩=M (J (M ⟨b,off,N⟩) n ic)∧w'.cell? ⟨w.heap.size+1,0,N⟩=M (J (M ⟨b',br,N⟩) n jc)∧w'.cell? ⟨b,off+k*3,N⟩=M (I x0)∧w'.cell? ⟨b,off+k*3+1,N⟩=M (S x1)∧w'.cell? ⟨b,off+k*3+2,N⟩=M (I x2)∧w'.cell? ⟨b',br+k*3,N⟩=M (I y0)∧w'.cell? ⟨b',br+k*3+1,N⟩=M (S y1)∧w'.cell? ⟨b',br+k*3+2,N⟩=M (I y2))
      (first|assumption|(simp[*];done)) (fail)
     all_goals
      go_wp2;exact qgg
   ·exact qje
 ·have T4:((is.length:Int) != (js.length:Int))=true:=qh
  have X0:Hd (false=true↔is=js):=⟨λh=>(by cases h),λe=>absurd (by rw[e]) hn⟩;go_enter func117,ntmps117;go_wp2;go_ret;exact⟨bq,false,rfl,X0.o⟩
theorem Wc(a la ca:Option Addr)(ac lc cc:X)(is:List I3)(ls:List G3)(c:Int)(t:By)(nc:X)(n:X)(out:By)(w:E)(hr:Ch w a is)(hlr:Gk w la ls)(hl:is.length≤1048576)(hx:∀i,(ix is i).text.size≤9223372036854775807)(hls:ls.length≤200)(HF:Hd (∀(a:Option Addr)(cap:X)(w:E),Calls prog 125 #[G #[I c,S t,J a nc cap]] w λe w'=>e=H (S out)∧Bw w w'))(hp:Ao is=true)(h1:1≤n)(h2:n≤8)(ho:out≠⟨#[]⟩)(hos:out.size≤2002)(O6:∀i,i<ls.length→(gx ls i).sum.size≤1048576)(de:∀i,(gx ls i).name.size≤9223372036854775807):Calls prog 148 #[G #[J a is.length ac],J la ls.length lc,G #[I c,S t,J ca nc cc],I n] w λe w'=>Bw w w'∧(((∀i,i<ls.length→Ar (gx ls i).name)∧∃v1 v2,e=H (G #[v1,v2,S (Aq n out)])∧RecOwn w.heap.size w' v1 v2 is (ls.map (Hm n)))∨((∃i,i<ls.length∧¬ Ar (gx ls i).name)∧e=H (G #[nS,nS,ze]))):=by
 have E4:1≤is.length:=by
  exact qmu
 have hoe:out.toList.isEmpty=false:=by
  exact qku
 have ak:Bw w (((w.alloc (O #[J a is.length ac] 92)).alloc (O #[I c,S t,J ca nc cc] 121)).alloc (O #[nS,nS,ze] 95)):=((aN _ _).alloc qg _).alloc qh _;go_enter func148,ntmps148;go_wp2_with fail;refine(HF.o _ _ _).mono ?_;rintro e w1 ⟨rfl,af⟩;have bj:=bt ak af;have p0:w1.cell? ⟨w.heap.size,0,N⟩=M (J a is.length ac):=Aa af qk
 have kb:w1.heap[w.heap.size+1+1]?=M (O #[nS,nS,ze] 95 (0,0)):=by
  exact qik
 clear ak af;go_wp2_with fail;refine(Ip a ac is _ (hr.bl bj) hl hx).mono ?_;rintro e w2 ⟨ag,rfl⟩;have bg:=bt bj ag;have q0:=Aa ag p0;have kb2:w2.heap[w.heap.size+1+1]?=M (O #[nS,nS,ze] 95 (0,0)):=by rw[ag.block _ (Fw kb)];exact kb
 have fm:w.heap.size+1+1<w2.heap.size:=Fw kb2;rw[hp];clear bj p0 kb ag
 go_wp2_with (first|(go_at_call 44;refine(Kr n _ qb qb).mono ?_;rintro e w9 ⟨rfl,rfl⟩))
 refine(Wk a ac is _ (hr.bl bg) E4 hl).mono ?_;rintro e w3 ⟨au,g,cp,rfl,ah⟩;have ip:=bt bg au;have kb3:w3.heap[w.heap.size+1+1]?=M (O #[nS,nS,ze] 95 (0,0)):=by rw[au.block _ (Fw kb2)];exact kb2
 have M7:Hd (w3.ownsRow w2.heap.size 139 3 (J (p_ g) is.length cp) is.length (Dp is)):=ah;clear bg q0 kb2 au ah;go_wp2_with fail;refine(Fp out n _ qb h1 h2).mono ?_;rintro e w4 ⟨rfl,ce⟩;have jn:=bt ip ce;have kb4:w4.heap[w.heap.size+1+1]?=M (O #[nS,nS,ze] 95 (0,0)):=by rw[ce.block _ (Fw kb3)];exact kb3
 have se:Hd (w4.ownsRow w2.heap.size 139 3 (J (p_ g) is.length cp) is.length (Dp is)):=Ac M7.o ce;clear ip kb3 ce M7;obtain⟨sm,esm⟩:=Aj (Aq n out);have ESM:Hd (Aq n out=sm):=esm;rw[show(⟨(Ij (Co out.data.toList) n).toArray⟩:By)=sm from esm];clear esm;obtain⟨P,eP⟩:=Aj w4.heap.size;obtain⟨w5,Y8⟩:=Aj (w4.alloc (O #[J (p_ g) is.length cp,nS,S sm] 95));have hw5:w5.heap.size=P+1:=by rw[←Y8,←eP];simp
 have Ge:Hd (NS w5 P (J (p_ g) is.length cp) nS sm 0 (ls.map (Hm n))):=by
  exact qlz
 have B7:Bw w w5:=by rw[←Y8];exact jn.alloc jn.size _
 have hwP:w.heap.size+1+1<P:=by rw[←eP];exact Fw kb4
 have KB5:Hd (w5.heap[w.heap.size+1+1]?=M (O #[nS,nS,ze] 95 (0,0))):=by show _=_;rw[←Y8,Lib.alloc_old _ _ _ qb];exact kb4
 have R5:Hd (w5.ownsRow w.heap.size 139 3 (J (p_ g) is.length cp) is.length (Dp is)):=by show World.ownsRow _ _ _ _ _ _ _;rw[←Y8];exact Ah (se.o.alloc _) qb
 have hgR:w.heap.size+1+1<g:=zo ((se.o.lt g rfl).1);have hgP:g<P:=by rw[←eP];exact(se.o.lt g rfl).2
 go_wp2;clear Y8 eP jn kb4 se;have C6:Hd (w5.heap.size=P+1):=hw5;clear hw5
 go_loopw [11] (λi wr=>∃(k:X)(v:Value),k≤ls.length∧i=I k∧Hd (NS wr P (J (p_ g) is.length cp) v sm k (ls.map (Hm n)))∧Hd (∀j,j<k→Ar (gx ls j).name)∧Below P w5 wr∧P+1≤wr.heap.size) (λi _=>ls.length-(intOf i).toNat)
 case atStart=>exact⟨0,_,Nat.zero_le _,rfl,Ge.o,(λj hj=>by omega:∀j,j<0→Ar (gx ls j).name),Below.refl _ _,by rw[C6.o];exact Nat.le_refl _⟩
 case round=>
  obtain⟨k,v,hk,rfl,HN,HA,bc,cz⟩:=hrel;clear Ge HF;have hw:Bw w wr:=B7.trans (bc.mono qb)
  by_cases aj:k<ls.length
  ·obtain⟨b,off,rfl,c1,c2,c3⟩:=(hlr.bl hw) k aj
   have ll:Hd (b<w.heap.size):=by
    obtain⟨b',br,e',k1,_⟩:=hlr k aj
    cases e'
    exact World.block_lt_of_cell? _ _ k1
   have gh:=O6 k aj;have T5:=de k;have hgk:=gx_map n ls k aj;obtain⟨s,es⟩:=Aj (gx ls k);rw[es]at c1 c2 c3 gh T5 hgk;have ES:Hd (gx ls k=s):=es;have HG:Hd (gx (ls.map (Hm n)) k=Hm n s):=hgk;clear es hgk O6 de hlr hr;have iy:(k:Int)<(ls.length:Int):=qb;have jr:(0:Int)≤(k:Int):=qb
   by_cases im:Ar s.name
   ·have li:=Db im
    obtain⟨_,cP,_⟩:=HN.o.cell;have po:P<wr.heap.size:=qb
    go_wp2_with (go_at_call 47;refine(Cd s.name _ T5).mono ?_;rintro e w9 ⟨rfl,rfl⟩;rw[li])
    have bu:b<w.heap.size:=ll.o;obtain⟨ys0,G5,_⟩:=HN.o.own;(have HVQ:Hd (M b≠v.ownBlock):=λe=>by have:=(G5.lt b e.symm).1;omega);(have HVP:Hd (M P≠v.ownBlock):=λe=>by have:=(G5.lt P e.symm).1;omega);have HNW:=HN;have gk:=bc;have dP:=cP;clear cP po G5 HN;obtain⟨u,eu⟩:=Aj (Aq n s.sum);(have HS:Hd (∀W':E,Calls prog 45 #[S s.sum,I n] W' λe w'=>e=H (S u)∧Bw W' w'):=λW'=>by rw[←eu];exact Fp s.sum n W' gh h1 h2);have HU:Hd (Aq n s.sum=u):=eu;clear eu;obtain⟨ys,tw,zr⟩:=HNW.o.own;have C0:Hd (wr.ownsRow (P+1) 136 3 v k ys):=tw;have HFY:Hd (Bn (ls.map (Hm n)) k ys):=zr;clear tw zr;refine Lt.begin 23 (λw'=>w'.cell? ⟨P,1,N⟩=M v∧w'.cell? ⟨b,off+k*3,N⟩=M (S s.name)∧w'.cell? ⟨b,off+k*3+1,N⟩=M (F s.ask)∧w'.cell? ⟨b,off+k*3+2,N⟩=M (S s.sum)) qi ?_;have ia:wr.drew.cell? ⟨P,1,N⟩=M v∧wr.drew.cell? ⟨b,off+k*3,N⟩=M (S s.name)∧wr.drew.cell? ⟨b,off+k*3+1,N⟩=M (F s.ask)∧wr.drew.cell? ⟨b,off+k*3+2,N⟩=M (S s.sum):=qq;change K 0 _
    iterate 18
     refine Lt.ti (v:=?_) ia ?_ ?_;rotate_left 1
     ·exact qal
     simp only[gX]
    refine Lt.sp (i:=18) (λK hK=>?_);go_simp;refine(HS.o _).mono ?_;rintro e w6 ⟨rfl,bz⟩;have cj:Bw wr w6:=(Below.drew (Below.refl _ _)).trans (bz.mono qg);refine hK.out _ _ (λ_=>⟨Aa cj dP,Aa cj c1,Aa cj c2,Aa cj c3⟩) (λmr=>?_);replace mr:=mr qd;clear hK K ia bz;refine Lt.ti (i:=19) (v:=?_) mr ?_ ?_;rotate_left 1
    ·exact qal
    simp only[gX];refine Lt.sp (i:=20) (λK hK=>?_);go_simp;refine hK.out _ _ (λ_=>⟨Nk mr.1,Nk mr.2.1,Nk mr.2.2.1,Nk mr.2.2.2⟩) (λlm=>?_);replace lm:=lm qd;clear hK K mr;refine Lt.sp (i:=21) (λK hK=>?_);refine Xe rfl qo (P+1) v k ys qo ((Ac C0.o cj).alloc _) w6.heap.size s.name s.ask u qo (Nx _ _) (by have:=cj.size;simp;omega) qb ?_;intro g' ai w7 d9 ae;have hsz6:=cj.size;(have x0:w7.cell? ⟨P,1,N⟩=M v:=by rw[ae.cell_far ⟨P,1,N⟩ qh HVP.o];exact lm.1);(have x1:w7.cell? ⟨b,off+k*3,N⟩=M (S s.name):=by rw[ae.cell_far ⟨b,off+k*3,N⟩ qh HVQ.o];exact lm.2.1);(have x2:w7.cell? ⟨b,off+k*3+1,N⟩=M (F s.ask):=by rw[ae.cell_far ⟨b,off+k*3+1,N⟩ qh HVQ.o];exact lm.2.2.1);(have x3:w7.cell? ⟨b,off+k*3+2,N⟩=M (S s.sum):=by rw[ae.cell_far ⟨b,off+k*3+2,N⟩ qh HVQ.o];exact lm.2.2.2);have HNP:Hd (NS (w7.setCell ⟨P,1,N⟩ (J (p_ g') (k+1) ai)) P (J (p_ g) is.length cp) (J (p_ g') (k+1) ai) sm (k+1) (ls.map (Hm n))):=NS.add HNW.o C0.o HFY.o cj ae d9 (by rw[HG.o];unfold Hm;rw[HU.o]);have hbP7:Below P w5 w7:=((gk.trans (cj.mono qb)).alloc qb _).grown ae qh (λm hm=>by have:=(C0.o.lt m hm).1;omega);(have hs7:P+1≤w7.heap.size:=by have h2:=ae.size;simp at h2;omega);(have fz:w7.frozen? ⟨P,1,N⟩=false:=by rw[ae.frozen_far ⟨P,1,N⟩ qh HVP.o];exact fH (by rw[Lib.alloc_old _ _ _ qb];exact(HNW.o.bl cj).blk) 1);refine hK.out _ _ (λ_=>⟨x0,x1,x2,x3⟩) (λF3=>?_);replace F3:=F3 qd;clear hK K lm ae d9;simp only[gX];refine Lt.ti (i:=22) (v:=?_) F3 ?_ ?_;rotate_left 1
    ·exact qal
    simp only[gX];refine Lt.sp (i:=23) (λK hK=>?_);exact qis
   ·have li:=Cs im
    have kbr:wr.heap[w.heap.size+1+1]?=M (O #[nS,nS,ze] 95 (0,0)):=qen;obtain⟨r0,r1,r2⟩:=ck3 kbr;have fr:=fZ kbr;have hR:w.heap.size≤w.heap.size+1+1:=qb;clear kbr bc
    go_wp2_with (go_at_call 47;refine(Cd s.name _ T5).mono ?_;rintro e w9 ⟨rfl,rfl⟩;rw[li])
    exact bR (v:=G #[nS,nS,ze]) (by simp[results,results148,go_sem,r0,r1,r2]) rfl ⟨((hw.setCell (p:=⟨w.heap.size+1+1,0,N⟩) hR _).setCell (p:=⟨w.heap.size+1+1,1,N⟩) hR _).setCell (p:=⟨w.heap.size+1+1,2,N⟩) hR _,Or.inr ⟨⟨k,aj,by rw[ES.o];exact im⟩,rfl⟩⟩
  ·have ek:k=ls.length:=qb
   subst ek;obtain⟨c0,c1,c2⟩:=HN.o.cell;obtain⟨ys,tw,zr⟩:=HN.o.own;have kbr:wr.heap[w.heap.size+1+1]?=M (O #[nS,nS,ze] 95 (0,0)):=qen;obtain⟨r0,r1,r2⟩:=ck3 kbr;have fr:=fZ kbr;have hR:w.heap.size≤w.heap.size+1+1:=qb
   have o1:wr.ownsRow w.heap.size 139 3 (J (p_ g) is.length cp) is.length (Dp is):=by
    exact qjp
   have ky:Hd (wr.ownsRow w.heap.size 139 3 (J (p_ g) is.length cp) is.length (Dp is)):=o1;have C0:Hd (wr.ownsRow w.heap.size 136 3 v ls.length ys):=Ah tw qb;(have HV:Hd (∀b,v.ownBlock=M b→b≠w.heap.size+1+1):=λb hb=>by have:=(tw.lt b hb).1;omega);have HFY:Hd (Bn (ls.map (Hm n)) ls.length ys):=zr
   obtain⟨va,vn,vc,rfl⟩:∃va vn vc,v=J va vn vc:=by
    exact qlt
   clear kbr bc o1 tw zr HN;go_wp2;refine bR (v:=G #[J (p_ g) is.length cp,J va vn vc,S sm]) (by simp[results,results148,go_sem,r0,r1,r2]) rfl ⟨((hw.setCell (p:=⟨w.heap.size+1+1,0,N⟩) hR _).setCell (p:=⟨w.heap.size+1+1,1,N⟩) hR _).setCell (p:=⟨w.heap.size+1+1,2,N⟩) hR _,Or.inl ⟨HA.o,_,_,by rw[ESM.o],Dp is,ys,?_,Ks is,?_,by rw[List.length_map];exact HFY.o⟩⟩
   ·exact qji
   ·exact qml
end Go.Proofs.YtoakjccojifagaaGreatDoor
