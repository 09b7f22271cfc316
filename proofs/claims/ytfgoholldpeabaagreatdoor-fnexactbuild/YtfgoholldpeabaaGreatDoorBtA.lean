import Derived.Test.YtfgoholldpeabaaGreatDoorBsW
import Derived.Test.YtfgoholldpeabaaGreatDoorBuI
namespace Go.Proofs.YtfgoholldpeabaaGreatDoor
set_option maxHeartbeats 8000000
set_option maxRecDepth 100000
open _root_.Go.Proofs.Tryz Go.RowKit Go.Deep
set_option linter.unusedVariables false
set_option linter.unusedSimpArgs false
variable {s:Sb} {t nm:By} {w w':World} {B h m p T n B' e sz l Y cap:Nat} {v:Hv} {xs:List Value} {nv sv tv u:Value} {b:Gd} {ms:Mm} {st:List By} {X X':Nat->Prop} {a:Option Addr}
theorem Tj {s:By} (h:s.toList=t.toList):s=t:=by
  rw[ByteArray.toList_eq,ByteArray.toList_eq] at h;exact ByteArray.ext (Array.ext' h)
theorem ix_ext {is js:List I3} (hl:is.length=js.length) (h:∀ j,j<is.length→ix is j=ix js j):is=js:=by
  apply List.ext_getElem hl;intro i h1 h2;have:=h i h1;unfold ix at this
  rwa [gG,Iu h1,gG,Iu h2] at this
theorem l5Same_any (a a':Option Addr) (ic jc:Nat) (is js:List I3) (w:World) (hc:Cj w a is) (oe:Cj w a' js) (hl:is.length ≤ 1048576) (Is:js.length ≤ 1048576) :
    Calls prog 85 #[.agg #[.slice a is.length ic],.agg #[.slice a' js.length jc]] w fun e w'=>Bw w w'∧∃ b,e=.returned (.bool b)∧(b=true↔is=js):=by
  obtain⟨W,eW⟩:=Ai ((w.alloc (.cells #[.slice a is.length ic] 94)).alloc (.cells #[.slice a' js.length jc] 94));have bn:Bw w W:=eW▸(aN _ _).alloc qg _;have c1:W.cell? ⟨w.heap.size,0,none⟩=some (.slice a is.length ic):=qcq;have c2:W.cell? ⟨w.heap.size+1,0,none⟩=some (.slice a' js.length jc):=qcq
  by_cases hn:is.length=js.length
  · obtain⟨n,zt⟩:∃ n,Hd (is.length=n):=⟨_,rfl⟩
    have HLB:=hid (hn.symm.trans zt.o);rw[zt.o] at c1 hl eW ⊢;rw[HLB.o] at c2 Is eW ⊢;clear hn;have Z0:((n:Int) != (n:Int))=false:=qg;go_enter func85,ntmps85;go_wp2;clear eW
    go_loopw [5] (fun i wr=>∃ k:Nat,k ≤ n∧i=I k∧Hd (∀ j,j<k→ix is j=ix js j)∧wr.cell? ⟨w.heap.size,0,none⟩=some (.slice a n ic)∧wr.cell? ⟨w.heap.size+1,0,none⟩=some (.slice a' n jc)∧Bw w wr) (fun i _=>n-(intOf i).toNat)
    case atStart=>exact⟨0,Nat.zero_le _,rfl,(fun j hj=>qb),c1,c2,bn⟩
    case round=>
      clear c1 c2 bn;obtain⟨k,hk,rfl,HN,c1,c2,hB⟩:=hrel
      by_cases aj:k<n
      · obtain⟨b,off,rfl,e1,e2,e3⟩:=(hc.bl hB) k (zo zt.o)
        obtain⟨b',bq,rfl,f1,f2,f3⟩:=(oe.bl hB) k (zo HLB.o);have je:(k:Int)<(n:Int):=qb;have jm:(0:Int) ≤ (k:Int):=qb;have n8:Hd (ix is k≠ix js k→(false=true↔is=js)):=fun hne=>⟨fun h=>(by cases h),fun e=>absurd (by rw[e]) hne⟩
        have E4:Hd (ix is k=ix js k→∀ j,j<k+1→ix is j=ix js j):=fun he j hj=>by
          exact qmi
        generalize ix is k=x at *;generalize ix js k=y at *;obtain⟨x0,x1,x2⟩:=x;obtain⟨y0,y1,y2⟩:=y;dsimp only at e1 e2 e3 f1 f2 f3
        by_cases h0:x0=y0
        · subst h0
          by_cases h1:x1=y1
          · subst h1
            by_cases h2:x2=y2
            · subst h2
              have X1:=hid (E4.o rfl);clear E4 n8 HN;go_wp2_with fail
              go_region_held3 (fun w'=>w'.cell? ⟨w.heap.size,0,none⟩=some (.slice (some ⟨b,off,none⟩) n ic)∧w'.cell? ⟨w.heap.size+1,0,none⟩=some (.slice (some ⟨b',bq,none⟩) n jc)∧w'.cell? ⟨b,off+k*3,none⟩=some (I x0)∧w'.cell? ⟨b,off+k*3+1,none⟩=some (.string x1)∧w'.cell? ⟨b,off+k*3+2,none⟩=some (I x2)∧w'.cell? ⟨b',bq+k*3,none⟩=some (I x0)∧w'.cell? ⟨b',bq+k*3+1,none⟩=some (.string x1)∧w'.cell? ⟨b',bq+k*3+2,none⟩=some (I x2))
                (first|assumption|(simp[*];done)) (fail)
              all_goals
                go_wp2;exact⟨⟨k+1,qb,qj,X1.o,c1,c2,hB.drew⟩,qar⟩
            · have hq:=h2
              have dd:=hq;have U1:=hid (n8.o (fun e=>hq qan));clear E4 n8 HN hq h2;go_wp2_with fail
              go_region_held3 (fun w'=>w'.cell? ⟨w.heap.size,0,none⟩=some (.slice (some ⟨b,off,none⟩) n ic)∧w'.cell? ⟨w.heap.size+1,0,none⟩=some (.slice (some ⟨b',bq,none⟩) n jc)∧w'.cell? ⟨b,off+k*3,none⟩=some (I x0)∧w'.cell? ⟨b,off+k*3+1,none⟩=some (.string x1)∧w'.cell? ⟨b,off+k*3+2,none⟩=some (I x2)∧w'.cell? ⟨b',bq+k*3,none⟩=some (I x0)∧w'.cell? ⟨b',bq+k*3+1,none⟩=some (.string x1)∧w'.cell? ⟨b',bq+k*3+2,none⟩=some (I y2))
                (first|assumption|(simp[*];done)) (fail)
              all_goals
                go_wp2;exact qft
          · have hq:=h1
            have dd:¬ (x1.toList=y1.toList):=fun e=>hq (Tj e);have U1:=hid (n8.o (fun e=>hq qan));clear E4 n8 HN hq h1;go_wp2_with fail
            go_region_held3 (fun w'=>w'.cell? ⟨w.heap.size,0,none⟩=some (.slice (some ⟨b,off,none⟩) n ic)∧w'.cell? ⟨w.heap.size+1,0,none⟩=some (.slice (some ⟨b',bq,none⟩) n jc)∧w'.cell? ⟨b,off+k*3,none⟩=some (I x0)∧w'.cell? ⟨b,off+k*3+1,none⟩=some (.string x1)∧w'.cell? ⟨b,off+k*3+2,none⟩=some (I x2)∧w'.cell? ⟨b',bq+k*3,none⟩=some (I x0)∧w'.cell? ⟨b',bq+k*3+1,none⟩=some (.string y1)∧w'.cell? ⟨b',bq+k*3+2,none⟩=some (I y2))
              (first|assumption|(simp[*];done)) (fail)
            all_goals
              go_wp2;exact qft
        · have hq:=h0
          have dd:=hq;have U1:=hid (n8.o (fun e=>hq qan));clear E4 n8 HN hq h0;go_wp2_with fail
          go_region_held3 (fun w'=>w'.cell? ⟨w.heap.size,0,none⟩=some (.slice (some ⟨b,off,none⟩) n ic)∧w'.cell? ⟨w.heap.size+1,0,none⟩=some (.slice (some ⟨b',bq,none⟩) n jc)∧w'.cell? ⟨b,off+k*3,none⟩=some (I x0)∧w'.cell? ⟨b,off+k*3+1,none⟩=some (.string x1)∧w'.cell? ⟨b,off+k*3+2,none⟩=some (I x2)∧w'.cell? ⟨b',bq+k*3,none⟩=some (I y0)∧w'.cell? ⟨b',bq+k*3+1,none⟩=some (.string y1)∧w'.cell? ⟨b',bq+k*3+2,none⟩=some (I y2))
            (first|assumption|(simp[*];done)) (fail)
          all_goals
            go_wp2;exact qft
      · exact qis
  · have Z0:((is.length:Int) != (js.length:Int))=true:=qh
    have hni:¬ ((is.length:Int)=(js.length:Int)):=qb;have U1:Hd (false=true↔is=js):=⟨fun h=>(by cases h),fun e=>absurd (by rw[e]) hn⟩;go_enter func85,ntmps85;go_wp2;go_ret;exact⟨bn,false,rfl,U1.o⟩
theorem Vk (a la ca:Option Addr) (ac lc cc:Nat) (is:List I3) (ls:List G3) (c:Int) (t:By) (nc:Nat) (n:Nat) (out:By) (w:World) (hr:Cj w a is) (hlr:Hr w la ls) (hl:is.length ≤ 1048576) (hx:∀ i,(ix is i).text.size ≤ 9223372036854775807) (hls:ls.length ≤ 200)
    (HF:Hd (∀(a:Option Addr) (cap:Nat) (w:World),Calls prog 93 #[.agg #[I c,.string t,.slice a nc cap]] w fun e w'=>e=.returned (.string out)∧Bw w w'))
    (hp:Au is=true) (h1:1 ≤ n) (h2:n ≤ 8) (ho:out≠⟨#[]⟩) (hos:out.size ≤ 2002) (M3:∀ i,i<ls.length→(gx ls i).sum.size ≤ 1048576) (cr:∀ i,(gx ls i).name.size ≤ 9223372036854775807) :
    Calls prog 116 #[.agg #[.slice a is.length ac],.slice la ls.length lc,.agg #[I c,.string t,.slice ca nc cc],I n] w fun e w'=>Bw w w'∧(((∀ i,i<ls.length→Am (gx ls i).name)∧∃ v1 v2,e=.returned (.agg #[v1,v2,.string (Ap n out)])∧RecOwn w.heap.size w' v1 v2 is (ls.map (Kw n)))∨((∃ i,i<ls.length∧¬ Am (gx ls i).name)∧e=.returned (.agg #[nS,nS,ze]))):=by
  have B1:1 ≤ is.length:=by
    exact qnb
  have hoe:out.toList.isEmpty=false:=by
    exact qkr
  have ak:Bw w (((w.alloc (.cells #[.slice a is.length ac] 94)).alloc (.cells #[I c,.string t,.slice ca nc cc] 105)).alloc (.cells #[nS,nS,ze] 97)):=((aN _ _).alloc qg _).alloc qh _;go_enter func116,ntmps116;go_wp2_with fail;refine(HF.o _ _ _).mono ?_;rintro e w1 ⟨rfl,af⟩;have bg:=bt ak af;have p0:w1.cell? ⟨w.heap.size,0,none⟩=some (.slice a is.length ac):=Aa af qk
  have kb:w1.heap[w.heap.size+1+1]?=some (.cells #[nS,nS,ze] 97 (0,0)):=by
    exact qhz
  clear ak af;go_wp2_with fail;refine(Ht a ac is _ (hr.bl bg) hl hx).mono ?_;rintro e w2 ⟨ag,rfl⟩;have be:=bt bg ag;have q0:=Aa ag p0;have kb2:w2.heap[w.heap.size+1+1]?=some (.cells #[nS,nS,ze] 97 (0,0)):=by rw[ag.block _ (Fi kb)];exact kb
  have eg:=Fi kb2;rw[hp];clear bg p0 kb ag
  go_wp2_with (first|(go_at_call 44;refine(Jz n _ qb qb).mono ?_;rintro e w9 ⟨rfl,rfl⟩))
  refine(Vt a ac is _ (hr.bl be) B1 hl).mono ?_;rintro e w3 ⟨aw,g,cp,rfl,ah⟩;have gy:=bt be aw;have kb3:w3.heap[w.heap.size+1+1]?=some (.cells #[nS,nS,ze] 97 (0,0)):=by rw[aw.block _ (Fi kb2)];exact kb2
  have J5:=hid ah;clear be q0 kb2 aw ah;go_wp2_with fail;refine(Fe out n _ qb h1 h2).mono ?_;rintro e w4 ⟨rfl,cj⟩;have ij:=bt gy cj;have kb4:w4.heap[w.heap.size+1+1]?=some (.cells #[nS,nS,ze] 97 (0,0)):=by rw[cj.block _ (Fi kb3)];exact kb3
  have uw:=hid (Ac J5.o cj);clear gy kb3 cj J5;obtain⟨sm,esm⟩:=Ai (Ap n out);have ESM:=hid esm;rw[show (⟨(Hm (Cx out.data.toList) n).toArray⟩:By)=sm from esm];clear esm;obtain⟨P,eP⟩:=Ai w4.heap.size;obtain⟨w5,W9⟩:=Ai (w4.alloc (.cells #[.slice (p_ g) is.length cp,nS,.string sm] 97));have hw5:w5.heap.size=P+1:=by rw[← W9,← eP];simp
  have E4:Hd (NS w5 P (.slice (p_ g) is.length cp) nS sm 0 (ls.map (Kw n))):=by
    exact qmd
  have zk:Bw w w5:=by rw[← W9];exact ij.alloc ij.size _
  have hwP:w.heap.size+1+1<P:=by rw[← eP];exact Fi kb4
  have KB5:Hd (w5.heap[w.heap.size+1+1]?=some (.cells #[nS,nS,ze] 97 (0,0))):=by show _=_;rw[← W9,Lib.alloc_old _ _ _ qb];exact kb4
  have On:Hd (w5.ownsRow w.heap.size 128 3 (.slice (p_ g) is.length cp) is.length (El is)):=by show World.ownsRow _ _ _ _ _ _ _;rw[← W9];exact Ah (uw.o.alloc _) qb
  have hgR:w.heap.size+1+1<g:=zo ((uw.o.lt g rfl).1);have hgP:g<P:=by rw[← eP];exact(uw.o.lt g rfl).2
  go_wp2;clear W9 eP ij kb4 uw;have zn:=hid hw5;clear hw5
  go_loopw [11] (fun i wr=>∃(k:Nat) (v:Value),k ≤ ls.length∧i=I k∧Hd (NS wr P (.slice (p_ g) is.length cp) v sm k (ls.map (Kw n)))∧Hd (∀ j,j<k→Am (gx ls j).name)∧Below P w5 wr∧P+1 ≤ wr.heap.size) (fun i _=>ls.length-(intOf i).toNat)
  case atStart=>exact⟨0,_,Nat.zero_le _,rfl,E4.o,(fun j hj=>by omega:∀ j,j<0→Am (gx ls j).name),Below.refl _ _,by rw[zn.o];exact Nat.le_refl _⟩
  case round=>
    obtain⟨k,v,hk,rfl,HN,HA,bc,de⟩:=hrel;clear E4 HF;have hw:Bw w wr:=zk.trans (bc.mono qb)
    by_cases aj:k<ls.length
    · obtain⟨b,off,rfl,c1,c2,c3⟩:=(hlr.bl hw) k aj
      have ki:Hd (b<w.heap.size):=by
        obtain⟨b',bq,e',k1,_⟩:=hlr k aj
        cases e'
        exact World.block_lt_of_cell? _ _ k1
      have fx:=M3 k aj;have R5:=cr k;have hgk:=gx_map n ls k aj;obtain⟨s,es⟩:=Ai (gx ls k);rw[es] at c1 c2 c3 fx R5 hgk;have ES:=hid es;have HG:=hid hgk;clear es hgk M3 cr hlr hr;have je:(k:Int)<(ls.length:Int):=qb;have jm:(0:Int) ≤ (k:Int):=qb
      by_cases gk:Am s.name
      · have ip:=Cu gk
        obtain⟨_,cP,_⟩:=HN.o.cell;have uq:P<wr.heap.size:=qb
        go_wp2_with (go_at_call 23;refine(Bx s.name _ R5).mono ?_;rintro e w9 ⟨rfl,rfl⟩;rw[ip])
        have bi:=ki.o;obtain⟨ys0,E6,_⟩:=HN.o.own;(have HVQ:Hd (some b≠v.ownBlock):=fun e=>by have:=(E6.lt b e.symm).1;omega);(have HVP:Hd (some P≠v.ownBlock):=fun e=>by have:=(E6.lt P e.symm).1;omega);have HNW:=HN;have km:=bc;have dP:=cP;clear cP uq E6 HN;obtain⟨u,eu⟩:=Ai (Ap n s.sum);(have HS:Hd (∀ W':World,Calls prog 45 #[.string s.sum,I n] W' fun e w'=>e=.returned (.string u)∧Bw W' w'):=fun W'=>by rw[← eu];exact Fe s.sum n W' fx h1 h2);have HU:=hid eu;clear eu;obtain⟨ys,sq,ye⟩:=HNW.o.own;have zm:=hid sq;have HFY:=hid ye;clear sq ye;refine Lt.begin 23 (fun w'=>w'.cell? ⟨P,1,none⟩=some v∧w'.cell? ⟨b,off+k*3,none⟩=some (.string s.name)∧w'.cell? ⟨b,off+k*3+1,none⟩=some (.bool s.ask)∧w'.cell? ⟨b,off+k*3+2,none⟩=some (.string s.sum)) qi ?_;have iw:wr.drew.cell? ⟨P,1,none⟩=some v∧wr.drew.cell? ⟨b,off+k*3,none⟩=some (.string s.name)∧wr.drew.cell? ⟨b,off+k*3+1,none⟩=some (.bool s.ask)∧wr.drew.cell? ⟨b,off+k*3+2,none⟩=some (.string s.sum):=qo;change K 0 _
        iterate 18
         refine Lt.ti (v:=?_) iw ?_ ?_;rotate_left 1
         · exact qak
         simp only[gX]
        refine Lt.sp (i:=18) (fun K hK=>?_);go_simp;refine(HS.o _).mono ?_;rintro e w6 ⟨rfl,ci⟩;have co:Bw wr w6:=(Below.drew (Below.refl _ _)).trans (ci.mono qg);refine hK.out _ _ (fun _=>⟨Aa co dP,Aa co c1,Aa co c2,Aa co c3⟩) (fun mg=>?_);replace mg:=mg qd;clear hK K iw ci;refine Lt.ti (i:=19) (v:=?_) mg ?_ ?_;rotate_left 1
        · exact qak
        simp only[gX];refine Lt.sp (i:=20) (fun K hK=>?_);go_simp;refine hK.out _ _ (fun _=>⟨Mv mg.1,Mv mg.2.1,Mv mg.2.2.1,Mv mg.2.2.2⟩) (fun ko=>?_);replace ko:=ko qd;clear hK K mg;refine Lt.sp (i:=21) (fun K hK=>?_);refine Wp rfl qt (P+1) v k ys qt ((Ac zm.o co).alloc _) w6.heap.size s.name s.ask u qt (Ni _ _) (by have:=co.size;simp;omega) qb ?_;intro g' ai w7 d7 ae;have hsz6:=co.size;(have x0:w7.cell? ⟨P,1,none⟩=some v:=by rw[ae.cell_far ⟨P,1,none⟩ qh HVP.o];exact ko.1);(have x1:w7.cell? ⟨b,off+k*3,none⟩=some (.string s.name):=by rw[ae.cell_far ⟨b,off+k*3,none⟩ qh HVQ.o];exact ko.2.1);(have x2:w7.cell? ⟨b,off+k*3+1,none⟩=some (.bool s.ask):=by rw[ae.cell_far ⟨b,off+k*3+1,none⟩ qh HVQ.o];exact ko.2.2.1);(have x3:w7.cell? ⟨b,off+k*3+2,none⟩=some (.string s.sum):=by rw[ae.cell_far ⟨b,off+k*3+2,none⟩ qh HVQ.o];exact ko.2.2.2);have HNP:Hd (NS (w7.setCell ⟨P,1,none⟩ (.slice (p_ g') (k+1) ai)) P (.slice (p_ g) is.length cp) (.slice (p_ g') (k+1) ai) sm (k+1) (ls.map (Kw n))):=NS.add HNW.o zm.o HFY.o co ae d7 (by rw[HG.o];unfold Kw;rw[HU.o]);have hbP7:Below P w5 w7:=((km.trans (co.mono qb)).alloc qb _).grown ae qh (fun m hm=>by have:=(zm.o.lt m hm).1;omega);(have hs7:P+1 ≤ w7.heap.size:=by have h2:=ae.size;simp at h2;omega);(have fz:w7.frozen? ⟨P,1,none⟩=false:=by rw[ae.frozen_far ⟨P,1,none⟩ qh HVP.o];exact fH (by rw[Lib.alloc_old _ _ _ qb];exact(HNW.o.bl co).blk) 1);refine hK.out _ _ (fun _=>⟨x0,x1,x2,x3⟩) (fun C9=>?_);replace C9:=C9 qd;clear hK K ko ae d7;simp only[gX];refine Lt.ti (i:=22) (v:=?_) C9 ?_ ?_;rotate_left 1
        · exact qak
        simp only[gX];refine Lt.sp (i:=23) (fun K hK=>?_);exact qig
      · have ip:=Ck gk
        have kbr:wr.heap[w.heap.size+1+1]?=some (.cells #[nS,nS,ze] 97 (0,0)):=qec;obtain⟨r0,r1,r2⟩:=ck3 kbr;have fr:=fZ kbr;have hR:w.heap.size ≤ w.heap.size+1+1:=qb;clear kbr bc
        go_wp2_with (go_at_call 23;refine(Bx s.name _ R5).mono ?_;rintro e w9 ⟨rfl,rfl⟩;rw[ip])
        exact bR (v:=.agg #[nS,nS,ze]) (by simp[results,results116,go_sem,r0,r1,r2]) rfl ⟨((hw.setCell (p:=⟨w.heap.size+1+1,0,none⟩) hR _).setCell (p:=⟨w.heap.size+1+1,1,none⟩) hR _).setCell (p:=⟨w.heap.size+1+1,2,none⟩) hR _,Or.inr ⟨⟨k,aj,by rw[ES.o];exact gk⟩,rfl⟩⟩
    · have ek:k=ls.length:=qb
      subst ek;obtain⟨c0,c1,c2⟩:=HN.o.cell;obtain⟨ys,sq,ye⟩:=HN.o.own;have kbr:wr.heap[w.heap.size+1+1]?=some (.cells #[nS,nS,ze] 97 (0,0)):=qec;obtain⟨r0,r1,r2⟩:=ck3 kbr;have fr:=fZ kbr;have hR:w.heap.size ≤ w.heap.size+1+1:=qb
      have o1:wr.ownsRow w.heap.size 128 3 (.slice (p_ g) is.length cp) is.length (El is):=by
        exact qjf
      have kd:=hid o1;have zm:Hd (wr.ownsRow w.heap.size 125 3 v ls.length ys):=Ah sq qb;(have HV:Hd (∀ b,v.ownBlock=some b→b≠w.heap.size+1+1):=fun b hb=>by have:=(sq.lt b hb).1;omega);have HFY:=hid ye
      obtain⟨va,vn,vc,rfl⟩:∃ va vn vc,v=.slice va vn vc:=by
        exact qlv
      clear kbr bc o1 sq ye HN;go_wp2;refine bR (v:=.agg #[.slice (p_ g) is.length cp,.slice va vn vc,.string sm]) (by simp[results,results116,go_sem,r0,r1,r2]) rfl ⟨((hw.setCell (p:=⟨w.heap.size+1+1,0,none⟩) hR _).setCell (p:=⟨w.heap.size+1+1,1,none⟩) hR _).setCell (p:=⟨w.heap.size+1+1,2,none⟩) hR _,Or.inl ⟨HA.o,_,_,by rw[ESM.o],El is,ys,?_,Ka is,?_,by rw[List.length_map];exact HFY.o⟩⟩
      · exact qiv
      · exact qms
def NoteE (B h n:Nat) (sv tv:Value) (ms:Mm) (s:Sb) (st:List By) (v:Hv) (is:List I3) (ls:List G3) (c:Int) (t:By) (w:World) (e:Ending) (w':World):Prop:=
  (∃ s' v' r,Fl n s is ls c t s' none/\e=.returned (.tuple #[.agg #[I c,.string t,nS],I r])/\0<=r/\Cz B (Bu h v) (Bu h v') w w'/\Fo B h sv tv n w' ms s' st v')\/
  (∃ s' b nv,Fl n s is ls c t s' (some b)/\e=.returned (.tuple #[.agg #[I 0,ze,nS],I (-1)])/\Cz B (Bu h v) (Yr h nv) w w'/\Fm B h st.length nv w' b)
theorem Yi {c:Int} (h0:0<=c) (h5:c<=5) (ht:t.size<=2000) (a:Option Addr) (cap:Nat) (w:World):Calls prog 93 #[.agg #[I c,.string t,.slice a 0 cap]] w fun e w'=>e=.returned (.string (Bk c t))/\Bw w w':=by
  obtain⟨m,rfl⟩:=Int.eq_ofNat_of_zero_le h0;exact Pb m t a cap w qb ht
theorem Qbt (c:Int) (t:By):Bk c t≠⟨#[]⟩:=fun h=>by
  have:(Bk c t).size=0:=by rw[h];rfl
  unfold Bk at this;rw[ByteArray.size_append,ByteArray.size_append] at this;have e:(⟨#[58]⟩:By).size=1:=rfl;omega
theorem gx_name {ls:List G3} (h:Lz ls) (i:Nat):(gx ls i).name.size<=9223372036854775807:=by
  rcases Nat.lt_or_ge i ls.length with k|k
  · have:=(h _ (Lf k)).1.2.1;omega
  · unfold gx;rw[gG,List.getElem?_eq_none k];show 0 ≤ _;omega
theorem Gy.bl {v:Value} {R:List T3} {cv lv:Nat->Value} (r:Gy w B v R xs cv lv) (hb:Bw w w'):Gy w' B v R xs cv lv:=
  ⟨Ac r.row hb,r.fil,fun i hi=>by obtain⟨ys,a,b⟩:=r.code i hi;exact⟨ys,Ac a hb,b⟩,fun i hi=>by obtain⟨ys,a,b⟩:=r.look i hi;exact⟨ys,Ac a hb,b⟩,r.apc,r.apl⟩
theorem Fm.set1 (k:Fm B h m nv w b) (hp:Dk w p T) (h1:T≠61) (h2:T≠9) (j:Nat) (x:Value):Fm B h m nv (w.setCell ⟨p,j,none⟩ x) b:=by
  obtain⟨pre,e,hl,hk,he,d1,⟨xs,d2,d4⟩,d3⟩:=k
  have hne:h≠p:=fun q=>by
    obtain⟨cs,hc⟩:=hp;rw[q,hc] at hk;injection hk with hk;injection hk with _ h5;exact h1 h5
  refine⟨pre,e,hl,Ez hk hne x,?_,d1,⟨xs,Al d2 hp h2 x,d4⟩,d3⟩
  cases b with
  | circle ch=>obtain⟨cv,a,b⟩:=he;exact⟨cv,Al a hp h2 x,b⟩
  | deep nm=>exact he
  | clash A B=>exact he
  | full=>exact he
theorem Fm.set3 (k:Fm B h m nv w b) (hp:Dk w p T) (h1:T≠61) (h2:T≠9) (u0 u1 u2:Value):Fm B h m nv (((w.setCell ⟨p,0,none⟩ u0).setCell ⟨p,1,none⟩ u1).setCell ⟨p,2,none⟩ u2) b:=((k.set1 hp h1 h2 0 u0).set1 (hp.set u0) h1 h2 1 u1).set1 ((hp.set u0).set u1) h1 h2 2 u2
theorem shopNote (B h n:Nat) (sv tv:Value) (ms:Mm) (s:Sb) (st:List By) (v:Hv) (a la:Option Addr) (ac lc:Nat) (is:List I3) (ls:List G3) (xs:List Value) (c:Int) (t:By) (w:World) (hs:Fo B h sv tv n w ms s st v) (hB:B<=w.heap.size) (h1:1<=n) (h8:n<=8) (ft:Kl n s) (du:Lv B w a is) (hp:Au is=true) (hx:∀ i,(ix is i).text.size<=9223372036854775807)
    (hl:w.ownsRow B 172 3 (.slice la ls.length lc) ls.length xs) (hf:Bo ls ls.length xs) (xz:∀ b,(Value.slice la ls.length lc).ownBlock=some b->¬ Bu h v b) (hle:ls.length<=200) (hls:Lz ls) (c0:0<=c) (c5:c<=5) (ht:t.size<=2000) (A5:s.ran.length+st.length<=1000) :
    Calls prog 90 #[.pointer (p_ h),.agg #[.slice a is.length ac],.slice la ls.length lc,.agg #[I c,.string t,nS]] w fun e w'=>NoteE B h n sv tv ms s st v is ls c t w e w':=by
  obtain⟨W,eW⟩:=Ai (((w.alloc (.cells #[.slice a is.length ac] 94)).alloc (.cells #[I c,.string t,nS] 105)).alloc (.cells #[I 0,ze,nS] 105));have HW:Hd (Bw w W):=by show Below _ _ _;rw[← eW];exact((aN _ _).alloc qg _).alloc qh _
  obtain⟨Q,eQ⟩:=Ai w.heap.size;have HP0:Hd (W.heap[Q]?=some (.cells #[.slice a is.length ac] 94 (0,0))):=by show _=_;rw[← eW,← eQ];exact Rt (Rt (Gq _ _))
  have jz:Hd (W.heap[Q+1]?=some (.cells #[I c,.string t,nS] 105 (0,0))):=by
    show _=_;rw[← eW,← eQ];have:=Gq (w.alloc (.cells #[.slice a is.length ac] 94)) (.cells #[I c,.string t,nS] 105);rw[show (w.alloc (.cells #[.slice a is.length ac] 94)).heap.size=w.heap.size+1 from qg] at this;exact Rt this
  have re:Hd (W.heap[Q+2]?=some (.cells #[I 0,ze,nS] 105 (0,0))):=by
    show _=_;rw[← eW,← eQ];have:=Gq ((w.alloc (.cells #[.slice a is.length ac] 94)).alloc (.cells #[I c,.string t,nS] 105)) (.cells #[I 0,ze,nS] 105)
    rwa [show ((w.alloc (.cells #[.slice a is.length ac] 94)).alloc (.cells #[I c,.string t,nS] 105)).heap.size=w.heap.size+2 from qg] at this
  have HN:Hd (∀ b,Q<=b->¬ Bu h v b):=fun b hb=>hs.not qb;have J8:Hd (Cz B (Bu h v) (Bu h v) w W):=Cz.of_below HW.o hB;have J0:=hid (hs.bl HW.o);have HHB:=hid hs.hB;have HLW:=hid (Ac hl HW.o);have HFL:=hid hf;have HLN:=hid xz;have HCW:=hid (du.belowB (HW.o.mono hB));have xd:=Nat.le_trans hB HW.o.size;have U3:=hid hls;have yp:=hid ft;have uu:=hid hp;have HIX:=hid hx;have B1:=Dh hp;have hW3:=Af re.o;clear hs hl hf xz du hls ft hp hx;obtain⟨m,em⟩:=Ai ls.length;have EM:=hid em;rw[em] at hle ⊢;clear em;go_enter func90,ntmps90;go_wp2_with fail
  try rw[eQ]
  clear eW
  go_loopw [10] (fun i wr=>∃(k:Nat) (U:List By) (v':Hv),k<=m/\i=I k/\Hd (Di n s.T (Ih (ls.take k)) U none)/\Hd (Uo n U)/\Hd (Cz B (Bu h v) (Bu h v') W wr)/\Hd (Fo B h sv tv n wr ms ⟨U,s.R,s.ran,s.held⟩ st v')) (fun i _=>m-(intOf i).toNat)
  case atStart=>exact⟨0,s.T,v,Nat.zero_le _,rfl,.nil,yp.o.1,Cz.refl _,J0⟩
  case round=>
    obtain⟨k,U,v',hk,rfl,xk,tj,fu,HS⟩:=hrel;have bj:=Nat.le_trans xd fu.o.bel.size;have ol:=hid (fu.o.blk re.o (HN.o _ qb));have X1:Hd (∀ b,Q<=b->b<W.heap.size->¬ Bu h v' b):=fun b h1 h2=>fu.o.no h2 (HN.o b h1)
    by_cases aj:k<m
    · have je:(k:Int)<(m:Int):=qb
      have jm:(0:Int)<=(k:Int):=qb;have sy:k<ls.length:=qca;obtain⟨a2,c2,e2,H8⟩:=Fp (fu.o.own HLW.o HLN.o) HFL.o;rw[EM.o] at e2;cases e2;obtain⟨b,off,rfl,g1,g2,g3⟩:=H8 k sy;have hz:(gx ls k).sum.size<=2002:=(U3.o _ (Lf sy)).2;(have HSKIP:Hd ((gx ls k).ask=false->Di n s.T (Ih (ls.take (k+1))) U none):=fun q=>by rw[Oy sy,Nk,q];simpa using xk.o);have HNEXT:Hd ((gx ls k).ask=true->∀ U',Di n U [(gx ls k).sum] U' none->Di n s.T (Ih (ls.take (k+1))) U' none):=fun q U' k=>by rw[Oy sy,Nk,q];exact xk.o.app rfl k
      have HFALL:Hd ((gx ls k).ask=true->∀ b,Xl n U (gx ls k).sum b->Di n s.T (Ih ls++[Bk c t]) U (some b)):=fun q b k=>by
        obtain⟨ys,ey⟩:=Xi sy;rw[ey,q,List.append_assoc];exact xk.o.app rfl (by simpa using k.put (ys++[Bk c t]))
      clear H8;generalize (gx ls k).name=x at *;generalize (gx ls k).sum=z at *;generalize (gx ls k).ask=y at *;cases y
      · go_wp2_with fail
        go_roundw
        case rel=>exact⟨k+1,U,v',qb,qj,HSKIP.o qae,tj,fu,HS⟩
        case measure=>simp[intOf];omega
      · go_wp2_with fail
        refine(shopPut B h n sv tv ms _ st v' z wr HS.o bj h1 h8 tj.o hz A5).mono ?_;rintro e w1 (⟨rfl,U',v2,sr,bz,dj⟩|⟨rfl,b',nb,hfa,bz,py⟩)
        · have re:=hid (HNEXT.o qae U' (Di.one sr))
          have HT2:Hd (Uo n U'):=(Di.one sr).ok tj.o (fun x hx=>by rw[List.mem_singleton] at hx;rw[hx];exact hz);have fl:=hid (fu.o.trans bz);have cw:=hid dj;clear sr bz dj g1 g2 g3;go_wp2_with fail;go_roundw
          case rel=>exact⟨k+1,U',v2,qb,qj,re,HT2,fl,cw⟩
          case measure=>simp[intOf];omega
        · have fl:=hid (fu.o.trans bz)
          have vj:=hid py;have Ge:=hid (HFALL.o qae b' hfa);have ig:=hid (fl.o.blk re.o (HN.o _ qb));clear hfa bz py g1 g2 g3;exact qht
    · have je:¬ (k:Int)<(m:Int):=qb
      (have J3:Hd (Di n s.T (Ih ls) U none):=by have:=xk.o;rwa [List.take_of_length_le qcb] at this);have iq:=hid (fu.o.blk jz.o (HN.o _ qb));obtain⟨x0,x1,x2⟩:=Bb iq.o;go_wp2_with fail;clear x0 x1 x2;refine(Mj c t wr c0 c5 ht).mono ?_;rintro e w0 ⟨rfl,ak⟩;have HFR0:=hid (fu.o.trans (Cz.of_below ak bj));have ie:=hid (HS.o.bl ak);have hB0:=Nat.le_trans bj ak.size;clear ak iq ol;go_wp2_with fail;refine(shopPut B h n sv tv ms _ st v' (Bk c t) w0 ie.o hB0 h1 h8 tj.o (Dn ht) A5).mono ?_;rintro e w1 (⟨rfl,U',v2,sr,bz,dj⟩|⟨rfl,b',nb,hfa,bz,py⟩);rotate_left 1
      · have fl:=hid (HFR0.o.trans bz)
        have vj:=hid py;have Ge:Hd (Di n s.T (Ih ls++[Bk c t]) U (some b')):=J3.o.app rfl (hfa.put []);have ig:=hid (fl.o.blk re.o (HN.o _ qb));clear hfa bz py;exact qht
      have HPC:Hd (Di n s.T (Ih ls++[Bk c t]) U' none):=J3.o.app rfl (Di.one sr);have fl:=hid (HFR0.o.trans bz);have cw:=hid dj;have be:=Nat.le_trans hB0 bz.bel.size;clear sr bz dj HS ie fu HFR0 xk J3 tj;have ig:=hid (fl.o.blk re.o (HN.o _ qb));obtain⟨ys,cv,lw,t7⟩:=cw.o.rcs;obtain⟨a2,p2,eqv⟩:=Aw t7.row;replace eqv:=eqv;have k4:w1.cell? ⟨h,4,none⟩=some (.slice a2 s.R.length p2):=by rw[cH cw.o.blk,← eqv];rfl
      by_cases h2k:2000<=s.R.length
      · have d2k:decide ((2000:Int)<=(s.R.length:Int))=true:=qh
        have HNR:Hd (Fl n s is ls c t ⟨U',s.R,s.ran,s.held⟩ (some .full)):=.recs HPC.o h2k;clear h2k t7 eqv;go_wp2_with fail;clear k4;refine(Mi h _ _ _ _ _ _ _ _ _ _ _ _ _ _ _ _ _ _ _ 11 ⟨#[]⟩ ⟨#[]⟩ ⟨#[]⟩ none 0 0 w1 cw.o.blk).mono ?_;rintro e w3 ⟨rfl,aw,gh,au⟩;have HF3:=hid (fl.o.trans (cw.o.fall (Below.refl _ _) be aw gh));have vj:Hd (Fm B h st.length v2.nv w3 .full):=cw.o.dead gh [I 11,ze,nS,I 0,nS,nS,nS,nS,ze,ze] au rfl (noOwn rfl _) A5;replace ig:=hid (HF3.o.blk re.o (HN.o _ qb));replace fl:=HF3;clear aw gh au;obtain⟨z0,z1,z2,zf⟩:=Ea ig.o;go_wp2_with fail;obtain⟨y0,y1,y2,_⟩:=Ea (Bi ig.o (I 0) ze nS);exact bR (v:=.tuple #[.agg #[I 0,ze,nS],I (-1)]) (by simp[results,results90,go_sem,y0,y1,y2]) rfl (Or.inr ⟨_,_,_,HNR.o,rfl,(J8.o.trans fl.o).set3 qb qb _ _ _,vj.o.set3 ⟨_,ig.o⟩ qd qd _ _ _⟩)
      have d2k:decide ((2000:Int)<=(s.R.length:Int))=false:=qh;have jo:Hd (Fl n s is ls c t ⟨U',s.R++[⟨is,ls.map (Kw n),Ap n (Bk c t)⟩],s.ran,s.held⟩ none):=.ok HPC.o qb;have HREC:=hid t7;have EQV:=hid eqv;clear t7 eqv;go_wp2_with fail;clear k4 d2k;have wn:=hid (fl.o.blk HP0.o (HN.o _ qb));have iq:=hid (fl.o.blk jz.o (HN.o _ qb));have jt:=hid (HCW.o.belowB fl.o.bel);have HLR:=hid (fl.o.own HLW.o HLN.o);have pa:=be;refine Lt.begin 20 (fun w'=>w'.cell? ⟨h,2,none⟩=some (I n)/\w'.cell? ⟨h,4,none⟩=some (.slice a2 s.R.length p2)/\w'.heap[Q]?=some (.cells #[.slice a is.length ac] 94 (0,0))/\w'.heap[Q+1]?=some (.cells #[I c,.string t,nS] 105 (0,0))) qi ?_;obtain⟨wD,eD⟩:=Ai w1.drew;rw[eD];have di:Bw w1 wD:=qaa;clear eD;replace cw:=hid (cw.o.bl di);replace wn:=hid (Ae wn.o di);replace iq:=hid (Ae iq.o di);replace ig:=hid (Ae ig.o di);replace fl:=hid (fl.o.trans (Cz.of_below di pa));replace jt:=hid (jt.o.belowB (Below.mono di pa));replace HLR:=hid (Ac HLR.o di);have iw:(fun w'=>w'.cell? ⟨h,2,none⟩=some (I n)/\w'.cell? ⟨h,4,none⟩=some (.slice a2 s.R.length p2)/\w'.heap[Q]?=some (.cells #[.slice a is.length ac] 94 (0,0))/\w'.heap[Q+1]?=some (.cells #[I c,.string t,nS] 105 (0,0))) wD:=⟨qbf,qgh,wn.o,iq.o⟩;replace pa:=Nat.le_trans pa di.size;change K 0 _
      iterate 14
       refine Lt.ti (v:=?_) iw ?_ ?_;rotate_left 1
       · exact qkw
       simp only[gX]
      refine Lt.sp (i:=14) (fun K hK=>?_);go_simp;have hnt:=Vk a la none ac lc 0 is ls c t 0 n (Bk c t) wD jt.o.1 (by obtain⟨a3,c3,e3,q3⟩:=Fp HLR.o HFL.o;cases e3;exact q3) qb HIX.o (by rw[EM.o];exact hle) (fun a cap w=>Yi c0 c5 ht a cap w) uu.o h1 h8 (Qbt c t) (Dn ht) (fun i hi=>by have:=(U3.o _ (Lf hi)).2;omega) (fun i=>gx_name U3.o i);rw[EM.o] at hnt;refine hnt.mono ?_;rintro e wN ⟨F2,⟨Z0,u1,u2,rfl,hro⟩|⟨⟨i,hi,gk⟩,_⟩⟩;rotate_left 1
      · exact absurd (U3.o _ (Lf (by rw[EM.o];exact hi))).1 gk
      obtain⟨zs,us,q1,q2,q3,q4⟩:=hro;have lz:=hid q1;have F9:=hid q2;have HQ3:=hid q3;have HQ4:=hid q4;clear q1 q2 q3 q4 Z0 hnt;have hDN:=F2.size;have hBD:=pa;replace cw:=hid (cw.o.bl F2);replace wn:=hid (Ae wn.o F2);replace iq:=hid (Ae iq.o F2);replace ig:=hid (Ae ig.o F2);replace fl:=hid (fl.o.trans (Cz.of_below F2 pa));replace jt:=hid (jt.o.belowB (Below.mono F2 pa));replace HLR:=hid (Ac HLR.o F2);have vu:(fun w'=>w'.cell? ⟨h,2,none⟩=some (I n)/\w'.cell? ⟨h,4,none⟩=some (.slice a2 s.R.length p2)/\w'.heap[Q]?=some (.cells #[.slice a is.length ac] 94 (0,0))/\w'.heap[Q+1]?=some (.cells #[I c,.string t,nS] 105 (0,0))) wN:=⟨qbf,qgh,wn.o,iq.o⟩;replace pa:=Nat.le_trans pa F2.size;refine hK.out _ _ (fun _=>vu) (fun _=>?_);clear hK K 
      try simp only[gX]
      refine Lt.sp (i:=15) (fun K hK=>?_);go_simp;obtain⟨ua,uc,eu1⟩:=Aw lz.o;obtain⟨ub,ud,eu2⟩:=Aw HQ3.o;subst eu1;subst eu2;refine Cc (Q:=fun x=>K _ x) ?_;intro wL f9 HL
      try dsimp only
      obtain⟨dL,edL⟩:=Ai wN.heap.size;rw[edL] at HL ⊢;replace lz:=hid (Ac lz.o f9);replace HQ3:=hid (Ac HQ3.o f9);replace cw:=hid (cw.o.bl f9);replace wn:=hid (Ae wn.o f9);replace iq:=hid (Ae iq.o f9);replace ig:=hid (Ae ig.o f9);replace fl:=hid (fl.o.trans (Cz.of_below f9 pa));replace jt:=hid (jt.o.belowB (Below.mono f9 pa));replace HLR:=hid (Ac HLR.o f9);have hS2:(fun w'=>w'.cell? ⟨h,2,none⟩=some (I n)/\w'.cell? ⟨h,4,none⟩=some (.slice a2 s.R.length p2)/\w'.heap[Q]?=some (.cells #[.slice a is.length ac] 94 (0,0))/\w'.heap[Q+1]?=some (.cells #[I c,.string t,nS] 105 (0,0))) wL:=⟨qbf,qgh,wn.o,iq.o⟩;replace pa:=Nat.le_trans pa f9.size;refine hK.out _ _ (fun _=>hS2) (fun _=>?_);clear hK K 
      try simp only[gX]
      refine Lt.sp (i:=16) (fun K hK=>?_);have M5:=((HREC.o.bl di).bl F2).bl f9;have hq:=M5.row;rw[EQV.o] at hq;refine step_appQR rfl qt B (.slice a2 s.R.length p2) s.R.length ys qt hq dL _ _ _ qt HL.o qct pa qb ?_;intro g' ai w7 ah ae ct;have hqr:w7.heap[h]?=_:=Bq cw.o.blk ae (Ad hq qd cw.o.blk);rw[← EQV.o] at ae;have hadd:=M5.add (rec:=⟨is,ls.map (Kw n),Ap n (Bk c t)⟩) ae ah (Ah lz.o hBD) F9.o (Ah HQ3.o hBD) HQ4.o (fun i hi b q1 q2=>by have:=(lz.o.lt b q2).1;obtain⟨ys,r1,_⟩:=HREC.o.code i hi;have:=(r1.lt b q1).2;have:=di.size;omega) (fun i hi b q1 q2=>by have:=(HQ3.o.lt b q2).1;obtain⟨ys,r1,_⟩:=HREC.o.look i hi;have:=(r1.lt b q1).2;have:=di.size;omega) hqr (.slice (p_ g') (s.R.length+1) ai)
      have rv:∀ b,(Value.slice (p_ g') (s.R.length+1) ai).ownBlock=some b->v2.qv.ownBlock=some b\/wL.heap.size<=b:=fun b q=>by
        obtain rfl:g'=b:=qaq
        rcases ct with q|q
        · exact Or.inl (by rw[EQV.o];exact q)
        · right;omega
      have HG:=hid (cw.o.growQ pa M5.row ae rv hadd);have X6:=hid hqr;have hq0:=Ad hq qd wn.o;have ll:=Ad hq qd iq.o;have hq3:=Ad hq qd ig.o;rw[← EQV.o] at hq0 ll hq3;have HR07:=hid (Bq wn.o ae hq0);have HR17:=hid (Bq iq.o ae ll);have HR37:=hid (Bq ig.o ae hq3);have F4:(fun w'=>w'.cell? ⟨h,2,none⟩=some (I n)/\w'.cell? ⟨h,4,none⟩=some (.slice a2 s.R.length p2)/\w'.heap[Q]?=some (.cells #[.slice a is.length ac] 94 (0,0))/\w'.heap[Q+1]?=some (.cells #[I c,.string t,nS] 105 (0,0))) w7:=⟨(by rw[cH X6.o];rfl),(by rw[cH X6.o,← EQV.o];rfl),HR07.o,HR17.o⟩;refine hK.out _ _ (fun _=>F4) (fun _=>?_);clear hK K ae ah hadd M5 hq hqr hq0 ll hq3;simp only[gX];refine Lt.sp (i:=17) (fun K hK=>?_);go_simp;refine hK.out _ _ (fun _=>F4) (fun _=>?_);clear hK K 
      try simp only[gX]
      refine Lt.sp (i:=18) (fun K hK=>?_);go_simp;refine hK.out _ _ (fun _=>F4) (fun _=>?_);clear hK K 
      try simp only[gX]
      refine Lt.ti (i:=19) (v:=?_) F4 ?_ ?_;rotate_left 1
      · exact qkw
      simp only[gX];have k4:=F4.2.1;have kf:=fZ X6.o;refine Lt.sp (i:=20) (fun K hK=>?_);go_simp;refine hK.out _ _ (fun h=>absurd rfl h) (fun _=>?_);clear hK K;refine Lt.done qi ?_ _;obtain⟨V,eV⟩:=Ai (w7.setCell ⟨h,4,none⟩ (.slice (p_ g') (s.R.length+1) ai));rw[eV] at HG ⊢;(have HR1V:V.heap[Q+1]?=some (.cells #[I c,.string t,nS] 105 (0,0)):=by rw[← eV];exact Ez HR17.o (fun q=>HN.o _ (Nat.le_succ Q) (Or.inl q)) _);(have T7:V.heap[Q+2]?=some (.cells #[I 0,ze,nS] 105 (0,0)):=by rw[← eV];exact Ez HR37.o (fun q=>HN.o _ (Nat.le_add_right Q 2) (Or.inl q)) _);have X3:=hid (J8.o.trans (fl.o.trans HG.o.2));have cq:=hid HG.o.1;clear eV k4 kf F4 HG X6 HR07 HR17 HR37;have k4:=cK cq.o.blk 4;obtain⟨x0,x1,x2⟩:=Bb HR1V;obtain⟨z0,z1,z2,zf⟩:=Ea T7;have hne:h≠Q+2:=fun q=>HN.o _ (Nat.le_add_right Q 2) (Or.inl q.symm);go_wp2_with fail;have HV1:=hid HR1V;have HV3:=hid T7;have Gt:=hid k4;clear HR1V T7 k4 x0 x1 x2 z0 z1 z2 zf;refine Lt.begin 9 (fun w'=>w'.cell? ⟨h,4,none⟩=some (.slice (p_ g') (s.R.length+1) ai)/\w'.heap[Q+1]?=some (.cells #[I c,.string t,nS] 105 (0,0))) qi ?_;obtain⟨wE,eD⟩:=Ai V.drew;rw[eD];have di:Bw V wE:=qaa;clear eD;replace HV1:=hid (Ae HV1.o di);replace HV3:=hid (Ae HV3.o di);replace Gt:=hid (Aa di Gt.o);replace cq:=hid (cq.o.bl di);replace X3:=hid (X3.o.trans (Cz.of_below di (Nat.le_trans hB X3.o.bel.size)));have iw:(fun w'=>w'.cell? ⟨h,4,none⟩=some (.slice (p_ g') (s.R.length+1) ai)/\w'.heap[Q+1]?=some (.cells #[I c,.string t,nS] 105 (0,0))) wE:=⟨Gt.o,HV1.o⟩;change K 0 _
      iterate 8
       refine Lt.ti (v:=?_) iw ?_ ?_;rotate_left 1
       · rintro w ⟨s1,s2⟩
         obtain⟨x0,x1,x2⟩:=Bb s2;exact qbm
       simp only[gX]
      obtain⟨z0,z1,z2,zf⟩:=Ea HV3.o;refine Lt.sp (i:=8) (fun K hK=>?_);go_simp;have ko:(fun w'=>w'.cell? ⟨h,4,none⟩=some (.slice (p_ g') (s.R.length+1) ai)/\w'.heap[Q+1]?=some (.cells #[I c,.string t,nS] 105 (0,0))) (((wE.setCell ⟨Q+2,0,none⟩ (I c)).setCell ⟨Q+2,1,none⟩ (.string t)).setCell ⟨Q+2,2,none⟩ nS):=⟨by rw[World.cell?_setCell_far _ _ _ _ qh,World.cell?_setCell_far _ _ _ _ qh,World.cell?_setCell_far _ _ _ _ qh];exact Gt.o,Ez (Ez (Ez HV1.o qb _) qb _) qb _⟩;refine hK.out _ _ (fun _=>ko) (fun _=>?_);clear hK K z0 z1 z2 zf
      try simp only[gX]
      refine Lt.sp (i:=9) (fun K hK=>?_);go_simp;refine hK.out _ _ (fun h=>absurd rfl h) (fun _=>?_);clear hK K;refine Lt.done qi ?_ _;go_wp2_with fail;have T7:=HV3.o;obtain⟨y0,y1,y2,_⟩:=Ea (Bi T7 (I c) (.string t) nS);exact bR (v:=.tuple #[.agg #[I c,.string t,nS],I (s.R.length:Int)]) (by simp[results,results90,go_sem,y0,y1,y2];try exact IntWalk.i64_in _ ⟨qb,qb⟩) rfl (Or.inl ⟨_,_,_,jo.o,rfl,qb,X3.o.set3 qb qb _ _ _,cq.o.set3 ⟨_,T7⟩ qd _ _ _⟩)
def MakeP5 (B h:Nat) (sv tv:Value) (n:Nat) (ss:List S2) (ts:List T2) (ms:Mm) (s:Sb) (st:List By) (v:Hv) (nm:By) (w:World) (e:Ending) (w':World):Prop:=
  ∃ ms' s' a,Bc ss ts n ms s st (.make nm) ms' s' a/\((∃ d v',a=.ok d/\e=.returned (.agg #[I d.c,.string d.t,nS])/\Cz B (Bu h v) (Bu h v') w w'/\Fo B h sv tv n w' ms' s' st v')\/(∃ b nv,a=.bad b/\e=.returned (.agg #[I (Jq b),ze,nS])/\Cz B (Bu h v) (Yr h nv) w w'/\Fm B h st.length nv w' b))
def Nm (W0:World) (h:Nat) (sv tv:Value) (n:Nat) (ss:List S2) (ts:List T2) (st:List By):Prop:=∀(ms:Mm) (s:Sb) (v:Hv) (nm:By) (w:World),Bw W0 w->Fo W0.heap.size h sv tv n w ms s st v->Fv ss ts ms st->Kl n s->Am nm->ms.length<=400200*Dd ts ms st->Ki ts ms s st->Calls prog 50 #[.pointer (p_ h),.string nm] w fun e w'=>MakeP5 W0.heap.size h sv tv n ss ts ms s st v nm w e w'
def HoldsP (B h:Nat) (sv tv:Value) (n:Nat) (ss:List S2) (ts:List T2) (ms:Mm) (s:Sb) (st:List By) (v:Hv) (gs:List G3) (w:World) (e:Ending) (w':World):Prop:=
  ∃ ms' s' a,Bc ss ts n ms s st (.holds gs 0) ms' s' a/\((∃ y v',a=(if y then .yes else .no)/\e=.returned (.bool y)/\Cz B (Bu h v) (Bu h v') w w'/\Fo B h sv tv n w' ms' s' st v')\/(∃ b nv,a=.bad b/\e=.returned (.bool false)/\Cz B (Bu h v) (Yr h nv) w w'/\Fm B h st.length nv w' b))
theorem Fo.notT (k:Fo B h sv tv n w ms s st v) (ho:w.ownsRow B' e sz u l xs) (h1:e≠61) (h2:e≠97) (h3:e≠131) (h4:e≠9):∀ b,u.ownBlock=some b->¬ Bu h v b:=by
  intro b q;obtain⟨xs,m1,m2⟩:=k.made;obtain⟨ys,cv,lv,r⟩:=k.rcs;rintro (q2|q2|q2|q2|q2|q2)
  · subst q2;exact Ad ho (Ne.symm h1) k.blk q
  · exact apart ho r.row h2 b q q2
  · exact apart ho m1 h3 b q q2
  · exact apart ho k.stk h4 b q q2
  · exact apart ho k.ran h4 b q q2
  · exact apart ho k.held h4 b q q2
theorem Vl (c:Int) (w:World) (h5:5<c):Calls prog 93 #[.agg #[I c,ze,nS]] w fun e w'=>e=.returned ze/\Bw w w':=by
  have d1:decide (c<0)=false:=qh;have d2:decide (5<c)=true:=qh;obtain⟨W,eW⟩:=Ai (w.alloc (.cells #[I c,ze,nS] 105));have hb:Bw w W:=qgb;have k0:W.cell? ⟨w.heap.size,0,none⟩=some (I c):=qcq;have k1:W.cell? ⟨w.heap.size,1,none⟩=some ze:=qcq;have k2:W.cell? ⟨w.heap.size,2,none⟩=some nS:=qcq;go_enter func93,ntmps93;go_wp2;go_ret;exact⟨rfl,hb⟩
theorem codeB_gt (b:Gd):5<Jq b:=by cases b<;>simp[Jq]
theorem Cz.drewN (h:Cz B X X' w w') (k:Nat):Cz B X X' w (w'.drewN k):=⟨below_drewN h.bel k,fun b hb hx=>by rw[World.heap_drewN];exact h.keep b hb hx,h.new⟩
theorem Fm.drewN (d:Fm B h m nv w b) (k:Nat):Fm B h m nv (w.drewN k) b:=d.frx (below_drewN (Below.refl _ _) k)
theorem holds_any (W0:World) (h:Nat) (sa ta:Option Addr) (c1 c2 n:Nat) (ss:List S2) (ts:List T2) (hE:Ir W0 sa ta ss ts) (st:List By) (hM:Nm W0 h (.slice sa ss.length c1) (.slice ta ts.length c2) n ss ts st) (h1:1<=n) (h8:n<=8)
    (ms:Mm) (s:Sb) (v:Hv) (qa la:Option Addr) (ql qc lc:Nat) (gs:List G3) (ys:List Value) (out:By) (w:World) (hb:Bw W0 w) (hs:Fo W0.heap.size h (.slice sa ss.length c1) (.slice ta ts.length c2) n w ms s st v) (hi:Fv ss ts ms st) (ft:Kl n s) (hgs:GsOk gs) (hr:w.ownsRow W0.heap.size 125 3 (.slice la gs.length lc) gs.length ys) (hf:Bo gs gs.length ys) (de:∀ i,i<gs.length->(gx gs i).sum.size<=1048576) (Y6:ms.length+gs.length<=400200*Dd ts ms st) (N3:Ki ts ms s st) :
    Calls prog 88 #[.pointer (p_ h),.agg #[.slice qa ql qc,.slice la gs.length lc,.string out]] w fun e w'=>HoldsP W0.heap.size h (.slice sa ss.length c1) (.slice ta ts.length c2) n ss ts ms s st v gs w e w':=by
  obtain⟨m,em⟩:=Ai gs.length;have EM:=hid em;obtain⟨W,eW⟩:=Ai (w.alloc (.cells #[.slice qa ql qc,.slice la m lc,.string out] 97));have HW:Hd (Bw w W):=by show Below _ _ _;rw[← eW];exact aN _ _
  obtain⟨Q,eQ⟩:=Ai w.heap.size;have HX:=hid (nW eW eQ);have HN:Hd (¬ Bu h v Q):=hs.not qb;have fy:=hb.size;have J8:Hd (Cz W0.heap.size (Bu h v) (Bu h v) w W):=Cz.of_below HW.o fy;have J0:=hid (hs.bl HW.o);have G2:=hid (hb.trans (HW.o.mono fy));have HLW:=hid (Ac hr HW.o);have HFL:=hid hf;have HLN:=hid (hs.notT hr qd qd qd qd);have HI0:=hid hi;have ri:=hid ft;have HGS:=hid hgs;have HSZ:=hid de;have HM:=hid hM;have HE:=hid hE;have HPH:=hid Y6;have HCN0:=hid N3;have sw:m<=200:=by rw[← em];exact hgs.1
  rw[em];clear hs hb hr hf hi ft hgs de hM hE em Y6 N3;go_enter func88,ntmps88;go_wp2_with fail
  try rw[eQ]
  clear eW
  go_loopw [5] (fun i wr=>∃(k:Nat) (ms':Mm) (s':Sb) (v':Hv),k<=m/\i=I k/\Hd (∀ br s2 a,Bc ss ts n ms' s' st (.holds gs k) br s2 a->Bc ss ts n ms s st (.holds gs 0) br s2 a)/\Hd (Fv ss ts ms' st)/\Hd (Kl n s')/\Hd (400200*Dd ts ms st+ms'.length<=ms.length+k+400200*Dd ts ms' st)/\Hd (Ki ts ms' s' st)/\Hd (Cz W0.heap.size (Bu h v) (Bu h v') W wr)/\Hd (Fo W0.heap.size h (.slice sa ss.length c1) (.slice ta ts.length c2) n wr ms' s' st v')) (fun i _=>m-(intOf i).toNat)
  case atStart=>exact⟨0,ms,s,v,Nat.zero_le _,rfl,(fun _ _ _ k=>k),HI0,ri,(by show _<=_;omega:400200*Dd ts ms st+ms.length<=ms.length+0+400200*Dd ts ms st),HCN0,Cz.refl _,J0⟩
  case round=>
    obtain⟨k,ms',s',v',hk,rfl,jt,HI,HK,HC,we,fu,HS⟩:=hrel;have rm:=hid (G2.o.trans fu.o.bel);have bj:=rm.o.size;have HXr:=hid (fu.o.blk HX.o HN.o);obtain⟨x0,x1,x2⟩:=Bb HXr.o
    by_cases aj:k<m
    rotate_left 1
    · have je:¬ (k:Int)<(m:Int):=qb
      have HY:=hid (jt.o _ _ _ (.hend (ss:=ss) (ts:=ts) (n:=n) (ms:=ms') (s:=s') (st:=st) (gs:=gs) (k:=k) qcb));go_wp2_with fail;go_ret;exact⟨ms',s',.yes,HY.o,Or.inl ⟨true,v',rfl,rfl,J8.o.trans fu.o,HS.o⟩⟩
    have je:(k:Int)<(m:Int):=qb;have jm:(0:Int)<=(k:Int):=qb;have sy:k<gs.length:=qca;obtain⟨a2,cc2,e2,H8⟩:=Fp (fu.o.own HLW.o HLN.o) HFL.o;rw[EM.o] at e2;cases e2;obtain⟨b,off,rfl,g1,g2,g3⟩:=H8 k sy;have pq:=hid (HGS.o.2 k sy);have HZS:=hid (HSZ.o k sy);have U4:Hd ((gx gs k).ask=false->Ap n (Co (Cb ss ts (gx gs k).name))=(gx gs k).sum->∀ br s2 a,Bc ss ts n ms' s' st (.holds gs (k+1)) br s2 a->Bc ss ts n ms s st (.holds gs 0) br s2 a):=fun q1 q2 br s2 a q3=>jt.o _ _ _ (.hhas sy q1 q2 q3);have HHNO:Hd ((gx gs k).ask=false->Ap n (Co (Cb ss ts (gx gs k).name))≠(gx gs k).sum->Bc ss ts n ms s st (.holds gs 0) ms' s' .no):=fun q1 q2=>jt.o _ _ _ (.hhasno sy q1 q2);have U7:Hd ((gx gs k).ask=true->∀ ms1 s1 d,Bc ss ts n ms' s' st (.make (gx gs k).name) ms1 s1 (.ok d)->Ap n (Bk d.c d.t)=(gx gs k).sum->∀ br s2 a,Bc ss ts n ms1 s1 st (.holds gs (k+1)) br s2 a->Bc ss ts n ms s st (.holds gs 0) br s2 a):=fun q1 ms1 s1 d q2 q3 br s2 a q4=>jt.o _ _ _ (.hask sy q1 q2 q3 q4);have HANO:Hd ((gx gs k).ask=true->∀ ms1 s1 d,Bc ss ts n ms' s' st (.make (gx gs k).name) ms1 s1 (.ok d)->Ap n (Bk d.c d.t)≠(gx gs k).sum->Bc ss ts n ms s st (.holds gs 0) ms1 s1 .no):=fun q1 ms1 s1 d q2 q3=>jt.o _ _ _ (.haskno sy q1 q2 q3);have HABD:Hd ((gx gs k).ask=true->∀ ms1 s1 b,Bc ss ts n ms' s' st (.make (gx gs k).name) ms1 s1 (.bad b)->Bc ss ts n ms s st (.holds gs 0) ms1 s1 (.bad b)):=fun q1 ms1 s1 b q2=>jt.o _ _ _ (.haskbad sy q1 q2);clear H8;generalize (gx gs k).name=x at *;generalize (gx gs k).sum=z at *;generalize (gx gs k).ask=y at *;obtain⟨G,eG⟩:=Ai wr.heap.size;obtain⟨wG,eWG⟩:=Ai (wr.alloc (.cells #[.string x,.bool y,.string z] 125));(have HBG:Hd (Bw wr wG):=by show Below _ _ _;rw[← eWG];exact aN _ _);have HG:=hid (nW eWG eG);have wa:=hid (HS.o.bl HBG.o);have HFG:=hid (fu.o.trans (Cz.of_below HBG.o bj));have K6:=hid (rm.o.trans (HBG.o.mono bj));have HNG:Hd (¬ Bu h v' G):=HS.o.not qb;obtain⟨d0,d1,d2⟩:=Bb HG.o;go_wp2_with fail;clear eWG d0 d1 d2 x0 x1 x2 g1 g2 g3;refine(has_any h sa ta c1 c2 ss ts x wG qbs qbs (HE.o.rs.bl K6.o) (HE.o.rt.bl K6.o) (zo HE.o.l1) (zo HE.o.l2)).mono ?_;rintro e w1 ⟨af,rfl⟩;have hBG:=K6.o.size;replace wa:=hid (wa.o.bl af);replace HG:=hid (Ae HG.o af);replace HFG:=hid (HFG.o.trans (Cz.of_below af hBG));replace K6:=hid (K6.o.trans (af.mono hBG));have hGw:=Af HG.o;have bg:=K6.o.size;clear af hBG;obtain⟨tb,etb⟩:=Ai (Cb ss ts x);rw[etb];rw[etb] at U4 HHNO;clear etb;go_wp2_with fail;refine(Lc tb w1).mono ?_;rintro e w1' ⟨rfl,rfl⟩;obtain⟨d0,d1,d2⟩:=Bb HG.o;have hfs:(Co tb).size<=1048576:=zo (Hk tb);cases y
    · go_wp2_with fail
      clear d0 d1 d2;have pa:=bg;obtain⟨sm,esm⟩:=Ai (Ap n (Co tb));(have tm:Hd (∀ V:World,Calls prog 45 #[.string (Co tb),I n] V fun e w'=>e=.returned (.string sm)/\Bw V w'):=fun V=>by rw[← esm];exact Fe _ n V hfs h1 h8);have ESM:=hid esm;clear esm;refine Lt.begin 99 (fun w'=>w'.cell? ⟨h,2,none⟩=some (I n)/\w'.cell? ⟨h,9,none⟩=some (.bool false)/\w'.heap[G]?=some (.cells #[.string x,.bool false,.string z] 125 (0,0))) qi ?_;obtain⟨wD,eD⟩:=Ai w1.drew;rw[eD];have di:Bw w1 wD:=qaa;clear eD;replace wa:=hid (wa.o.bl di);replace HG:=hid (Ae HG.o di);replace HFG:=hid (HFG.o.trans (Cz.of_below di pa));have iw:(fun w'=>w'.cell? ⟨h,2,none⟩=some (I n)/\w'.cell? ⟨h,9,none⟩=some (.bool false)/\w'.heap[G]?=some (.cells #[.string x,.bool false,.string z] 125 (0,0))) wD:=⟨qbs,qbs,HG.o⟩;replace pa:=Nat.le_trans pa di.size;change K 0 _
      iterate 11
       refine Lt.ti (v:=?_) iw ?_ ?_;rotate_left 1
       · exact qat
       simp only[gX]
      change K 12 _
      iterate 2
       refine Lt.ti (v:=?_) iw ?_ ?_;rotate_left 1
       · exact qat
       simp only[gX]
      refine Lt.sp (i:=11) (fun K hK=>?_);go_simp;refine(tm.o _).mono ?_;rintro e wS ⟨rfl,hbS⟩;replace wa:=hid (wa.o.bl hbS);replace HG:=hid (Ae HG.o hbS);replace HFG:=hid (HFG.o.trans (Cz.of_below hbS pa));have vu:(fun w'=>w'.cell? ⟨h,2,none⟩=some (I n)/\w'.cell? ⟨h,9,none⟩=some (.bool false)/\w'.heap[G]?=some (.cells #[.string x,.bool false,.string z] 125 (0,0))) wS:=⟨qbs,qbs,HG.o⟩;replace pa:=Nat.le_trans pa hbS.size;refine hK.out _ _ (fun _=>vu) (fun _=>?_);clear hK K hbS
      try simp only[gX]
      by_cases hq:sm=z
      · have dq:=Cw hq
        change K 14 _
        iterate 2
         refine Lt.ti (v:=?_) vu ?_ ?_;rotate_left 1
         · exact qat
         simp only[gX]
        refine Lt.done qi ?_ _;go_wp2_with fail;go_roundw
        case rel=>exact⟨k+1,ms',s',v',qb,qj,(U4.o qae qek),HI,HK,(by have:=HC.o;show _<=_;omega:400200*Dd ts ms st+ms'.length<=ms.length+(k+1)+400200*Dd ts ms' st),we,HFG,wa⟩
        case measure=>simp[intOf];omega
      · have dq:=Gl hq
        change K 14 _
        iterate 2
         refine Lt.ti (v:=?_) vu ?_ ?_;rotate_left 1
         · exact qat
         simp only[gX]
        refine Lt.done qi ?_ _;go_wp2_with fail;go_ret;exact⟨ms',s',.no,(HHNO.o qae qek),Or.inl ⟨false,v',rfl,rfl,J8.o.trans HFG.o,wa.o⟩⟩
    · go_wp2_with fail
      clear d0 d1 d2;refine(HM.o ms' s' v' x w1 K6.o wa.o HI.o HK.o pq.o (by have:=HC.o;have:=HPH.o;rw[EM.o] at this;omega) we.o).mono ?_;rintro e w2 ⟨br,s2,a2,bi,⟨dd,v2,rfl,rfl,bz,dj⟩|⟨bb,nb,rfl,rfl,bz,py⟩⟩;rotate_left 1
      · have ki:=hid (HABD.o qae _ _ _ bi)
        have fl:=hid (HFG.o.trans bz);have vj:=hid py;have be:=Nat.le_trans bg bz.bel.size;clear bi bz py;go_wp2_with fail;refine(Vl _ w2 (codeB_gt bb)).mono ?_;rintro e w3 ⟨rfl,aw⟩;replace fl:=hid (fl.o.trans (Cz.of_below aw be));replace vj:=hid (vj.o.frx aw);clear aw;obtain⟨k9,_,_⟩:=vj.o.cells;go_wp2_with fail
        go_quiet (fail)
        go_wp2_with fail;go_ret;exact⟨_,_,_,ki.o,Or.inr ⟨bb,nb,rfl,rfl,J8.o.trans (fl.o.drewN _),vj.o.drewN _⟩⟩
      obtain⟨i1,i2,i3,i4⟩:=Bc.inv HE.o.v bi HI.o HK.o pq.o (fun b q=>qw);have B8:=Bc.cost HE.o.v bi HI.o HK.o pq.o (fun b q=>qw);have HCT2:=hid (Bc.cntM HE.o.v bi HI.o HK.o pq.o (fun b q=>qw) rfl we.o);have HMD:=hid (i1.done _ _ i4);have G0:=hid i1;have fs:=hid i2;have ki:=hid bi;(have HC2:Hd (400200*Dd ts ms st+br.length<=ms.length+(k+1)+400200*Dd ts br st):=by have:=HC.o;show _<=_;simp only[Ol] at B8;omega);have fl:=hid (HFG.o.trans bz);have cw:=hid dj;have be:=Nat.le_trans bg bz.bel.size;have G1:=hid (bz.blk HG.o HNG.o);clear bi bz dj i1 i2 i3 i4 B8;obtain⟨dc,edc⟩:=Ai dd.c;obtain⟨dt,edt⟩:=Ai dd.t;rw[edc,edt];have HFO:Hd (∀ V:World,Calls prog 93 #[.agg #[I dc,.string dt,nS]] V fun e w'=>e=.returned (.string (Bk dc dt))/\Bw V w'):=fun V=>Mj dc dt V (by rw[← edc];exact HMD.o.c0) (by rw[← edc];exact HMD.o.c5) qgx;have hfz:(Bk dc dt).size<=1048576:=zo (Dn (c:=dc) (t:=dt) qgx);have ut:Hd (Ap n (Bk dc dt)=z->∀ kt s3 a,Bc ss ts n br s2 st (.holds gs (k+1)) kt s3 a->Bc ss ts n ms s st (.holds gs 0) kt s3 a):=fun q=>U7.o qae _ _ _ ki.o (by rw[edc,edt];exact q);have HNOO:Hd (Ap n (Bk dc dt)≠z->Bc ss ts n ms s st (.holds gs 0) br s2 .no):=fun q=>HANO.o qae _ _ _ ki.o (by rw[edc,edt];exact q);clear edc edt;go_wp2_with fail;refine(HFO.o w2).mono ?_;rintro e w3 ⟨rfl,aw⟩;replace fl:=hid (fl.o.trans (Cz.of_below aw be));replace cw:=hid (cw.o.bl aw);replace G1:=hid (Ae G1.o aw);have pa:=Nat.le_trans be aw.size;clear aw;go_wp2_with fail;obtain⟨sm,esm⟩:=Ai (Ap n (Bk dc dt));(have tm:Hd (∀ V:World,Calls prog 45 #[.string (Bk dc dt),I n] V fun e w'=>e=.returned (.string sm)/\Bw V w'):=fun V=>by rw[← esm];exact Fe _ n V hfz h1 h8);have ESM:=hid esm;clear esm;refine Lt.begin 99 (fun w'=>w'.cell? ⟨h,2,none⟩=some (I n)/\w'.cell? ⟨h,9,none⟩=some (.bool false)/\w'.heap[G]?=some (.cells #[.string x,.bool true,.string z] 125 (0,0))) qi ?_;obtain⟨wD,eD⟩:=Ai w3.drew;rw[eD];have di:Bw w3 wD:=qaa;clear eD;replace cw:=hid (cw.o.bl di);replace G1:=hid (Ae G1.o di);replace fl:=hid (fl.o.trans (Cz.of_below di pa));have iw:(fun w'=>w'.cell? ⟨h,2,none⟩=some (I n)/\w'.cell? ⟨h,9,none⟩=some (.bool false)/\w'.heap[G]?=some (.cells #[.string x,.bool true,.string z] 125 (0,0))) wD:=⟨qbf,qbf,G1.o⟩;replace pa:=Nat.le_trans pa di.size;change K 0 _
      iterate 11
       refine Lt.ti (v:=?_) iw ?_ ?_;rotate_left 1
       · exact qat
       simp only[gX]
      change K 12 _
      iterate 2
       refine Lt.ti (v:=?_) iw ?_ ?_;rotate_left 1
       · exact qat
       simp only[gX]
      refine Lt.sp (i:=11) (fun K hK=>?_);go_simp;refine(tm.o _).mono ?_;rintro e wS ⟨rfl,hbS⟩;replace cw:=hid (cw.o.bl hbS);replace G1:=hid (Ae G1.o hbS);replace fl:=hid (fl.o.trans (Cz.of_below hbS pa));have vu:(fun w'=>w'.cell? ⟨h,2,none⟩=some (I n)/\w'.cell? ⟨h,9,none⟩=some (.bool false)/\w'.heap[G]?=some (.cells #[.string x,.bool true,.string z] 125 (0,0))) wS:=⟨qbf,qbf,G1.o⟩;replace pa:=Nat.le_trans pa hbS.size;refine hK.out _ _ (fun _=>vu) (fun _=>?_);clear hK K hbS
      try simp only[gX]
      by_cases hq:sm=z
      · have dq:=Cw hq
        change K 14 _
        iterate 2
         refine Lt.ti (v:=?_) vu ?_ ?_;rotate_left 1
         · exact qat
         simp only[gX]
        refine Lt.done qi ?_ _;go_wp2_with fail;go_roundw
        case rel=>exact⟨k+1,br,s2,v2,qb,qj,(ut.o qek),G0,fs,HC2,HCT2,fl,cw⟩
        case measure=>simp[intOf];omega
      · have dq:=Gl hq
        change K 14 _
        iterate 2
         refine Lt.ti (v:=?_) vu ?_ ?_;rotate_left 1
         · exact qat
         simp only[gX]
        refine Lt.done qi ?_ _;go_wp2_with fail;go_ret;exact⟨br,s2,.no,(HNOO.o qek),Or.inl ⟨false,v2,rfl,rfl,J8.o.trans fl.o,cw.o⟩⟩
def TryP (B h:Nat) (sv tv:Value) (n:Nat) (ss:List S2) (ts:List T2) (ms:Mm) (s:Sb) (st:List By) (v:Hv) (is:List I3) (w:World) (e:Ending) (w':World):Prop:=
  ∃ ms' s' a,Bc ss ts n ms s st (.tri is 0 s.R.length) ms' s' a/\((∃ c t r v',a=.hit c t/\e=.returned (.tuple #[.agg #[I c,.string t,nS],I r])/\0<=r/\Cz B (Bu h v) (Bu h v') w w'/\Fo B h sv tv n w' ms' s' st v')\/(∃ v',a=.none/\e=.returned (.tuple #[.agg #[I 0,ze,nS],I (-1)])/\Cz B (Bu h v) (Bu h v') w w'/\Fo B h sv tv n w' ms' s' st v')\/(∃ b nv,a=.bad b/\e=.returned (.tuple #[.agg #[I 0,ze,nS],I (-1)])/\Cz B (Bu h v) (Yr h nv) w w'/\Fm B h st.length nv w' b))
theorem getA_rr {T:List By} {A:By} {ok:Bool} (ha:Gf (T.map (Ap n))) (h:Eu n T t A ok):A=Lg n T t/\(Yl A->ok=true):=by
  obtain⟨h1,h2⟩:=getA_of ha h;refine⟨h1,fun hr=>h2.2 ?_⟩
  rcases Classical.em (Got n T t) with k|k
  · exact k
  · rw[h1,getA_none k] at hr;exact absurd hr rr_empty
theorem try_any (W0:World) (h:Nat) (sa ta:Option Addr) (c1 c2 n:Nat) (ss:List S2) (ts:List T2) (hE:Ir W0 sa ta ss ts) (st:List By) (hM:Nm W0 h (.slice sa ss.length c1) (.slice ta ts.length c2) n ss ts st) (h1:1<=n) (h8:n<=8)
    (ms:Mm) (s:Sb) (v:Hv) (a:Option Addr) (ac:Nat) (is:List I3) (w:World) (hb:Bw W0 w) (hs:Fo W0.heap.size h (.slice sa ss.length c1) (.slice ta ts.length c2) n w ms s st v) (hi:Fv ss ts ms st) (ft:Kl n s) (du:Lv W0.heap.size w a is) (B1:is.length<=1048576) (Y6:ms.length+200*s.R.length<=400200*Dd ts ms st) (N3:Ki ts ms s st) :
    Calls prog 70 #[.pointer (p_ h),.agg #[.slice a is.length ac]] w fun e w'=>TryP W0.heap.size h (.slice sa ss.length c1) (.slice ta ts.length c2) n ss ts ms s st v is w e w':=by
  obtain⟨m,em⟩:=Ai s.R.length;have EM:=hid em;obtain⟨W,eW⟩:=Ai ((w.alloc (.cells #[.slice a is.length ac] 94)).alloc (.cells #[I 0,ze,nS] 105));have HW:Hd (Bw w W):=by show Below _ _ _;rw[← eW];exact(aN _ _).alloc qg _
  obtain⟨Q,eQ⟩:=Ai w.heap.size;have HP0:Hd (W.heap[Q]?=some (.cells #[.slice a is.length ac] 94 (0,0))):=qge
  have jz:Hd (W.heap[Q+1]?=some (.cells #[I 0,ze,nS] 105 (0,0))):=by
    exact qip
  have HN:Hd (∀ b,Q<=b->¬ Bu h v b):=fun b hb=>hs.not qb;have fy:=hb.size;have J8:Hd (Cz W0.heap.size (Bu h v) (Bu h v) w W):=Cz.of_below HW.o fy;have J0:=hid (hs.bl HW.o);have G2:=hid (hb.trans (HW.o.mono fy));have HCW:=hid (du.belowB (HW.o.mono fy));have HI0:=hid hi;have ri:=hid ft;have HM:=hid hM;have HE:=hid hE;have HPH:=hid Y6;have HCN0:=hid N3;have sw:m<=2000:=by rw[← em];exact ft.2.1
  have hQW:=Af jz.o;obtain⟨qa0,qc0,eq0⟩:∃ a cap,v.qv=.slice a s.R.length cap:=by obtain⟨xs,cv,lv,r⟩:=hs.rcs;exact Aw r.row
  have k4:W.cell? ⟨h,4,none⟩=some (.slice qa0 m qc0):=by rw[cH J0.o.blk,← em,← eq0];rfl
  clear hs hb hi ft hM hE em Y6 du eq0 N3;go_enter func70,ntmps70;go_wp2_with fail
  try rw[eQ]
  clear eW k4
  go_loopw [7] (fun i wr=>∃(k:Nat) (ms':Mm) (s':Sb) (v':Hv),k<=m/\i=I k/\Hd (∀ br s2 a,Bc ss ts n ms' s' st (.tri is k m) br s2 a->Bc ss ts n ms s st (.tri is 0 m) br s2 a)/\Hd (Fv ss ts ms' st)/\Hd (Kl n s')/\Hd (m<=s'.R.length)/\Hd (400200*Dd ts ms st+ms'.length<=ms.length+200*k+400200*Dd ts ms' st)/\Hd (Ki ts ms' s' st)/\Hd (Cz W0.heap.size (Bu h v) (Bu h v') W wr)/\Hd (Fo W0.heap.size h (.slice sa ss.length c1) (.slice ta ts.length c2) n wr ms' s' st v')) (fun i _=>m-(intOf i).toNat)
  case atStart=>exact⟨0,ms,s,v,Nat.zero_le _,rfl,(fun _ _ _ k=>k),HI0,ri,Nat.le_of_eq EM.o.symm,(by show _<=_;omega:400200*Dd ts ms st+ms.length<=ms.length+200*0+400200*Dd ts ms st),HCN0,Cz.refl _,J0⟩
  case round=>
    obtain⟨k,ms',s',v',hk,rfl,jt,HI,HK,HML,HC,we,fu,HS⟩:=hrel;have rm:=hid (G2.o.trans fu.o.bel);have bj:=rm.o.size;have iq:=hid (fu.o.blk jz.o (HN.o _ qb))
    by_cases aj:k<m
    rotate_left 1
    · have je:¬ (k:Int)<(m:Int):=qb
      have HY:=hid (jt.o _ _ _ (.tend (ss:=ss) (ts:=ts) (n:=n) (ms:=ms') (s:=s') (st:=st) (is:=is) (i:=k) (m:=m) qb));obtain⟨z0,z1,z2,zf⟩:=Ea iq.o;go_wp2_with fail;obtain⟨y0,y1,y2,_⟩:=Ea (Bi iq.o (I 0) ze nS);exact bR (v:=.tuple #[.agg #[I 0,ze,nS],I (-1)]) qgf rfl ⟨ms',s',.none,by rw[EM.o];exact HY.o,Or.inr (Or.inl ⟨v',rfl,rfl,(J8.o.trans fu.o).set3 qb qb _ _ _,HS.o.set3 ⟨_,iq.o⟩ qd _ _ _⟩)⟩
    have je:(k:Int)<(m:Int):=qb;have jm:(0:Int)<=(k:Int):=qb;have hkr:=Nat.lt_of_lt_of_le aj HML.o;obtain⟨xs,cv,lw,t7⟩:=HS.o.rcs;obtain⟨qa,qc,eqv⟩:=Aw t7.row;have hro:Es wr W0.heap.size (.slice qa s'.R.length qc) s'.R:=⟨xs,cv,lw,by rw[← eqv];exact t7⟩;obtain⟨b,ca,cc,la,lc,rfl,g1,g2,g3,wf,hrG⟩:=hro.at hkr;obtain⟨zs,l1,l2⟩:=t7.look k hkr;obtain⟨P2,V1,el,_⟩:=Fp l1 l2
    have wv:lw k=.slice la (qx s'.R k).looks.length lc:=by
      have f2:=(t7.fil k hkr).2.1;have ge:=t7.row;rw[eqv] at ge;obtain⟨b',q,c2⟩:=Cn ge f2
      cases q;rw[g2] at c2;exact(Option.some.inj c2).symm
    rw[wv] at l1;(have k4:wr.cell? ⟨h,4,none⟩=some (.slice (p_ b) s'.R.length qc):=by rw[cH HS.o.blk,← eqv];rfl);have EQV:=hid eqv;have oh:=hid (HK.o.2.2 k hkr);have jl:Hd (Uv n s' is k↔((qx s'.R k).code=is/\Yl (Lg n s'.T (qx s'.R k).out))):=Iff.rfl;have HOTH:Hd (¬ Uv n s' is k->∀ br s2 a,Bc ss ts n ms' s' st (.tri is (k+1) m) br s2 a->Bc ss ts n ms s st (.tri is 0 m) br s2 a):=fun q1 br s2 a q2=>jt.o _ _ _ (.tother aj q1 q2);have vh:Hd (Uv n s' is k->∀ br s2,Bc ss ts n ms' s' st (.holds (qx s'.R k).looks 0) br s2 .yes->Bc ss ts n ms s st (.tri is 0 m) br s2 (.hit (rdC (Lg n s'.T (qx s'.R k).out)) (rdT (Lg n s'.T (qx s'.R k).out)))):=fun q1 br s2 q2=>jt.o _ _ _ (.thit aj q1 q2);have jo:Hd (Uv n s' is k->∀ ms1 s1,Bc ss ts n ms' s' st (.holds (qx s'.R k).looks 0) ms1 s1 .no->∀ br s2 a,Bc ss ts n ms1 s1 st (.tri is (k+1) m) br s2 a->Bc ss ts n ms s st (.tri is 0 m) br s2 a):=fun q1 ms1 s1 q2 br s2 a q3=>jt.o _ _ _ (.tno aj q1 q2 q3);have vo:Hd (Uv n s' is k->∀ ms1 s1 b,Bc ss ts n ms' s' st (.holds (qx s'.R k).looks 0) ms1 s1 (.bad b)->Bc ss ts n ms s st (.tri is 0 m) ms1 s1 (.bad b)):=fun q1 ms1 s1 b q2=>jt.o _ _ _ (.tbad aj q1 q2);obtain⟨ra,rb,rx_,erx⟩:∃ x y z,qx s'.R k=⟨x,y,z⟩:=⟨_,_,_,rfl⟩;rw[erx] at g1 g2 g3 wf hrG l1 l2 oh jl vh jo vo;dsimp only at g1 g2 g3 wf hrG l1 l2 oh jl vh jo vo;have X2:=hid l1;have O0:=hid l2;have ig:=hid wf;clear l1 l2 wf hrG wv el hro t7 erx jt;obtain⟨C,eC⟩:=Ai wr.heap.size;obtain⟨wC,eWC⟩:=Ai (wr.alloc (.cells #[.slice ca ra.length cc,.slice la rb.length lc,.string rx_] 97));(have X5:Hd (Bw wr wC):=by show Below _ _ _;rw[← eWC];exact aN _ _);have O7:=hid (nW eWC eC);have HNC:Hd (¬ Bu h v' C):=HS.o.not qb;have rd:=hid (HS.o.bl X5.o);have zu:=hid (fu.o.trans (Cz.of_below X5.o bj));have O8:=hid (rm.o.trans (X5.o.mono bj));have HP0C:=hid (zu.o.blk HP0.o (HN.o _ (Nat.le_refl _)));have wm:=hid (Ae iq.o X5.o);have ur:=O8.o.size;have HR3C:=hid (ig.o.bl X5.o);have vf:=hid (Ac X2.o X5.o);have HCC:=hid (HCW.o.belowB zu.o.bel);obtain⟨d0,d1,d2⟩:=Bb O7.o;have p0:=Ho HP0C.o;(have hral:ra.length<=1048576:=by have:ra.length<=200:=(Ko oh.o.1).2;omega);go_wp2_with fail;clear eWC d0 d1 d2 p0 g1 g2 g3 k4;refine(l5Same_any ca a cc ac ra is wC HR3C.o HCC.o.1 hral B1).mono ?_;rintro e w1 ⟨af,bb,rfl,hbb⟩;replace rd:=hid (rd.o.bl af);replace O7:=hid (Ae O7.o af);replace wm:=hid (Ae wm.o af);replace zu:=hid (zu.o.trans (Cz.of_below af ur));replace O8:=hid (O8.o.trans (Below.mono af ur));replace vf:=hid (Ac vf.o af);replace ur:=Nat.le_trans ur af.size;have HBI:=hid hbb;clear af hbb HR3C HCC HP0C;cases bb
    · have HNA:Hd (¬ Uv n s' is k):=fun q=>by have:=HBI.o.2 (jl.o.1 q).1;cases this
      clear HBI;go_wp2_with fail;go_roundw
      case rel=>exact⟨k+1,ms',s',v',qb,qj,HOTH.o HNA.o,HI,HK,HML,(by have:=HC.o;show _<=_;omega:400200*Dd ts ms st+ms'.length<=ms.length+200*(k+1)+400200*Dd ts ms' st),we,zu,rd⟩
      case measure=>simp[intOf];omega
    have N9:Hd (ra=is):=HBI.o.1 rfl;clear HBI;obtain⟨g1,p1,etx⟩:=rd.o.txa;(have fj:Hd (∀ V,Bw w1 V->Cv V (p_ g1) s'.T):=fun V hV=>by have:=rd.o.txt;rw[etx] at this;exact Wk (Ac this hV));have tj:=hid HK.o.1;go_wp2_with fail;have HW1:Hd (Bw w1 w1):=Below.refl _ _;refine Lt.begin 99 (fun w'=>w'.cell? ⟨h,2,none⟩=some (I n)/\w'.cell? ⟨h,3,none⟩=some (.slice (p_ g1) s'.T.length p1)/\w'.cell? ⟨h,4,none⟩=some (.slice (p_ b) s'.R.length qc)/\w'.heap[C]?=some (.cells #[.slice ca ra.length cc,.slice la rb.length lc,.string rx_] 97 (0,0))) qi ?_;obtain⟨wD,eD⟩:=Ai w1.drew;rw[eD];have di:Bw w1 wD:=qaa;clear eD;replace rd:=hid (rd.o.bl di);replace O7:=hid (Ae O7.o di);replace wm:=hid (Ae wm.o di);replace zu:=hid (zu.o.trans (Cz.of_below di ur));replace O8:=hid (O8.o.trans (Below.mono di ur));replace vf:=hid (Ac vf.o di);replace ur:=Nat.le_trans ur di.size;have iw:(fun w'=>w'.cell? ⟨h,2,none⟩=some (I n)/\w'.cell? ⟨h,3,none⟩=some (.slice (p_ g1) s'.T.length p1)/\w'.cell? ⟨h,4,none⟩=some (.slice (p_ b) s'.R.length qc)/\w'.heap[C]?=some (.cells #[.slice ca ra.length cc,.slice la rb.length lc,.string rx_] 97 (0,0))) wD:=⟨(by rw[cH rd.o.blk];rfl),(by rw[cH rd.o.blk,← etx];rfl),(by rw[cH rd.o.blk,← EQV.o];rfl),O7.o⟩;have HD1:=hid di;change K 0 _
    iterate 6
     refine Lt.ti (v:=?_) iw ?_ ?_;rotate_left 1
     · exact qlq
     simp only[gX]
    refine Lt.sp (i:=6) (fun K hK=>?_);go_simp;refine(l4Get_any n (p_ g1) (p_ b) p1 s'.R.length qc s'.T rx_ _ h1 h8 (fj.o _ HD1.o) (zo tj.o.1) tj.o.2.1 tj.o.2.2).mono ?_;rintro e wG ⟨yj,A,ok,rfl,hgo⟩;have HGO:=hid (getA_rr tj.o.2.2 hgo);replace rd:=hid (rd.o.bl yj);replace O7:=hid (Ae O7.o yj);replace wm:=hid (Ae wm.o yj);replace zu:=hid (zu.o.trans (Cz.of_below yj ur));replace O8:=hid (O8.o.trans (Below.mono yj ur));replace vf:=hid (Ac vf.o yj);replace ur:=Nat.le_trans ur yj.size;have vu:(fun w'=>w'.cell? ⟨h,2,none⟩=some (I n)/\w'.cell? ⟨h,3,none⟩=some (.slice (p_ g1) s'.T.length p1)/\w'.cell? ⟨h,4,none⟩=some (.slice (p_ b) s'.R.length qc)/\w'.heap[C]?=some (.cells #[.slice ca ra.length cc,.slice la rb.length lc,.string rx_] 97 (0,0))) wG:=⟨(by rw[cH rd.o.blk];rfl),(by rw[cH rd.o.blk,← etx];rfl),(by rw[cH rd.o.blk,← EQV.o];rfl),O7.o⟩;refine hK.out _ _ (fun _=>vu) (fun _=>?_);clear hK K hgo
    try simp only[gX]
    change K 7 _
    iterate 5
     refine Lt.ti (v:=?_) vu ?_ ?_;rotate_left 1
     · exact qlq
     simp only[gX]
    refine Lt.done qi ?_ _;clear yj HD1 fj;obtain⟨eA,hAok⟩:=HGO.o;have EA:=hid eA;have HAO:=hid hAok;clear eA hAok;(have hAs:A.size<=2002:=by rw[EA.o];exact Xe tj.o.2.1);go_wp2_with fail;refine(Yg A wG hAs).mono ?_;rintro e w2 ⟨ag,hrd⟩;replace rd:=hid (rd.o.bl ag);replace O7:=hid (Ae O7.o ag);replace wm:=hid (Ae wm.o ag);replace zu:=hid (zu.o.trans (Cz.of_below ag ur));replace O8:=hid (O8.o.trans (Below.mono ag ur));replace vf:=hid (Ac vf.o ag);replace ur:=Nat.le_trans ur ag.size;clear ag
    rcases hrd with ⟨xy,rfl⟩|⟨xy,rfl⟩
    rotate_left 1
    · have HNA:Hd (¬ Uv n s' is k):=fun q=>xy (by rw[EA.o];exact(jl.o.1 q).2)
      clear xy HAO;cases ok
      all_goals
        go_wp2_with fail;obtain⟨w3,e3⟩:=Ai (w2.alloc (.cells #[I 0,ze,nS] 105));have aw:Bw w2 w3:=qdw;rw[e3];clear e3;replace rd:=hid (rd.o.bl aw);replace zu:=hid (zu.o.trans (Cz.of_below aw ur));replace ur:=Nat.le_trans ur aw.size;go_roundw
        case rel=>exact⟨k+1,ms',s',v',qb,qj,HOTH.o HNA.o,HI,HK,HML,(by have:=HC.o;show _<=_;omega:400200*Dd ts ms st+ms'.length<=ms.length+200*(k+1)+400200*Dd ts ms' st),we,zu,rd⟩
        case measure=>simp[intOf];omega
    obtain rfl:=HAO.o xy;have vp:Hd (Uv n s' is k):=jl.o.2 ⟨N9.o,by rw[← EA.o];exact xy⟩;obtain⟨rc,erc⟩:=Ai (rdC A);obtain⟨rt,ert⟩:=Ai (rdT A);rw[erc,ert];have ERC:=hid (And.intro erc ert);clear erc ert xy HAO;obtain⟨d,ed⟩:=Ai w2.heap.size
    go_upto_region 9 with fail
    obtain⟨w3,e3⟩:=Ai (w2.alloc (.cells #[I rc,.string rt,nS] 105));have aw:Bw w2 w3:=qdw;have HD:=hid (nW e3 ed);have HND:Hd (¬ Bu h v' d):=rd.o.not qb;rw[e3]
    try rw[ed]
    clear e3;replace rd:=hid (rd.o.bl aw);replace O7:=hid (Ae O7.o aw);replace wm:=hid (Ae wm.o aw);replace zu:=hid (zu.o.trans (Cz.of_below aw ur));replace O8:=hid (O8.o.trans (Below.mono aw ur));replace vf:=hid (Ac vf.o aw);replace ur:=Nat.le_trans ur aw.size;clear aw;obtain⟨d0,d1,d2⟩:=Bb O7.o;go_wp2_with fail;clear d0 d1 d2;refine(holds_any W0 h sa ta c1 c2 n ss ts HE.o st HM.o h1 h8 ms' s' v' ca la ra.length cc lc rb zs rx_ w3 O8.o rd.o HI.o HK.o ⟨oh.o.2.2.1,fun j hj=>(oh.o.2.2.2 j hj).1⟩ vf.o O0.o (fun i hi=>by have:=(oh.o.2.2.2 i hi).2;show (gx rb i).sum.size<=_;rw[this];omega) (by have:=HC.o;have:=HPH.o;have:=oh.o.2.2.1;have:rb.length<=200:=this;have:=EM.o;omega) we.o).mono ?_;rintro e w4 ⟨br,s2,a2,bi,⟨y,v2,rfl,rfl,bz,dj⟩|⟨bf,nb,rfl,rfl,bz,py⟩⟩;rotate_left 1
    · have ki:=hid (vo.o vp.o _ _ _ bi)
      have fl:=hid (zu.o.trans bz);have vj:=hid py;have og:=hid (fl.o.blk jz.o (HN.o _ qb));clear bi bz py;obtain⟨k9,_,_⟩:=vj.o.cells;obtain⟨z0,z1,z2,zf⟩:=Ea og.o;go_wp2_with fail;obtain⟨y0,y1,y2,_⟩:=Ea (Bi og.o (I 0) ze nS);exact bR (v:=.tuple #[.agg #[I 0,ze,nS],I (-1)]) qgf rfl ⟨_,_,_,by rw[EM.o];exact ki.o,Or.inr (Or.inr ⟨bf,nb,rfl,rfl,(J8.o.trans fl.o).set3 qb qb _ _ _,vj.o.set3 ⟨_,og.o⟩ qd qd _ _ _⟩)⟩
    have fl:=hid (zu.o.trans bz);have cw:=hid dj;have og:=hid (fl.o.blk jz.o (HN.o _ qb));have HDX:=hid (bz.blk HD.o HND.o);have ki:=hid bi;clear bi bz dj;cases y
    · have ph:=hid (jo.o vp.o _ _ ki.o)
      obtain⟨i1,i2,i3,i4⟩:=Bc.inv HE.o.v ki.o HI.o HK.o ⟨oh.o.2.2.1,fun j hj=>(oh.o.2.2.2 j hj).1⟩ (fun b q=>qw);have B8:=Bc.cost HE.o.v ki.o HI.o HK.o ⟨oh.o.2.2.1,fun j hj=>(oh.o.2.2.2 j hj).1⟩ (fun b q=>qw);have HCT2:=hid (Bc.cntM HE.o.v ki.o HI.o HK.o ⟨oh.o.2.2.1,fun j hj=>(oh.o.2.2.2 j hj).1⟩ (fun b q=>qw) rfl we.o);have G0:=hid i1;have fs:=hid i2;have HML2:=hid (Nat.le_trans HML.o i3.len);(have HC2:Hd (400200*Dd ts ms st+br.length<=ms.length+200*(k+1)+400200*Dd ts br st):=by have:=HC.o;have:rb.length<=200:=oh.o.2.2.1;show _<=_;simp only[Ol] at B8;omega);have k9:=cK cw.o.blk 9;clear i1 i2 i3 i4 B8;go_wp2_with fail;go_roundw
      case rel=>exact⟨k+1,br,s2,v2,qb,qj,ph.o,G0,fs,HML2,HC2,HCT2,fl,cw⟩
      case measure=>simp[intOf];omega
    · have ph:=hid (vh.o vp.o _ _ ki.o)
      rw[← EA.o,ERC.o.1,ERC.o.2] at ph;obtain⟨x0,x1,x2⟩:=Bb HDX.o;obtain⟨z0,z1,z2,zf⟩:=Ea og.o;go_wp2_with fail;obtain⟨y0,y1,y2,_⟩:=Ea (Bi og.o (I rc) (.string rt) nS);exact bR (v:=.tuple #[.agg #[I rc,.string rt,nS],I k]) qgf rfl ⟨_,_,_,by rw[EM.o];exact ph.o,Or.inl ⟨_,_,_,v2,rfl,rfl,jm,(J8.o.trans fl.o).set3 qb qb _ _ _,cw.o.set3 ⟨_,og.o⟩ qd _ _ _⟩⟩
def RunP5 (B h:Nat) (sv tv:Value) (n:Nat) (ss:List S2) (ts:List T2) (ms:Mm) (s:Sb) (st:List By) (v:Hv) (is:List I3) (w:World) (e:Ending) (w':World):Prop:=
  ∃ ms' s' a,Bc ss ts n ms s st (.run is [] []) ms' s' a/\((∃ d v' r,a=.ok d/\e=.returned (.tuple #[.agg #[I d.c,.string d.t,nS],I r])/\0<=r/\Cz B (Bu h v) (Bu h v') w w'/\Fo B h sv tv n w' ms' s' st v')\/(∃ b nv,a=.bad b/\e=.returned (.tuple #[.agg #[I 0,ze,nS],I (-1)])/\Cz B (Bu h v) (Yr h nv) w w'/\Fm B h st.length nv w' b))
theorem Fo.gr (k:Fo B h sv tv n w ms s st v) (ho:w.ownsRow B' e sz u l xs) (hg:w.grownBy w' u.ownBlock) (he:e≠61/\e≠9/\e≠131/\e≠97/\e≠128/\e≠125):Fo B h sv tv n w' ms s st v:=by
  obtain⟨a1,a2,a3,a4,a5,a6⟩:=he;obtain⟨xs,m1,m2⟩:=k.made;obtain⟨ys,cv,lv,r⟩:=k.rcs;have g:∀ {e' sz' l':Nat} {u':Value} {zs:List Value},w.ownsRow B e' sz' u' l' zs->e'≠e->w'.ownsRow B e' sz' u' l' zs:=fun q hne=>Oh q hg (apart q ho hne);refine⟨k.hB,Bq k.blk hg (Ad ho (Ne.symm a1) k.blk),g k.txt (Ne.symm a2),⟨ys,cv,lv,g r.row (Ne.symm a4),r.fil,fun i hi=>?_,fun i hi=>?_,r.apc,r.apl⟩,⟨xs,g m1 (Ne.symm a3),m2⟩,g k.stk (Ne.symm a2),g k.ran (Ne.symm a2),g k.held (Ne.symm a2),k.txa,k.tk,k.kn,k.ne⟩
  · obtain⟨ys,a,b⟩:=r.code i hi;exact⟨ys,g a (Ne.symm a5),b⟩
  · obtain⟨ys,a,b⟩:=r.look i hi;exact⟨ys,g a (Ne.symm a6),b⟩
theorem Cz.gr {w2:World} {row:Option Nat} (h:Cz B X X' w w') (hg:w'.grownBy w2 row) (hB:B<=w.heap.size) (hr:∀ b,row=some b->w.heap.size<=b):Cz B X X' w w2:=by
  have hs:=h.bel.size;refine⟨h.bel.grown hg qb (fun b q=>by have:=hr b q;omega),fun b hb hx=>?_,h.new⟩;rw[hg.block b qb (fun q=>by have:=hr b q.symm;omega)];exact h.keep b hb hx
theorem Qbs (ls:List G3) (g:G3):Ou (ls++[g])=Ou ls++[.string g.name,.bool g.ask,.string g.sum]:=by
  induction ls with
  | nil=>rfl
  | cons a l ih=>simp[Ou,ih]
theorem Tryz.info172x:(prog.info? 172).map (fun i=>(i.zero,i.size,i.bytes))=some (some (.agg #[ze,.bool false,ze]),3,40):=qi
theorem Tryz.info169x:(prog.info? 169).map (fun i=>(i.zero,i.size,i.bytes))=some (some (.agg #[.bool false,I 0,ze]),3,32):=qi
theorem Wo {s x:Operand} {W:World} {ops:Array Oper} {o:Oper} {a:Act} {K:Act->World->Prop} {Q:Exit->Act->World->Prop} {E:Prop} (se:o.guard=none)
    (ho:o.op=.call { callee:=.builtin .append,args:=#[s,x],argTypes:=#[163,163] }) (B:Nat) (v:Value) (nn:Nat) (xs:List Value)
    (hs:a.eval s=v) (ah:W.ownsRow B 172 3 v nn xs) (d:Nat) (u0 u1 u2:Value) (hx:a.eval x=.slice (p_ d) 1 1) (hc:W.heap[d]?=some (.cells #[u0,u1,u2] 172 (0,0))) (h1:∀ u∈[u0,u1,u2],u.oneCell'=true) (hB:B<=W.heap.size) (hn:nn<=10000)
    (h:∀ g' ai w',w'.ownsRow B 172 3 (.slice (p_ g') (nn+1) ai) (nn+1) (xs++[u0,u1,u2])->W.grownBy w' v.ownBlock->K (a.put o.dst (.slice (p_ g') (nn+1) ai)) w') :
    if Region.wanted o (yielded ops a.tmps)=true then Oper.wp prog o a W K Q else E:=by
  obtain⟨i0,hi,bp,bh,bv⟩:=info_parts Tryz.info172x
  refine step_append_lies (w:=W) se s x 163 ho B 172 i0 (.agg #[ze,.bool false,ze]) 3 40 underlying163 hi bp bh bv rfl qd _ nn xs hs ah ⟨d,0,none⟩ 1 1 [u0,u1,u2] hx rfl
    (World.news_of_block (cs:=#[u0,u1,u2]) (t:=172) (fr:=(0,0)) hc) h1 qb qm qb hB W.heap.size rfl ?_
  exact qdk
theorem Wt (ho:w.ownsRow B e sz u n xs) (hY:∀ b,u.ownBlock=some b->b≠Y) (x0 x1 x2:Value):(((w.setCell ⟨Y,0,none⟩ x0).setCell ⟨Y,1,none⟩ x1).setCell ⟨Y,2,none⟩ x2).ownsRow B e sz u n xs:=Aj ho fun b q=>by
  rw[hC _ ⟨Y,2,none⟩ _ b (hY b q),hC _ ⟨Y,1,none⟩ _ b (hY b q),hC _ ⟨Y,0,none⟩ _ b (hY b q)]
theorem own_setT3 (ho:w.ownsRow B e sz u n xs) (ht:Dk w Y T) (hne:T≠e) (x0 x1 x2:Value):(((w.setCell ⟨Y,0,none⟩ x0).setCell ⟨Y,1,none⟩ x1).setCell ⟨Y,2,none⟩ x2).ownsRow B e sz u n xs:=Wt ho (fun b q k=>ht.ne ho hne (by rw[← k];exact q)) x0 x1 x2
theorem gCx_fil (ls:List G3):Bo ls ls.length (Ou ls):=fun i hi=>gC_get ls i hi
theorem run5_any (W0:World) (h:Nat) (sa ta:Option Addr) (c1 c2 n:Nat) (ss:List S2) (ts:List T2) (hE:Ir W0 sa ta ss ts) (st:List By) (hM:Nm W0 h (.slice sa ss.length c1) (.slice ta ts.length c2) n ss ts st) (h1:1<=n) (h8:n<=8)
    (ms:Mm) (s:Sb) (v:Hv) (a:Option Addr) (ac:Nat) (is:List I3) (w:World) (hb:Bw W0 w) (hs:Fo W0.heap.size h (.slice sa ss.length c1) (.slice ta ts.length c2) n w ms s st v) (hi:Fv ss ts ms st) (ft:Kl n s) (du:Lv W0.heap.size w a is) (hp:Au is=true) (hx:∀ i,(ix is i).text.size<=9223372036854775807) (Y6:ms.length+200<=400200*Dd ts ms st) (N3:Ki ts ms s st) :
    Calls prog 71 #[.pointer (p_ h),.agg #[.slice a is.length ac]] w fun e w'=>RunP5 W0.heap.size h (.slice sa ss.length c1) (.slice ta ts.length c2) n ss ts ms s st v is w e w':=by
  obtain⟨W,eW⟩:=Ai ((w.alloc (.cells #[.slice a is.length ac] 94)).alloc (.cells #[I 0,ze,nS] 105));have HW:Hd (Bw w W):=by show Below _ _ _;rw[← eW];exact(aN _ _).alloc qg _
  obtain⟨Q,eQ⟩:=Ai w.heap.size;have HP0:Hd (W.heap[Q]?=some (.cells #[.slice a is.length ac] 94 (0,0))):=qge
  have jz:Hd (W.heap[Q+1]?=some (.cells #[I 0,ze,nS] 105 (0,0))):=by
    exact qip
  obtain⟨W1,yl⟩:=Ai ((W.alloc (.cells #[] 169)).alloc (.cells #[] 172));have HW1:Hd (Bw W W1):=by show Below _ _ _;rw[← yl];exact(aN _ _).alloc qg _
  have HY0:Hd (W1.ownsRow W.heap.size 169 3 (.slice (p_ W.heap.size) 0 0) 0 (Dv [])):=by
    show World.ownsRow _ _ _ _ _ _ _;rw[← yl];exact(World.ownsRow_lit W #[] 0 (Nat.le_refl _) qm rfl).alloc _
  have HL0:Hd (W1.ownsRow W.heap.size 172 3 (.slice (p_ (W.heap.size+1)) 0 0) 0 (Ou [])):=by
    show World.ownsRow _ _ _ _ _ _ _;rw[← yl];have h:=World.ownsRow_lit (base:=W.heap.size) (e:=172) (size:=3) (W.alloc (.cells #[] 169)) #[] 0 qg qm rfl;rw[show (W.alloc (.cells #[] 169)).heap.size=W.heap.size+1 from qg] at h;exact h
  have HN:Hd (∀ b,Q<=b->¬ Bu h v b):=fun b hb=>hs.not qb;have fy:=hb.size;have J8:Hd (Cz W0.heap.size (Bu h v) (Bu h v) w W):=Cz.of_below HW.o fy;have xd:=Nat.le_trans fy HW.o.size;have HF1:Hd (Cz W0.heap.size (Bu h v) (Bu h v) W W1):=Cz.of_below HW1.o xd;have J0:=hid ((hs.bl HW.o).bl HW1.o);have G2:=hid (hb.trans (HW.o.mono fy));have HCW:=hid (du.belowB (HW.o.mono fy));have HI0:=hid hi;have ri:=hid ft;have HM:=hid hM;have HE:=hid hE;have HPH:=hid Y6;have HCN0:=hid N3;have uu:=hid hp;have HIX:=hid hx;have HRO0:Hd (Ft is [] []):=⟨hp,fun i hi=>qy,rfl⟩;have B1:=Dh hp;have hQW:=Af jz.o;obtain⟨i0,B3,bp,G5,G4⟩:=info_parts Tryz.info169x;clear hs hb hi ft hM hE Y6 du hp hx N3;go_enter func71,ntmps71;go_wp2_with fail
  try rw[eQ]
  clear eW yl
  go_loopw [6,7] (fun vy vl wr=>∃(ys:List R3) (ls:List G3) (ms':Mm) (s':Sb) (v':Hv) (ra la:Option Addr) (rc lc:Nat),ys.length<=200/\vy=.slice ra ys.length rc/\vl=.slice la ls.length lc/\Hd (Ft is ys ls)/\Hd (Lz ls)/\Hd (∀ br s2 a,Bc ss ts n ms' s' st (.run is ys ls) br s2 a->Bc ss ts n ms s st (.run is [] []) br s2 a)/\Hd (Fv ss ts ms' st)/\Hd (Kl n s')/\Hd (400200*Dd ts ms st+ms'.length<=ms.length+ys.length+400200*Dd ts ms' st)/\Hd (Ki ts ms' s' st)/\Hd (wr.ownsRow W.heap.size 169 3 (.slice ra ys.length rc) ys.length (Dv ys))/\Hd (wr.ownsRow W.heap.size 172 3 (.slice la ls.length lc) ls.length (Ou ls))/\Hd (Cz W0.heap.size (Bu h v) (Bu h v') W wr)/\Hd (Fo W0.heap.size h (.slice sa ss.length c1) (.slice ta ts.length c2) n wr ms' s' st v')) (fun vy _ _=>200-lenV vy)
  case atStart=>exact⟨[],[],ms,s,v,p_ W.heap.size,p_ (W.heap.size+1),0,0,qg,rfl,rfl,HRO0,(fun g hg=>by simp at hg:Lz []),(fun _ _ _ k=>k),HI0,ri,(by show _<=_;simp only[List.length_nil];omega:400200*Dd ts ms st+ms.length<=ms.length+([]:List R3).length+400200*Dd ts ms st),HCN0,HY0,HL0,HF1,J0⟩
  case round=>
    clear HY0 HL0 HF1 J0 HRO0 HI0 ri;obtain⟨ys,ls,ms',s',v',ra,la,rc,lc,hk,rfl,rfl,Eq,U3,jt,HI,HK,HC,we,HY,HL,fu,HS⟩:=hrel;have rm:=hid (G2.o.trans fu.o.bel);have bj:=rm.o.size;have C8:=fu.o.bel.size;have HP0r:=hid (fu.o.blk HP0.o (HN.o _ (Nat.le_refl _)));have p0:=Ho HP0r.o;have HCr:=hid (HCW.o.belowB fu.o.bel);go_wp2_with fail;clear p0;refine(Yh a ra ac rc is ys wr HCr.o.1 (rowR_of HY.o) qb HIX.o (rx_any Eq.o.ok) uu.o (reps_of (gs:=[]) Eq.o.ok hk)).mono ?_;rintro e w2 ⟨ag,rs,it,rfl⟩;replace HS:=hid (HS.o.bl ag);replace HY:=hid (Ac HY.o ag);replace HL:=hid (Ac HL.o ag);replace fu:=hid (fu.o.trans (Cz.of_below ag bj));replace rm:=hid (rm.o.trans (Below.mono ag bj));replace HCr:=hid (HCr.o.belowB (Below.mono ag bj));replace bj:=Nat.le_trans bj ag.size;replace C8:=Nat.le_trans C8 ag.size;clear ag HP0r
    cases rs with
    | over c t q=>
      obtain⟨Q7,F0,hc5⟩:=Eq.o.over it;have HOV:Hd (∀ s2,Fl n s' is ls c t s2 none->Bc ss ts n ms s st (.run is [] []) ms' s2 (.ok ⟨c,t,ls⟩)):=fun s2 k=>jt.o _ _ _ (.over it k);have HOB:Hd (∀ s2 b,Fl n s' is ls c t s2 (some b)->Bc ss ts n ms s st (.run is [] []) ms' s2 (.bad b)):=fun s2 b k=>jt.o _ _ _ (.overbad it k);have hls2:ls.length<=200:=zo Eq.o.eq;clear it;unfold resT Az;obtain⟨P,eP⟩:=Ai w2.heap.size;obtain⟨w3,e3⟩:=Ai (w2.alloc (.cells #[.bool true,I c,.string t,.bool false,ze,I q] 165));have aw:Bw w2 w3:=qdw;have HT:=hid (nW e3 eP);have HNP:Hd (¬ Bu h v' P):=HS.o.not qb;replace HS:=hid (HS.o.bl aw);replace HY:=hid (Ac HY.o aw);replace HL:=hid (Ac HL.o aw);replace fu:=hid (fu.o.trans (Cz.of_below aw bj));replace rm:=hid (rm.o.trans (Below.mono aw bj));replace HCr:=hid (HCr.o.belowB (Below.mono aw bj));replace bj:=Nat.le_trans bj aw.size;replace C8:=Nat.le_trans C8 aw.size;clear aw;have HP0r:=hid (fu.o.blk HP0.o (HN.o _ (Nat.le_refl _)));have p0:=Ho HP0r.o;obtain⟨t0,t1,t2,t3,t4,t5⟩:=Gw HT.o;go_wp2_with fail;clear e3 eP t0 t1 t2 t3 t4 t5 p0;refine(shopNote W0.heap.size h n _ _ ms' s' st v' a la ac lc is ls (Ou ls) c t w3 HS.o bj h1 h8 HK.o HCr.o uu.o HIX.o (Ah HL.o xd) (gCx_fil ls) (HS.o.notT HL.o qd qd qd qd) hls2 U3.o F0 hc5 Q7 (by have a1:=we.o;have a2:=Mf ts ms' st;have a3:=HE.o.l2;unfold Ki at a1;omega)).mono ?_;rintro e w4 (⟨s2,v2,r,V6,rfl,A6,bz,dj⟩|⟨s2,bb,nb,V6,rfl,bz,py⟩)
      · have ki:=hid (HOV.o _ V6)
        have fl:=hid (fu.o.trans bz);have cw:=hid dj;have og:=hid (fl.o.blk jz.o (HN.o _ qb));clear V6 bz dj;obtain⟨z0,z1,z2,zf⟩:=Ea og.o;go_wp2_with fail;obtain⟨y0,y1,y2,_⟩:=Ea (Bi og.o (I c) (.string t) nS);exact bR (v:=.tuple #[.agg #[I c,.string t,nS],I r]) (by simp[results,results71,go_sem,y0,y1,y2]) rfl ⟨_,_,_,ki.o,Or.inl ⟨⟨c,t,ls⟩,v2,r,rfl,rfl,A6,(J8.o.trans fl.o).set3 qb qb _ _ _,cw.o.set3 ⟨_,og.o⟩ qd _ _ _⟩⟩
      · have ki:=hid (HOB.o _ _ V6)
        have fl:=hid (fu.o.trans bz);have vj:=hid py;have og:=hid (fl.o.blk jz.o (HN.o _ qb));clear V6 bz py;exact qhs
    | wait ask nm q=>
      obtain⟨aj,cr⟩:=Eq.o.wait it;have pq:=hid cr;have HLE:=hid Eq.o.eq;have Io:ls.length<200:=zo HLE.o;have U4:Hd (ask=false->∀ br s2 a,Bc ss ts n ms' s' st (.run is (ys++[⟨Cb ss ts nm,0,⟨#[]⟩⟩]) (ls++[⟨nm,false,Co (Cb ss ts nm)⟩])) br s2 a->Bc ss ts n ms s st (.run is [] []) br s2 a):=fun q br s2 a k=>jt.o _ _ _ (.has (by rw[q] at it;exact it) k);have U7:Hd (ask=true->∀ ms1 s1 d,Bc ss ts n ms' s' st (.make nm) ms1 s1 (.ok d)->∀ br s2 a,Bc ss ts n ms1 s1 st (.run is (ys++[Vq ss ts nm d]) (ls++[⟨nm,true,Bk d.c d.t⟩])) br s2 a->Bc ss ts n ms s st (.run is [] []) br s2 a):=fun q ms1 s1 d k1 br s2 a k=>jt.o _ _ _ (.asked (by rw[q] at it;exact it) k1 k);have HABD:Hd (ask=true->∀ ms1 s1 b,Bc ss ts n ms' s' st (.make nm) ms1 s1 (.bad b)->Bc ss ts n ms s st (.run is [] []) ms1 s1 (.bad b)):=fun q ms1 s1 b k=>jt.o _ _ _ (.askbad (by rw[q] at it;exact it) k);clear it cr jt;unfold resT Az;obtain⟨P,eP⟩:=Ai w2.heap.size;obtain⟨w3,e3⟩:=Ai (w2.alloc (.cells #[.bool false,I 0,ze,.bool ask,.string nm,I q] 165));have aw:Bw w2 w3:=qdw;have HT:=hid (nW e3 eP);have HNP:Hd (¬ Bu h v' P):=HS.o.not qb;replace HS:=hid (HS.o.bl aw);replace HY:=hid (Ac HY.o aw);replace HL:=hid (Ac HL.o aw);replace fu:=hid (fu.o.trans (Cz.of_below aw bj));replace rm:=hid (rm.o.trans (Below.mono aw bj));replace HCr:=hid (HCr.o.belowB (Below.mono aw bj));replace bj:=Nat.le_trans bj aw.size;replace C8:=Nat.le_trans C8 aw.size;clear aw;obtain⟨t0,t1,t2,t3,t4,t5⟩:=Gw HT.o
      have HHA:Hd (∀ V,Bw w3 V->Calls prog 91 #[.pointer (p_ h),.string nm] V fun e w'=>Bw V w'/\e=.returned (.bool (Cb ss ts nm))):=fun V hV=>by
        exact qik
      cases ask
      · go_wp2_with fail
        clear e3 eP t0 t1 t2 t3 t4 t5;refine(HHA.o w3 (Below.refl _ _)).mono ?_;rintro e w5 ⟨cu,rfl⟩;replace HT:=hid (Ae HT.o cu);replace HS:=hid (HS.o.bl cu);replace HY:=hid (Ac HY.o cu);replace HL:=hid (Ac HL.o cu);replace fu:=hid (fu.o.trans (Cz.of_below cu bj));replace rm:=hid (rm.o.trans (Below.mono cu bj));replace HCr:=hid (HCr.o.belowB (Below.mono cu bj));replace bj:=Nat.le_trans bj cu.size;replace C8:=Nat.le_trans C8 cu.size;clear cu;obtain⟨tb,etb⟩:=Ai (Cb ss ts nm);rw[etb];rw[etb] at U4;clear etb
        go_wp2_with (first|(at_builtin;refine wpList_append_own _ rfl (.tmp 37) (.tmp 40) 162 rfl W.heap.size 169 i0 (.agg #[.bool false,I 0,ze]) 3 32 underlying162 B3 bp G5 G4 rfl qd _ _ _ rfl (HY.o.alloc _) ⟨w5.heap.size,0,none⟩ 1 1 [.bool tb,I 0,ze] rfl rfl (Om _ _ _ _ _) (by intro u hu;simp at hu;rcases hu with rfl|rfl|rfl<;>rfl) qm qb qh ?_;intro v4 w4 ou fa Z1))
        have HRN:Hd (Ft is (ys++[⟨tb,0,⟨#[]⟩⟩]) (ls++[⟨nm,false,Co tb⟩])):=Eq.o.has _ _;have HLN:Hd (Lz (ls++[⟨nm,false,Co tb⟩])):=U3.o.snoc pq.o (Hk tb);have HC7:Hd (400200*Dd ts ms st+ms'.length<=ms.length+(ys++[(⟨tb,0,⟨#[]⟩⟩:R3)]).length+400200*Dd ts ms' st):=by have:=HC.o;show _<=_;rw[List.length_append,List.length_singleton];omega
        obtain⟨g4,D2,rfl⟩:∃ g cp,v4=.slice (p_ g) (ys.length+1) cp:=by
          exact qmx
        have bu:Bw w5 (w5.alloc (.cells #[.bool tb,I 0,ze] 169)):=aN _ _;have W6:=Ac HY.o bu;(have D6:Hd (w4.ownsRow W.heap.size 169 3 (.slice (p_ g4) (ys++[(⟨tb,0,⟨#[]⟩⟩:R3)]).length D2) (ys++[(⟨tb,0,⟨#[]⟩⟩:R3)]).length (Dv (ys++[(⟨tb,0,⟨#[]⟩⟩:R3)]))):=by show World.ownsRow _ _ _ _ _ _ _;rw[List.length_append,List.length_singleton,Nw];exact ou);have ib:=hid ((HS.o.bl bu).gr W6 fa qd);have yv:=hid ((fu.o.trans (Cz.of_below bu bj)).gr fa xd (fun b q=>(W6.lt b q).1));have ve:=hid (Oh (Ac HL.o bu) fa (apart (Ac HL.o bu) W6 qd));have vz:=hid (Bq (Ae HT.o bu) fa (Ad W6 qd (Ae HT.o bu)));have ij:=Nat.le_trans xd yv.o.bel.size;have S4:=yv.o.bel.size;clear bu W6 ou fa Z1;go_wp2_with fail;refine Lt.begin 8 (fun w'=>w'.heap[P]?=some (.cells #[.bool false,I 0,ze,.bool false,.string nm,I q] 165 (0,0))) qi ?_;obtain⟨wD,eD⟩:=Ai w4.drew;rw[eD];have di:Bw w4 wD:=qaa;clear eD;replace ib:=hid (ib.o.bl di);replace D6:=hid (Ac D6.o di);replace ve:=hid (Ac ve.o di);replace vz:=hid (Ae vz.o di);replace yv:=hid (yv.o.trans (Cz.of_below di ij));replace ij:=Nat.le_trans ij di.size;replace S4:=Nat.le_trans S4 di.size;have iw:=vz.o;change K 0 _
        iterate 4
         refine Lt.ti (v:=?_) iw ?_ ?_;rotate_left 1
         · exact qmc
         simp only[gX]
        refine Lt.sp (i:=4) (fun K hK=>?_);go_simp;refine(Lc tb _).mono ?_;rintro e wF ⟨rfl,rfl⟩;refine hK.out _ _ (fun _=>iw) (fun _=>?_);clear hK K 
        try simp only[gX]
        refine Lt.ti (i:=5) (v:=?_) iw ?_ ?_;rotate_left 1
        · exact qmc
        simp only[gX];refine Lt.sp (i:=6) (fun K hK=>?_);go_simp;refine Cc (Q:=fun x=>K _ x) ?_;intro wL f9 HLT
        try dsimp only
        obtain⟨dL,edL⟩:=Ai wD.heap.size;rw[edL] at HLT ⊢;replace ib:=hid (ib.o.bl f9);replace D6:=hid (Ac D6.o f9);replace ve:=hid (Ac ve.o f9);replace vz:=hid (Ae vz.o f9);replace yv:=hid (yv.o.trans (Cz.of_below f9 ij));replace ij:=Nat.le_trans ij f9.size;replace S4:=Nat.le_trans S4 f9.size;have vu:=vz.o;refine hK.out _ _ (fun _=>vu) (fun _=>?_);clear hK K f9
        try simp only[gX]
        refine Lt.sp (i:=7) (fun K hK=>?_);refine Wo rfl qt W.heap.size _ ls.length (Ou ls) qt ve.o dL _ _ _ qt HLT.o qct S4 qb ?_;intro g' ai w7 ah ae;have In:=ve.o;have F7:=hid (ib.o.gr In ae qd);have HF7:=hid (yv.o.gr ae xd (fun b q=>(In.lt b q).1));have HY7:=hid (Oh D6.o ae (apart D6.o In qd));have HT7:=hid (Bq vz.o ae (Ad In qd vz.o));(have HL7:Hd (w7.ownsRow W.heap.size 172 3 (.slice (p_ g') (ls++[(⟨nm,false,Co tb⟩:G3)]).length ai) (ls++[(⟨nm,false,Co tb⟩:G3)]).length (Ou (ls++[(⟨nm,false,Co tb⟩:G3)]))):=by show World.ownsRow _ _ _ _ _ _ _;rw[List.length_append,List.length_singleton,Qbs];exact ah);have F4:=HT7.o;refine hK.out _ _ (fun _=>F4) (fun _=>?_);clear hK K ae ah In ib yv D6 ve vz;simp only[gX];refine Lt.sp (i:=8) (fun K hK=>?_);go_simp;refine hK.out _ _ (fun h=>absurd rfl h) (fun _=>?_);clear hK K;refine Lt.done qi ?_ _;go_wp2_with fail;go_roundw
        case rel=>exact⟨ys++[(⟨tb,0,⟨#[]⟩⟩:R3)],ls++[(⟨nm,false,Co tb⟩:G3)],ms',s',v',p_ g4,p_ g',D2,ai,qh,qdy,qdy,HRN,HLN,U4.o qae,HI,HK,HC7,we,HY7,HL7,HF7,F7⟩
        case measure=>simp[lenV];omega
      · go_wp2_with fail
        clear e3 eP t0 t1 t2 t3 t4 t5;refine(HM.o ms' s' v' nm w3 rm.o HS.o HI.o HK.o pq.o (by have:=HC.o;have:=HPH.o;omega) we.o).mono ?_;rintro e w5 ⟨br,s2,a2,bi,⟨dd,v2,rfl,rfl,bz,dj⟩|⟨bb,nb,rfl,rfl,bz,py⟩⟩;rotate_left 1
        · have ki:=hid (HABD.o qae _ _ _ bi)
          have fl:=hid (fu.o.trans bz);have vj:=hid py;have zk:=Nat.le_trans bj bz.bel.size;clear bi bz py
          go_upto_region 11 with fail
          obtain⟨w6,e6⟩:=Ai (w5.alloc (.cells #[I (Jq bb),ze,nS] 105));have ci:Bw w5 w6:=qav;rw[e6];clear e6;replace fl:=hid (fl.o.trans (Cz.of_below ci zk));replace vj:=hid (vj.o.frx ci);have og:=hid (fl.o.blk jz.o (HN.o _ qb));clear ci;obtain⟨k9,_,_⟩:=vj.o.cells;exact qhs
        obtain⟨i1,i2,i3,i4⟩:=Bc.inv HE.o.v bi HI.o HK.o pq.o (fun b q=>qw);have B8:=Bc.cost HE.o.v bi HI.o HK.o pq.o (fun b q=>qw);have HCT2:=hid (Bc.cntM HE.o.v bi HI.o HK.o pq.o (fun b q=>qw) rfl we.o);have M7:=i1.done _ _ i4;have HMD:=hid M7;have G0:=hid i1;have fs:=hid i2;have HRN0:=hid (Eq.o.asked M7 (⟨nm,true,Bk dd.c dd.t⟩:G3));have HLN0:Hd (Lz (ls++[⟨nm,true,Bk dd.c dd.t⟩])):=U3.o.snoc pq.o (Dn M7.t2);have HCON0:=hid (U7.o qae _ _ _ bi);(have HC20:Hd (400200*Dd ts ms st+br.length<=ms.length+(ys.length+1)+400200*Dd ts br st):=by have:=HC.o;show _<=_;simp only[Ol] at B8;omega);replace HY:=hid (bz.own HY.o (HS.o.notT HY.o qd qd qd qd));replace HL:=hid (bz.own HL.o (HS.o.notT HL.o qd qd qd qd));replace HT:=hid (bz.blk HT.o HNP.o);replace fu:=hid (fu.o.trans bz);replace rm:=hid (rm.o.trans bz.bel);replace HS:=hid dj;replace bj:=Nat.le_trans bj bz.bel.size;replace C8:=Nat.le_trans C8 bz.bel.size;clear bi bz dj i1 i2 i3 i4 B8 M7 HHA U7 HABD U4 Eq HC HCr
        have HHA:Hd (∀ V,Bw w5 V->Calls prog 91 #[.pointer (p_ h),.string nm] V fun e w'=>Bw V w'/\e=.returned (.bool (Cb ss ts nm))):=fun V hV=>by
          exact qik
        obtain⟨dc,edc⟩:=Ai dd.c;obtain⟨dt,edt⟩:=Ai dd.t;rw[edc,edt] at HLN0 HRN0 HCON0;rw[edc,edt];have HFO:Hd (∀ V:World,Calls prog 93 #[.agg #[I dc,.string dt,nS]] V fun e w'=>e=.returned (.string (Bk dc dt))/\Bw V w'):=fun V=>Mj dc dt V (by rw[← edc];exact HMD.o.c0) (by rw[← edc];exact HMD.o.c5) qgx;have HDE:=hid (And.intro edc edt);clear edc edt
        go_upto_region 11 with fail
        obtain⟨RR,eRR⟩:=Ai w5.heap.size;obtain⟨w6,e6⟩:=Ai (w5.alloc (.cells #[I dc,.string dt,nS] 105));have ci:Bw w5 w6:=qav;have kh:Hd (w6.heap[RR]?=some (.cells #[I dc,.string dt,nS] 105 (0,0))):=qbr;rw[e6]
        try rw[eRR]
        clear e6;replace HS:=hid (HS.o.bl ci);replace HY:=hid (Ac HY.o ci);replace HL:=hid (Ac HL.o ci);replace fu:=hid (fu.o.trans (Cz.of_below ci bj));replace rm:=hid (rm.o.trans (Below.mono ci bj));replace HT:=hid (Ae HT.o ci);replace bj:=Nat.le_trans bj ci.size;replace C8:=Nat.le_trans C8 ci.size;have HB56:=hid ci;clear ci;have k9:=cK HS.o.blk 9;obtain⟨x0,x1,x2⟩:=Bb kh.o;obtain⟨t0,t1,t2,t3,t4,t5⟩:=Gw HT.o
        go_upto_region 14 with fail
        clear k9 x0 x1 x2 t0 t1 t2 t3 t4 t5;obtain⟨Y,eY⟩:=Ai w6.heap.size;obtain⟨w7,e7⟩:=Ai (w6.alloc (.cells #[.bool true,I dc,.string dt] 169));have co:=aB e7;have HYB:=hid (nW e7 eY);rw[e7]
        try rw[eY]
        clear e7;have hYw:W.heap.size<=Y:=qb;(have HNY:Hd (∀ b,(Value.slice ra ys.length rc).ownBlock=some b->b≠Y):=fun b q k=>by have:=(HY.o.lt b q).2;omega);have hYne:Y≠P/\Y≠RR:=⟨fun q=>by have:=Af HT.o;omega,fun q=>by have:=Af kh.o;omega⟩;replace HS:=hid (HS.o.bl co);replace HY:=hid (Ac HY.o co);replace HL:=hid (Ac HL.o co);replace fu:=hid (fu.o.trans (Cz.of_below co bj));replace rm:=hid (rm.o.trans (Below.mono co bj));replace HT:=hid (Ae HT.o co);replace kh:=hid (Ae kh.o co);replace bj:=Nat.le_trans bj co.size;replace C8:=Nat.le_trans C8 co.size;have HB57:=hid (bt HB56.o co);clear co;obtain⟨t0,t1,t2,t3,t4,t5⟩:=Gw HT.o;go_wp2_with fail;clear t0 t1 t2 t3 t4 t5;refine(HHA.o w7 HB57.o).mono ?_;rintro e w8 ⟨ly,rfl⟩;replace HS:=hid (HS.o.bl ly);replace HY:=hid (Ac HY.o ly);replace HL:=hid (Ac HL.o ly);replace fu:=hid (fu.o.trans (Cz.of_below ly bj));replace rm:=hid (rm.o.trans (Below.mono ly bj));replace HT:=hid (Ae HT.o ly);replace kh:=hid (Ae kh.o ly);replace HYB:=hid (Ae HYB.o ly);replace bj:=Nat.le_trans bj ly.size;replace C8:=Nat.le_trans C8 ly.size;clear ly HB56 HB57 HHA;obtain⟨tb,etb⟩:=Ai (Cb ss ts nm);rw[etb];(have HRP:Hd (Vq ss ts nm dd=if tb=true then ⟨true,dc,dt⟩ else ⟨false,0,⟨#[]⟩⟩):=by show _=_;unfold Vq;rw[etb,HDE.o.1,HDE.o.2]);clear etb
        go_upto_if 68 with fail
        go_cut [11] (fun p wx=>∃(y:R3),p=.pointer (p_ Y)/\Hd (y=Vq ss ts nm dd)/\Hd (wx.heap[Y]?=some (.cells #[.bool y.has,I y.code,.string y.text] 169 (0,0)))/\Hd (Cz W0.heap.size (Bu h v) (Bu h v2) W wx)/\Hd (Fo W0.heap.size h (.slice sa ss.length c1) (.slice ta ts.length c2) n wx br s2 st v2)/\Hd (wx.ownsRow W.heap.size 169 3 (.slice ra ys.length rc) ys.length (Dv ys))/\Hd (wx.ownsRow W.heap.size 172 3 (.slice la ls.length lc) ls.length (Ou ls))/\Hd (wx.heap[P]?=some (.cells #[.bool false,I 0,ze,.bool true,.string nm,I q] 165 (0,0)))/\Hd (wx.heap[RR]?=some (.cells #[I dc,.string dt,nS] 105 (0,0))))
        case first=>
          obtain⟨z0,z1,z2,zf⟩:=Ea HYB.o;cases tb
          · go_wp2_with fail
            go_meet
            case rel=>exact⟨⟨false,0,⟨#[]⟩⟩,rfl,(by have:=HRP.o;show _=_;rw[this];rfl),Bi HYB.o _ _ _,fu.o.set3 hYw (Nat.le_trans xd hYw) _ _ _,HS.o.set3 ⟨_,HYB.o⟩ qd _ _ _,Wt HY.o HNY.o _ _ _,own_setT3 HL.o ⟨_,HYB.o⟩ qd _ _ _,Pw HT.o (Ne.symm hYne.1) _ _ _,Pw kh.o (Ne.symm hYne.2) _ _ _⟩
          · go_wp2_with fail
            go_meet
            case rel=>exact⟨⟨true,dc,dt⟩,rfl,(by have:=HRP.o;show _=_;rw[this];rfl),HYB,fu,HS,HY,HL,HT,kh⟩
        case rest=>
          obtain⟨y,rfl,EY,HYX,pi,n6,HYR,HLX,tj,og⟩:=hcut;have bj:=Nat.le_trans xd pi.o.bel.size;have C8:=pi.o.bel.size;(have HRN:Hd (Ft is (ys++[y]) (ls++[⟨nm,true,Bk dc dt⟩])):=by show Ft _ _ _;rw[EY.o];exact HRN0.o);have HLN:=HLN0;(have HC7:Hd (400200*Dd ts ms st+br.length<=ms.length+(ys++[y]).length+400200*Dd ts br st):=by have:=HC20.o;show _<=_;rw[List.length_append,List.length_singleton];omega);(have HCN:Hd (∀ kt s3 a,Bc ss ts n br s2 st (.run is (ys++[y]) (ls++[⟨nm,true,Bk dc dt⟩])) kt s3 a->Bc ss ts n ms s st (.run is [] []) kt s3 a):=by show ∀ kt s3 a,_;rw[EY.o];exact HCON0.o);clear HY HL HT kh HS fu HYB HRN0 HCON0 HC20 EY rm;have kh:=og;obtain⟨k0,k1,k2⟩:=Bb HYX.o;obtain⟨yh,yc,yt,ey⟩:∃ a b c,y=⟨a,b,c⟩:=⟨_,_,_,rfl⟩;subst ey;dsimp only at k0 k1 k2
          go_wp2_with (first|(at_builtin;refine wpList_append_own _ rfl (.tmp 70) (.tmp 72) 162 rfl W.heap.size 169 i0 (.agg #[.bool false,I 0,ze]) 3 32 underlying162 B3 bp G5 G4 rfl qd _ _ _ rfl (HYR.o.alloc _) ⟨wc.heap.size,0,none⟩ 1 1 [.bool yh,I yc,.string yt] rfl rfl (Om _ _ _ _ _) (by intro u hu;simp at hu;rcases hu with rfl|rfl|rfl<;>rfl) qm qb qh ?_;intro v4 w4 ou fa Z1))
          clear k0 k1 k2
          obtain⟨g4,D2,rfl⟩:∃ g cp,v4=.slice (p_ g) (ys.length+1) cp:=by
            exact qmx
          have bu:Bw wc (wc.alloc (.cells #[.bool yh,I yc,.string yt] 169)):=aN _ _;have W6:=Ac HYR.o bu;(have D6:Hd (w4.ownsRow W.heap.size 169 3 (.slice (p_ g4) (ys++[(⟨yh,yc,yt⟩:R3)]).length D2) (ys++[(⟨yh,yc,yt⟩:R3)]).length (Dv (ys++[(⟨yh,yc,yt⟩:R3)]))):=by show World.ownsRow _ _ _ _ _ _ _;rw[List.length_append,List.length_singleton,Nw];exact ou);have ib:=hid ((n6.o.bl bu).gr W6 fa qd);have yv:=hid ((pi.o.trans (Cz.of_below bu bj)).gr fa xd (fun b q=>(W6.lt b q).1));have ve:=hid (Oh (Ac HLX.o bu) fa (apart (Ac HLX.o bu) W6 qd));have vz:=hid (Bq (Ae tj.o bu) fa (Ad W6 qd (Ae tj.o bu)));have mi:=hid (Bq (Ae kh.o bu) fa (Ad W6 qd (Ae kh.o bu)));have ij:=Nat.le_trans xd yv.o.bel.size;have S4:=yv.o.bel.size;clear bu W6 ou fa Z1;go_wp2_with fail;refine Lt.begin 8 (fun w'=>w'.heap[P]?=some (.cells #[.bool false,I 0,ze,.bool true,.string nm,I q] 165 (0,0))/\w'.heap[RR]?=some (.cells #[I dc,.string dt,nS] 105 (0,0))) qi ?_;obtain⟨wD,eD⟩:=Ai w4.drew;rw[eD];have di:Bw w4 wD:=qaa;clear eD;replace ib:=hid (ib.o.bl di);replace D6:=hid (Ac D6.o di);replace ve:=hid (Ac ve.o di);replace vz:=hid (Ae vz.o di);replace yv:=hid (yv.o.trans (Cz.of_below di ij));replace mi:=hid (Ae mi.o di);replace ij:=Nat.le_trans ij di.size;replace S4:=Nat.le_trans S4 di.size;have iw:(fun w'=>w'.heap[P]?=some (.cells #[.bool false,I 0,ze,.bool true,.string nm,I q] 165 (0,0))/\w'.heap[RR]?=some (.cells #[I dc,.string dt,nS] 105 (0,0))) wD:=⟨vz.o,mi.o⟩;change K 0 _
          iterate 4
           refine Lt.ti (v:=?_) iw ?_ ?_;rotate_left 1
           · exact qkj
           simp only[gX]
          refine Lt.sp (i:=4) (fun K hK=>?_);go_simp;refine(HFO.o _).mono ?_;rintro e wF ⟨rfl,hbF⟩;replace ib:=hid (ib.o.bl hbF);replace D6:=hid (Ac D6.o hbF);replace ve:=hid (Ac ve.o hbF);replace vz:=hid (Ae vz.o hbF);replace yv:=hid (yv.o.trans (Cz.of_below hbF ij));replace mi:=hid (Ae mi.o hbF);replace ij:=Nat.le_trans ij hbF.size;replace S4:=Nat.le_trans S4 hbF.size;have vu:(fun w'=>w'.heap[P]?=some (.cells #[.bool false,I 0,ze,.bool true,.string nm,I q] 165 (0,0))/\w'.heap[RR]?=some (.cells #[I dc,.string dt,nS] 105 (0,0))) wF:=⟨vz.o,mi.o⟩;refine hK.out _ _ (fun _=>vu) (fun _=>?_);clear hK K hbF
          try simp only[gX]
          refine Lt.ti (i:=5) (v:=?_) vu ?_ ?_;rotate_left 1
          · exact qkj
          simp only[gX];refine Lt.sp (i:=6) (fun K hK=>?_);go_simp;refine Cc (Q:=fun x=>K _ x) ?_;intro wL f9 HLT
          try dsimp only
          obtain⟨dL,edL⟩:=Ai wF.heap.size;rw[edL] at HLT ⊢;replace ib:=hid (ib.o.bl f9);replace D6:=hid (Ac D6.o f9);replace ve:=hid (Ac ve.o f9);replace vz:=hid (Ae vz.o f9);replace yv:=hid (yv.o.trans (Cz.of_below f9 ij));replace mi:=hid (Ae mi.o f9);replace ij:=Nat.le_trans ij f9.size;replace S4:=Nat.le_trans S4 f9.size;have hS2:(fun w'=>w'.heap[P]?=some (.cells #[.bool false,I 0,ze,.bool true,.string nm,I q] 165 (0,0))/\w'.heap[RR]?=some (.cells #[I dc,.string dt,nS] 105 (0,0))) wL:=⟨vz.o,mi.o⟩;refine hK.out _ _ (fun _=>hS2) (fun _=>?_);clear hK K f9
          try simp only[gX]
          refine Lt.sp (i:=7) (fun K hK=>?_);refine Wo rfl qt W.heap.size _ ls.length (Ou ls) qt ve.o dL _ _ _ qt HLT.o qct S4 qb ?_;intro g' ai w7 ah ae;have In:=ve.o;have F7:=hid (ib.o.gr In ae qd);have HF7:=hid (yv.o.gr ae xd (fun b q=>(In.lt b q).1));have HY7:=hid (Oh D6.o ae (apart D6.o In qd));have HT7:=hid (Bq vz.o ae (Ad In qd vz.o));have HR7:=hid (Bq mi.o ae (Ad In qd mi.o));(have HL7:Hd (w7.ownsRow W.heap.size 172 3 (.slice (p_ g') (ls++[(⟨nm,true,Bk dc dt⟩:G3)]).length ai) (ls++[(⟨nm,true,Bk dc dt⟩:G3)]).length (Ou (ls++[(⟨nm,true,Bk dc dt⟩:G3)]))):=by show World.ownsRow _ _ _ _ _ _ _;rw[List.length_append,List.length_singleton,Qbs];exact ah);have F4:(fun w'=>w'.heap[P]?=some (.cells #[.bool false,I 0,ze,.bool true,.string nm,I q] 165 (0,0))/\w'.heap[RR]?=some (.cells #[I dc,.string dt,nS] 105 (0,0))) w7:=⟨HT7.o,HR7.o⟩;refine hK.out _ _ (fun _=>F4) (fun _=>?_);clear hK K ae ah In ib yv D6 ve vz;simp only[gX];refine Lt.sp (i:=8) (fun K hK=>?_);go_simp;refine hK.out _ _ (fun h=>absurd rfl h) (fun _=>?_);clear hK K;refine Lt.done qi ?_ _;go_wp2_with fail;go_roundw
          case rel=>exact⟨ys++[(⟨yh,yc,yt⟩:R3)],ls++[(⟨nm,true,Bk dc dt⟩:G3)],br,s2,v2,p_ g4,p_ g',D2,ai,qh,qdy,qdy,HRN,HLN,HCN,G0,fs,HC7,HCT2,HY7,HL7,HF7,F7⟩
          case measure=>simp[lenV];omega
theorem fd_at {nm:By}:∀ {ms:Mm} {i:Nat},i<ms.length->(mm ms i).1=nm->(∀ j,j<i->(mm ms j).1≠nm)->fd ms nm=some (mm ms i).2
  | [],i,hi,_,_=>qy
  | e :: l,0,hi,h,hj=>by
    have h':e.1=nm:=h;unfold fd;rw[List.find?_cons_of_pos (by simp[h'])];rfl
  | e :: l,i+1,hi,h,hj=>by
    have h0:e.1≠nm:=hj 0 qb;have hr:=fd_at (ms:=l) (i:=i) (by simpa using hi) h (fun j q=>hj (j+1) qb);unfold fd at hr ⊢;rw[List.find?_cons_of_neg (by simp[h0])];exact hr
theorem fd_no {nm:By}:∀ {ms:Mm},(∀ j,j<ms.length->(mm ms j).1≠nm)->fd ms nm=none
  | [],_=>rfl
  | e :: l,hj=>by
    have h0:e.1≠nm:=hj 0 qg;have hr:=fd_no (ms:=l) (fun j q=>hj (j+1) (by simpa using q));unfold fd at hr ⊢;rw[List.find?_cons_of_neg (by simp[h0])];exact hr
theorem Yd {i:Nat} (h:i<st.length):(Ax st)[i]?=some (.string (nx st i)):=by
  unfold Ax nx;rw[List.getElem?_map,gG,Iu h];rfl
theorem own_pop (h:w.ownsRow B 9 1 (.slice a (st.length+1) cap) (st.length+1) (Ax (st++[nm]))):w.ownsRow B 9 1 (.slice a st.length cap) st.length (Ax st):=by
  refine⟨qai,?_⟩
  rcases h.2 with ⟨e,h0⟩|⟨g,c,cur,e,hg,hh,h1,h2,h3,h4⟩
  · omega
  · cases e
    refine Or.inr ⟨g,cap,cur,rfl,hg,hh,qb,h2,h3,?_⟩;(have:(cur.toList.take ((st.length+1)*1)).take (st.length*1)=(Ax (st++[nm])).take (st.length*1):=by rw[h4]);rw[List.take_take,Nat.min_eq_left qb] at this;rw[this];simp[Ax]
theorem Fo.pop (k:Fo B h sv tv n w ms s (st++[nm]) v) (fy:B<=w.heap.size) (e:v.kv=.slice a (st.length+1) cap):Fo B h sv tv n (w.setCell ⟨h,6,none⟩ (.slice a st.length cap)) ms s st ⟨v.tx,v.qv,v.mv,.slice a st.length cap,v.nv,v.ev⟩/\Cz B (Bu h v) (Bu h ⟨v.tx,v.qv,v.mv,.slice a st.length cap,v.nv,v.ev⟩) w (w.setCell ⟨h,6,none⟩ (.slice a st.length cap)):=by
  have h0:=k.stk;rw[e] at h0;have h1:w.ownsRow B 9 1 (.slice a (st.length+1) cap) (st.length+1) (Ax (st++[nm])):=by have:=h0;rwa [List.length_append,List.length_singleton] at this
  exact k.growK fy (own_pop h1) ⟨rfl,rfl,rfl,Nat.le_refl _,fun _ _ _=>rfl⟩ (fun b q=>Or.inl (by rw[e];cases a<;>exact q))
theorem Fm.less (k:Fm B h (st++[nm]).length nv w b):Fm B h st.length nv w b:=by
  obtain⟨pre,e,hl,hk,he,d1,⟨xs,d2,d4⟩,d3⟩:=k;rw[List.length_append,List.length_singleton] at d4;exact⟨pre,e,hl,hk,he,d1,⟨xs,d2,qb⟩,d3⟩
theorem Fm.grow {nw:Value} {xs:List By} (hh:B<=h) (k:Fm B h (m+1) nv w b) (fy:B<=w.heap.size) (hx:w.ownsRow B 9 1 nv xs.length (Ax xs)) (tz:xs.length+(m+1)<=1000) (ho:w'.ownsRow B 9 1 nw (xs.length+1) (Ax xs++[.string nm])) (hg:w.grownBy w' nv.ownBlock) (si:nw.ownBlock=nv.ownBlock\/nw.ownBlock=some w.heap.size):Fm B h m nw (w'.setCell ⟨h,7,none⟩ nw) b/\Cz B (Yr h nv) (Yr h nw) w (w'.setCell ⟨h,7,none⟩ nw):=by
  obtain⟨pre,e,hl,hk,he,d1,_,d3⟩:=k;have hne:nv.ownBlock≠some h:=Ad hx qd hk;have hb:=Bq hk hg hne
  have ct:∀ b,nw.ownBlock=some b->nv.ownBlock=some b\/w.heap.size<=b:=fun b q=>by
    rcases si with r|r
    · left;rw[← r];exact q
    · right;rw[r] at q;cases q;exact Nat.le_refl _
  have ip:=Ei hb 7 nw
  have hlist:((pre++[Value.bool true]++e).toArray).setIfInBounds 7 nw=(pre.set 7 nw++[Value.bool true]++e).toArray:=by
    rw[List.setIfInBounds_toArray,List.set_append_left _ _ qgs,List.set_append_left _ _ qb]
  rw[hlist] at ip;refine⟨⟨pre.set 7 nw,e,by rw[List.length_set];exact hl,ip,?_,by rw[List.getElem?_set_self qb],⟨xs++[nm],?_,qaw⟩,fun u b' q1 q2 q3=>?_⟩,?_⟩
  · cases b with
    | circle ch=>
      obtain⟨cv,c1,c2⟩:=he;refine⟨cv,Al (Oh c1 hg (fun b q1 q2=>d3 cv b (by rw[c2];rfl) q1 q2)) ⟨_,hb⟩ qd _,c2⟩
    | deep nm=>exact he
    | clash A B=>exact he
    | full=>exact he
  · have:Ax (xs++[nm])=Ax xs++[.string nm]:=qai
    rw[this,List.length_append,List.length_singleton];exact Al ho ⟨_,hb⟩ qd _
  · rcases ct b' q3 with r|r
    · exact d3 u b' q1 q2 r
    · cases b with
      | circle ch=>obtain⟨cv,c1,c2⟩:=he;rw[c2] at q1;cases q1;have:=(c1.lt b' q2).2;omega
      | deep nm=>rw[show e=_ from he] at q1;cases q1;cases q2
      | clash A B=>rw[show e=_ from he] at q1;cases q1;cases q2
      | full=>rw[show e=_ from he] at q1;cases q1;cases q2
  · refine⟨((Below.refl B w).grown hg fy (fun j q=>(hx.lt j q).1)).setCell (p:=⟨h,7,none⟩) hh _,fun b bi hx'=>?_,fun b q=>?_⟩
    · rw[hC w' ⟨h,7,none⟩ _ b (fun e=>hx' (Or.inl e)),hg.block b bi (fun q=>hx' (Or.inr q.symm))]
    · rcases q with q|q
      · exact Or.inl (Or.inl q)
      · rcases ct b q with r|r
        · exact Or.inl (Or.inr r)
        · exact Or.inr r
theorem equal_any (a a':Option Addr) (ic jc:Nat) (is js:List I3) (w:World) (hc:Cj w a is) (oe:Cj w a' js) (hl:is.length ≤ 1048576) (Is:js.length ≤ 1048576) :
    Calls prog 144 #[.slice a is.length ic,.slice a' js.length jc] w fun e w'=>Bw w w'∧∃ b,e=.returned (.bool b)∧(b=true↔is=js):=by
  by_cases hn:is.length=js.length
  · obtain⟨n,zt⟩:∃ n,Hd (is.length=n):=⟨_,rfl⟩
    have HLB:=hid (hn.symm.trans zt.o);rw[zt.o] at hl ⊢;rw[HLB.o] at Is ⊢;clear hn;have Z0:((n:Int) != (n:Int))=false:=qg;go_enter func144,ntmps144;go_wp2
    go_loopw [13] (fun i wr=>∃ k:Nat,k ≤ n∧i=I k∧Hd (∀ j,j<k→ix is j=ix js j)∧Bw w wr) (fun i _=>n-(intOf i).toNat)
    case atStart=>exact⟨0,Nat.zero_le _,rfl,(fun j hj=>qb),Below.refl _ _⟩
    case round=>
      obtain⟨k,hk,rfl,HN,hB⟩:=hrel
      by_cases aj:k<n
      · obtain⟨b,off,rfl,e1,e2,e3⟩:=(hc.bl (hB.drew)) k (zo zt.o)
        obtain⟨b',bq,rfl,f1,f2,f3⟩:=(oe.bl (hB.drew)) k (zo HLB.o);have je:(k:Int)<(n:Int):=qb;have jm:(0:Int) ≤ (k:Int):=qb;have n8:Hd (ix is k≠ix js k→(false=true↔is=js)):=fun hne=>⟨fun h=>(by cases h),fun e=>absurd (by rw[e]) hne⟩
        have E4:Hd (ix is k=ix js k→∀ j,j<k+1→ix is j=ix js j):=fun he j hj=>by
          exact qmi
        generalize ix is k=x at *;generalize ix js k=y at *;obtain⟨x0,x1,x2⟩:=x;obtain⟨y0,y1,y2⟩:=y;dsimp only at e1 e2 e3 f1 f2 f3
        by_cases h0:x0=y0
        · subst h0
          by_cases h1:x1=y1
          · subst h1
            by_cases h2:x2=y2
            · subst h2
              have X1:=hid (E4.o rfl);clear E4 n8 HN;go_wp2_with fail;go_region
              all_goals
                go_wp2;exact⟨⟨k+1,qb,qj,X1.o,hB.drew⟩,qar⟩
            · have hq:=h2
              have dd:=hq;have U1:=hid (n8.o (fun e=>hq qan));clear E4 n8 HN hq h2;exact qff
          · have hq:=h1
            have dd:¬ (x1.toList=y1.toList):=fun e=>hq (Tj e);have U1:=hid (n8.o (fun e=>hq qan));clear E4 n8 HN hq h1;exact qff
        · have hq:=h0
          have dd:=hq;have U1:=hid (n8.o (fun e=>hq qan));clear E4 n8 HN hq h0;exact qff
      · exact qis
  · have Z0:((is.length:Int) != (js.length:Int))=true:=qh
    have hni:¬ ((is.length:Int)=(js.length:Int)):=qb;have U1:Hd (false=true↔is=js):=⟨fun h=>(by cases h),fun e=>absurd (by rw[e]) hn⟩;go_enter func144,ntmps144;go_wp2;go_ret;exact⟨Below.refl _ _,false,rfl,U1.o⟩
def Fre (h mb:Nat) (C:Ep) (av kv:Value) (r:Rv) (b:Nat):Prop:=b≠h/\b≠mb/\av.ownBlock≠some b/\kv.ownBlock≠some b/\¬ Kf C r b
def TyK (T:TypeId):Prop:=T≠185/\T≠146/\T≠149/\T≠9/\T≠97/\T≠4
instance (T:TypeId):Decidable (TyK T):=by unfold TyK;infer_instance
section
variable {B h mb k:Nat} {C:Ep} {sv tv:Value} {ss:List S2} {ts:List T2} {w w':World} {ms:Mm} {mk st:List By} {al:Nat} {av kv av' kv':Value} {vs:By->Value} {s s':Sb} {r r':Rv}
theorem BS.fresh (q:BS B h mb k C sv tv ss ts w ms mk st al av kv vs s r) {b:Nat} (hb:w.heap.size<=b):Fre h mb C av kv r b:=
  ⟨fun e=>by have:=q.mkr.lt (Or.inl e);omega,fun e=>by have:=q.mkr.lt (Or.inr (Or.inl e));omega,fun e=>by have:=q.mkr.lt (Or.inr (Or.inr (Or.inl e)));omega,fun e=>by have:=q.mkr.lt (Or.inr (Or.inr (Or.inr e)));omega,fun e=>by have:=(q.rs.lt e).2;omega⟩
theorem BS.freK (q:BS B h mb k C sv tv ss ts w ms mk st al av kv vs s r) {b:Nat} {T:TypeId} {cs:Array Value} (hb:w.heap[b]?=some (.cells cs T (0,0))) (hT:TyK T):Fre h mb C av kv r b:=
  ⟨fun e=>q.mkr.far hb hT.1 hT.2.2.2.1 (Or.inl e) rfl,fun e=>q.mkr.far hb hT.1 hT.2.2.2.1 (Or.inr (Or.inl e)) rfl,fun e=>q.mkr.far hb hT.1 hT.2.2.2.1 (Or.inr (Or.inr (Or.inl e))) rfl,fun e=>q.mkr.far hb hT.1 hT.2.2.2.1 (Or.inr (Or.inr (Or.inr e))) rfl,q.rs.far hb hT.2⟩
theorem KQ.fre (K:KQ B h mb C av kv r r' w w') (ha:Ak w av av') (hk:Ak w kv kv') {b:Nat} (hb:b<w.heap.size) (f:Fre h mb C av kv r b):Fre h mb C av' kv' r' b:=
  ⟨f.1,f.2.1,fun e=>by rcases ha b e with q|q;exact f.2.2.1 q;omega,fun e=>by rcases hk b e with q|q;exact f.2.2.2.1 q;omega,fun e=>by rcases K.new b e with q|q;exact f.2.2.2.2 q;omega⟩
theorem KQ.keepF (K:KQ B h mb C av kv r r' w w') {b:Nat} {o:Obj} (hb:w.heap[b]?=some o) (f:Fre h mb C av kv r b):w'.heap[b]?=some o:=by rw[K.keep b (Af hb) f.1 f.2.1 f.2.2.1 f.2.2.2.1 f.2.2.2.2];exact hb
theorem KQ.blkK (K:KQ B h mb C av kv r r' w w') (q:BS B h mb k C sv tv ss ts w ms mk st al av kv vs s r) {b:Nat} {T:TypeId} {cs:Array Value} (hb:w.heap[b]?=some (.cells cs T (0,0))) (hT:TyK T):w'.heap[b]?=some (.cells cs T (0,0)):=K.keepF hb (q.freK hb hT)
theorem KQ.ownK (K:KQ B h mb C av kv r r' w w') (q:BS B h mb k C sv tv ss ts w ms mk st al av kv vs s r) {B' e sz n:Nat} {u:Value} {xs:List Value} (ho:w.ownsRow B' e sz u n xs) (hT:TyK e):w'.ownsRow B' e sz u n xs:=Aj ho fun b o=>by
  obtain⟨cs,c1⟩:=Ba ho b o;rw[c1];exact K.blkK q c1 hT
theorem Qaw {w:World} {B n g cap i:Nat} {xs:List Bool} (h:w.ownsRow B 4 1 (.slice (p_ g) n cap) n (xs.map Value.bool)) (hi:i<n) (v:Bool):(w.setCell ⟨g,i,none⟩ (.bool v)).ownsRow B 4 1 (.slice (p_ g) n cap) n ((xs.set i v).map Value.bool):=by
  rcases h.2 with ⟨e,_⟩|⟨g',c',cur,e,hB,hh,h1,h2,h3,h4⟩
  · simp at e
  · simp only[Value.slice.injEq,Option.some.injEq,Addr.mk.injEq,and_true,true_and] at e
    obtain⟨rfl,rfl⟩:=e;have hl:=h.1;rw[List.length_map] at hl;refine⟨by rw[List.length_map,List.length_set];exact hl,Or.inr ⟨g,cap,cur.setIfInBounds i (.bool v),rfl,hB,jB hh _,h1,h2,by rw[Array.size_setIfInBounds];exact h3,?_⟩⟩;rw[Array.toList_setIfInBounds,List.map_set,← h4,List.take_set]
theorem BS.setDf (q:BS B h mb k C sv tv ss ts w ms mk st al av kv vs s r) {g n cap i:Nat} (hd:r.dv=.slice (p_ g) n cap) (hi:i<s.R.length) (hn:NoH ss ts C.n ms (qx s.R i).looks) :
    BS B h mb k C sv tv ss ts (w.setCell ⟨g,i,none⟩ (.bool true)) ms mk st al av kv vs s r/\KQ B h mb C av kv r r w (w.setCell ⟨g,i,none⟩ (.bool true)):=by
  obtain⟨f,f1,f2⟩:=q.rs.sn;obtain⟨xs,u1⟩:=q.rs.us;obtain⟨ys,d1,d2⟩:=q.rs.df;have hob:r.dv.ownBlock=some g:=by rw[hd];rfl
  obtain⟨wz,cs,hg⟩:=Dr d1 hob;have ht:Dk w g 4:=⟨_,hg⟩;have hne:∀ b,b≠g->(w.setCell ⟨g,i,none⟩ (.bool true)).heap[b]?=w.heap[b]?:=fun b e=>hC w ⟨g,i,none⟩ _ b e
  have xz:n=s.R.length:=by
    have:=d1.2;exact qmw
  subst xz;rw[hd] at d1;have hd':=Qaw d1 hi true;rw[← hd] at hd';refine q.upd ((Below.refl B w).setCell (p:=⟨g,i,none⟩) wz _) (fun b hb ho=>hne b (fun e=>ho (e▸An C (u:=r.dv) qq hob))) ?_ (fun b o=>Or.inl o) (Ky.same fun b o=>hne b (fun e=>?_)) (Nat.le_refl _)
  · refine⟨q.rs.lb,q.rs.wd,?_,?_,⟨f,f1.same (hne _ (fun e=>f1.notCells (e▸hg))),f2⟩,Al q.rs.tx ht qd _,Al q.rs.su ht qd _,q.rs.qs.kept (fun b o=>hne b (fun e=>?_)) (fun b cs' T hT hb=>?_),Al q.rs.ran ht qd _,Al q.rs.held ht qd _,⟨xs,Aj u1 (fun b o=>hne b (fun e=>q.rs.ud b o (e▸hob)))⟩,⟨ys.set i true,hd',fun j hj=>?_⟩,q.rs.ud,q.rs.ap⟩
    · exact qkf
    · exact qke
    · exact qde
    · exact qjq
    · rw[List.getElem?_set] at hj
      split at hj
      · rename_i e;subst e;exact hn
      · exact d2 j hj
  · exact qde
theorem BS.setUs (q:BS B h mb k C sv tv ss ts w ms mk st al av kv vs s r) {g n cap i:Nat} (hd:r.uv=.slice (p_ g) n cap) (hi:i<s.R.length) :
    BS B h mb k C sv tv ss ts (w.setCell ⟨g,i,none⟩ (.bool true)) ms mk st al av kv vs s r/\KQ B h mb C av kv r r w (w.setCell ⟨g,i,none⟩ (.bool true)):=by
  obtain⟨f,f1,f2⟩:=q.rs.sn;obtain⟨xs,u1⟩:=q.rs.us;obtain⟨ys,d1,d2⟩:=q.rs.df;have hob:r.uv.ownBlock=some g:=by rw[hd];rfl
  obtain⟨wz,cs,hg⟩:=Dr u1 hob;have ht:Dk w g 4:=⟨_,hg⟩;have hne:∀ b,b≠g->(w.setCell ⟨g,i,none⟩ (.bool true)).heap[b]?=w.heap[b]?:=fun b e=>hC w ⟨g,i,none⟩ _ b e
  have xz:n=s.R.length:=by
    have:=u1.2;exact qmw
  subst xz;rw[hd] at u1;have hd':=Qaw u1 hi true;rw[← hd] at hd';refine q.upd ((Below.refl B w).setCell (p:=⟨g,i,none⟩) wz _) (fun b hb ho=>hne b (fun e=>ho (e▸An C (u:=r.uv) qq hob))) ?_ (fun b o=>Or.inl o) (Ky.same fun b o=>hne b (fun e=>?_)) (Nat.le_refl _)
  · refine⟨q.rs.lb,q.rs.wd,?_,?_,⟨f,f1.same (hne _ (fun e=>f1.notCells (e▸hg))),f2⟩,Al q.rs.tx ht qd _,Al q.rs.su ht qd _,q.rs.qs.kept (fun b o=>hne b (fun e=>?_)) (fun b cs' T hT hb=>?_),Al q.rs.ran ht qd _,Al q.rs.held ht qd _,⟨xs.set i true,hd'⟩,⟨ys,Aj d1 (fun b o=>hne b (fun e=>q.rs.ud b (e▸hob) o)),d2⟩,q.rs.ud,q.rs.ap⟩
    · exact qkf
    · exact qke
    · exact qde
    · exact qjq
  · exact qde
end
end Go.Proofs.YtfgoholldpeabaaGreatDoor
