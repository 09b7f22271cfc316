import Derived.Test.YtfgoholldpeabaaGreatDoorVsC
namespace Go.Proofs.YtfgoholldpeabaaGreatDoor
set_option maxHeartbeats 4000000
set_option maxRecDepth 100000
open _root_.Go.Proofs.Tryz Go.RowKit Go.Deep
set_option linter.unusedVariables false
set_option linter.unusedSimpArgs false
variable {k P:Nat} {ys xs:List Value} {w W w':World} {s1 v:Value}
def Kw (n:Nat) (s:G3):G3:=⟨s.name,s.ask,Ap n s.sum⟩
theorem gx_map (n:Nat) (ls:List G3) (k:Nat) (h:k<ls.length):gx (ls.map (Kw n)) k=Kw n (gx ls k):=by
  unfold gx;exact qln
def RecOwn (B:Nat) (w:World) (v1 v2:Value) (is:List I3) (gs:List G3):Prop:=
  ∃ xs ys,w.ownsRow B 128 3 v1 is.length xs∧Cl is is.length xs∧w.ownsRow B 125 3 v2 gs.length ys∧Bo gs gs.length ys
theorem Qbw {gs:List G3} (h:Bo gs k ys) (hl:ys.length=k*3):Bo gs (k+1) (ys++[.string (gx gs k).name,.bool (gx gs k).ask,.string (gx gs k).sum]):=by
  intro i hi
  rcases Nat.lt_or_ge i k with hk|hk
  · obtain⟨h1,h2,h3⟩:=h i hk
    rw[List.getElem?_append_left qb,List.getElem?_append_left qb,List.getElem?_append_left qb];exact⟨h1,h2,h3⟩
  · obtain rfl:i=k:=qb
    rw[List.getElem?_append_right qb,List.getElem?_append_right qb,List.getElem?_append_right qb,hl,Nat.sub_self,show i*3+1-i*3=1 from qb,show i*3+2-i*3=2 from qb];exact⟨rfl,rfl,rfl⟩
theorem Tryz.info131b:(prog.info? 125).map (fun i=>(i.zero,i.size,i.bytes))=some (some (.agg #[ze,.bool false,ze]),3,40):=qi
theorem Fi {b:Nat} {o:Obj} (h:w.heap[b]?=some o):b<w.heap.size:=by
  rcases Nat.lt_or_ge b w.heap.size with h'|h'
  · exact h'
  · rw[Array.getElem?_eq_none h'] at h;cases h
theorem Ni (w:World) (o:Obj):(w.alloc o).heap[w.heap.size]?=some o:=qei
theorem Wp {s x:Operand} {ops:Array Oper} {o:Oper} {a:Act} {K:Act→World→Prop} {Q:Exit→Act→World→Prop} {E:Prop} (se:o.guard=none)
    (ho:o.op=.call { callee:=.builtin .append,args:=#[s,x],argTypes:=#[95,95] }) (B:Nat) (v:Value) (nn:Nat) (xs:List Value)
    (hs:a.eval s=v) (ah:W.ownsRow B 125 3 v nn xs) (d:Nat) (t:By) (q:Bool) (u:By) (hx:a.eval x=.slice (p_ d) 1 1) (hc:W.heap[d]?=some (.cells #[.string t,.bool q,.string u] 125 (0,0))) (hB:B ≤ W.heap.size) (hn:nn ≤ 200)
    (h:∀ g' ai w',w'.ownsRow B 125 3 (.slice (p_ g') (nn+1) ai) (nn+1) (xs++[.string t,.bool q,.string u])→W.grownBy w' v.ownBlock→K (a.put o.dst (.slice (p_ g') (nn+1) ai)) w') :
    if Region.wanted o (yielded ops a.tmps)=true then Oper.wp prog o a W K Q else E:=by
  obtain⟨i0,hi,bp,bh,bv⟩:=info_parts Tryz.info131b
  refine step_append_lies (w:=W) se s x 95 ho B 125 i0 (.agg #[ze,.bool false,ze]) 3 40 underlying95 hi bp bh bv rfl qd _ nn xs hs ah ⟨d,0,none⟩ 1 1 [.string t,.bool q,.string u] hx rfl
    (World.news_of_block (cs:=#[.string t,.bool q,.string u]) (t:=125) (fr:=(0,0)) hc) (by intro u hu;simp at hu;rcases hu with rfl|rfl|rfl<;>rfl) qb qm qb hB W.heap.size rfl ?_
  exact qdk
structure NS (w:World) (P:Nat) (s1 v:Value) (sm:By) (k:Nat) (gs:List G3):Prop where
  blk:w.heap[P]?=some (.cells #[s1,v,.string sm] 97 (0,0))
  own:∃ ys,w.ownsRow (P+1) 125 3 v k ys∧Bo gs k ys
theorem NS.cell {sm:By} {gs:List G3} (h:NS w P s1 v sm k gs):w.cell? ⟨P,0,none⟩=some s1∧w.cell? ⟨P,1,none⟩=some v∧w.cell? ⟨P,2,none⟩=some (.string sm):=
  ⟨qco,qco,qco⟩
theorem NS.bl {sm:By} {gs:List G3} (h:NS w P s1 v sm k gs) (hb:Bw w w'):NS w' P s1 v sm k gs:=by
  obtain⟨ys,h1,h2⟩:=h.own;exact⟨by rw[hb.block P (Fi h.blk)];exact h.blk,ys,Ac h1 hb,h2⟩
theorem NS.put {nv:Value} {sm:By} {gs:List G3} {zs:List Value} (hb:W.heap[P]?=some (.cells #[s1,v,.string sm] 97 (0,0))) (ho:W.ownsRow (P+1) 125 3 v k xs) (hg:W.grownBy w' v.ownBlock) (hn:w'.ownsRow (P+1) 125 3 nv (k+1) zs) (hf:Bo gs (k+1) zs):NS (w'.setCell ⟨P,1,none⟩ nv) P s1 nv sm (k+1) gs:=by
  have hbk:w'.heap[P]?=some (.cells #[s1,v,.string sm] 97 (0,0)):=by
    rw[hg.block P (Fi hb) (fun e=>by have:=(ho.lt P e.symm).1;omega)];exact hb
  refine⟨?_,zs,?_,hf⟩
  · rw[jB hbk];rfl
  · refine⟨hn.1,?_⟩
    rcases hn.2 with h2|⟨g,cap,cur,hv,I1,hh,r⟩
    · exact Or.inl h2
    · refine Or.inr ⟨g,cap,cur,hv,I1,?_,r⟩
      rw[hC w' ⟨P,1,none⟩ nv g (by intro e;simp at e;omega)];exact hh
theorem Mv {p:Addr} {o:Obj} (h:w.cell? p=some v):(w.alloc o).cell? p=some v:=qfx
theorem Jd {B e sz n:Nat} (h:w.ownsRow B e sz v n xs) {r j:Nat} (hr:∀ b,v.ownBlock=some b→b≠r) (u:Value):(w.setCell ⟨r,j,none⟩ u).ownsRow B e sz v n xs:=
  own_keep (ob:=some r) h (fun b _ hne=>hC w ⟨r,j,none⟩ u b (fun e=>hne (by rw[e]))) (fun b hb e=>hr b hb (Option.some.inj e))
theorem NS.add {w6 w7:World} {g' ai:Nat} {sm:By} {gs:List G3} {o:Obj} {t u:By} {q:Bool} (h:NS W P s1 v sm k gs) (hy:W.ownsRow (P+1) 125 3 v k ys) (hf:Bo gs k ys) (hb:Bw W w6) (hg:(w6.alloc o).grownBy w7 v.ownBlock) (hn:w7.ownsRow (P+1) 125 3 (.slice (p_ g') (k+1) ai) (k+1) (ys++[.string t,.bool q,.string u])) (hG:gx gs k=⟨t,q,u⟩) :
    NS (w7.setCell ⟨P,1,none⟩ (.slice (p_ g') (k+1) ai)) P s1 (.slice (p_ g') (k+1) ai) sm (k+1) gs:=by
  have h6:=h.bl hb;have uh:=Qbw hf hy.1;rw[hG] at uh;exact NS.put (by rw[Lib.alloc_old _ _ _ (Fi h6.blk)];exact h6.blk) ((Ac hy hb).alloc _) hg hn uh
theorem Vv (a la ca:Option Addr) (ac lc cc:Nat) (is:List I3) (ls:List G3) (c:Int) (t:By) (nc:Nat) (n:Nat) (out:By) (w:World) (hT:Lr w) (hr:Cj w a is) (hlr:Hr w la ls) (hl:is.length ≤ 1048576) (hx:∀ i,(ix is i).text.size ≤ 9223372036854775807) (hls:ls.length ≤ 200)
    (HF:Hd (∀(a:Option Addr) (cap:Nat) (w:World),Calls prog 151 #[.agg #[I c,.string t,.slice a nc cap]] w fun e w'=>e=.returned (.string out)∧Bw w w'))
    (hp:Au is=true) (h1:1 ≤ n) (h2:n ≤ 8) (ho:out≠⟨#[]⟩) (hos:out.size ≤ 2002) (M3:∀ i,i<ls.length→(gx ls i).sum.size ≤ 1048576) (cr:∀ i,(gx ls i).name.size ≤ 9223372036854775807) :
    Calls prog 152 #[.agg #[.slice a is.length ac],.slice la ls.length lc,.agg #[I c,.string t,.slice ca nc cc],I n] w fun e w'=>Bw w w'∧(((∀ i,i<ls.length→Am (gx ls i).name)∧∃ v1 v2,e=.returned (.agg #[v1,v2,.string (Ap n out)])∧RecOwn w.heap.size w' v1 v2 is (ls.map (Kw n)))∨((∃ i,i<ls.length∧¬ Am (gx ls i).name)∧e=.returned (.agg #[nS,nS,ze]))):=by
  have B1:1 ≤ is.length:=by
    exact qnb
  have hoe:out.toList.isEmpty=false:=by
    exact qkr
  have ak:Bw w (((w.alloc (.cells #[.slice a is.length ac] 94)).alloc (.cells #[I c,.string t,.slice ca nc cc] 105)).alloc (.cells #[nS,nS,ze] 97)):=((aN _ _).alloc qg _).alloc qh _;go_enter func152,ntmps152;go_wp2_with fail;refine(HF.o _ _ _).mono ?_;rintro e w1 ⟨rfl,af⟩;have bg:=bt ak af;have p0:w1.cell? ⟨w.heap.size,0,none⟩=some (.slice a is.length ac):=Aa af qk
  have kb:w1.heap[w.heap.size+1+1]?=some (.cells #[nS,nS,ze] 97 (0,0)):=by
    exact qhz
  clear ak af;go_wp2_with fail;refine(Kg a ac is _ (hT.bl bg) (hr.bl bg) hl hx).mono ?_;rintro e w2 ⟨ag,rfl⟩;have be:=bt bg ag;have q0:=Aa ag p0;have kb2:w2.heap[w.heap.size+1+1]?=some (.cells #[nS,nS,ze] 97 (0,0)):=by rw[ag.block _ (Fi kb)];exact kb
  have eg:=Fi kb2;rw[hp];clear bg p0 kb ag
  go_wp2_with (first|(go_at_call 119;refine(Je n _ qb qb).mono ?_;rintro e w9 ⟨rfl,rfl⟩))
  refine(Sx a ac is _ (hr.bl be) B1 hl).mono ?_;rintro e w3 ⟨aw,g,cp,rfl,ah⟩;have gy:=bt be aw;have kb3:w3.heap[w.heap.size+1+1]?=some (.cells #[nS,nS,ze] 97 (0,0)):=by rw[aw.block _ (Fi kb2)];exact kb2
  have J5:=hid ah;clear be q0 kb2 aw ah;go_wp2_with fail;refine(Ie out n _ qb h1 h2).mono ?_;rintro e w4 ⟨rfl,cj⟩;have ij:=bt gy cj;have kb4:w4.heap[w.heap.size+1+1]?=some (.cells #[nS,nS,ze] 97 (0,0)):=by rw[cj.block _ (Fi kb3)];exact kb3
  have uw:=hid (Ac J5.o cj);clear gy kb3 cj J5;obtain⟨sm,esm⟩:=Ai (Ap n out);have ESM:=hid esm;rw[show (⟨(Hm (Cx out.data.toList) n).toArray⟩:By)=sm from esm];clear esm;obtain⟨P,eP⟩:=Ai w4.heap.size;obtain⟨w5,W9⟩:=Ai (w4.alloc (.cells #[.slice (p_ g) is.length cp,nS,.string sm] 97));have hw5:w5.heap.size=P+1:=by rw[← W9,← eP];simp
  have E4:Hd (NS w5 P (.slice (p_ g) is.length cp) nS sm 0 (ls.map (Kw n))):=by
    exact qmd
  have zk:Bw w w5:=by rw[← W9];exact ij.alloc ij.size _
  have hwP:w.heap.size+1+1<P:=by rw[← eP];exact Fi kb4
  have KB5:Hd (w5.heap[w.heap.size+1+1]?=some (.cells #[nS,nS,ze] 97 (0,0))):=by show _=_;rw[← W9,Lib.alloc_old _ _ _ qb];exact kb4
  have On:Hd (w5.ownsRow w.heap.size 128 3 (.slice (p_ g) is.length cp) is.length (El is)):=by show World.ownsRow _ _ _ _ _ _ _;rw[← W9];exact Ah (uw.o.alloc _) qb
  have hgR:w.heap.size+1+1<g:=zo ((uw.o.lt g rfl).1);have hgP:g<P:=by rw[← eP];exact(uw.o.lt g rfl).2
  go_wp2;clear W9 eP ij kb4 uw;have zn:=hid hw5;clear hw5
  go_loopw [41] (fun i wr=>∃(k:Nat) (v:Value),k ≤ ls.length∧i=I k∧Hd (NS wr P (.slice (p_ g) is.length cp) v sm k (ls.map (Kw n)))∧Hd (∀ j,j<k→Am (gx ls j).name)∧Below P w5 wr∧P+1 ≤ wr.heap.size) (fun i _=>ls.length-(intOf i).toNat)
  case atStart=>exact⟨0,_,Nat.zero_le _,rfl,E4.o,(fun j hj=>by omega:∀ j,j<0→Am (gx ls j).name),Below.refl _ _,by rw[zn.o];exact Nat.le_refl _⟩
  case round=>
    obtain⟨k,v,hk,rfl,HN,HA,bc,de⟩:=hrel;clear E4 HF;have hw:Bw w wr:=zk.trans (bc.mono qb)
    by_cases aj:k<ls.length
    · obtain⟨b,off,rfl,c1,c2,c3⟩:=(hlr.bl hw) k aj
      have fx:=M3 k aj;have R5:=cr k;have hgk:=gx_map n ls k aj;obtain⟨s,es⟩:=Ai (gx ls k);rw[es] at c1 c2 c3 fx R5 hgk;have ES:=hid es;have HG:=hid hgk;clear es hgk M3 cr hlr hr hT;have je:(k:Int)<(ls.length:Int):=qb;have jm:(0:Int) ≤ (k:Int):=qb
      by_cases gk:Am s.name
      · have ip:=Cu gk
        obtain⟨_,cP,_⟩:=HN.o.cell;have uq:P<wr.heap.size:=qb
        go_wp2_with (go_at_call 106;refine(Dg s.name _ R5).mono ?_;rintro e w9 ⟨rfl,rfl⟩;rw[ip])
        obtain⟨W,eW⟩:=Ai (wr.alloc (.cells #[.string s.name,.bool s.ask,.string s.sum] 172));obtain⟨q,eq⟩:=Ai wr.heap.size;have d0:W.cell? ⟨q,0,none⟩=some (.string s.name):=qgv;have d1:W.cell? ⟨q,1,none⟩=some (.bool s.ask):=qgv;have d2:W.cell? ⟨q,2,none⟩=some (.string s.sum):=qgv;have bn:Bw wr W:=qgb;have dP:=Aa bn cP;(have hWq:W.heap.size=q+1:=by rw[← eW,← eq];simp);have HQ:=hid hWq;have HNW:=hid (HN.o.bl bn);obtain⟨ys0,E6,_⟩:=HN.o.own;(have HVQ:Hd (some q≠v.ownBlock):=fun e=>by have:=(E6.lt q e.symm).2;omega);(have HVP:Hd (some P≠v.ownBlock):=fun e=>by have:=(E6.lt P e.symm).1;omega);have km:Below P w5 W:=bc.trans (bn.mono qb);have hPq:P<q:=qb;rw[eW,eq];clear eW eq bn hWq cP bc de uq E6 HN c1 c2 c3;obtain⟨u,eu⟩:=Ai (Ap n s.sum);(have HS:Hd (∀ W':World,Calls prog 139 #[.string s.sum,I n] W' fun e w'=>e=.returned (.string u)∧Bw W' w'):=fun W'=>by rw[← eu];exact Ie s.sum n W' fx h1 h2);have HU:=hid eu;clear eu;obtain⟨ys,sq,ye⟩:=HNW.o.own;have zm:=hid sq;have HFY:=hid ye;clear sq ye;(have hWq1:q+1 ≤ W.heap.size:=by rw[HQ.o];exact Nat.le_refl _);refine Lt.begin 14 (fun w'=>w'.cell? ⟨P,1,none⟩=some v∧w'.cell? ⟨q,0,none⟩=some (.string s.name)∧w'.cell? ⟨q,1,none⟩=some (.bool s.ask)∧w'.cell? ⟨q,2,none⟩=some (.string s.sum)) qi ?_;have iw:W.drew.cell? ⟨P,1,none⟩=some v∧W.drew.cell? ⟨q,0,none⟩=some (.string s.name)∧W.drew.cell? ⟨q,1,none⟩=some (.bool s.ask)∧W.drew.cell? ⟨q,2,none⟩=some (.string s.sum):=qo;change K 0 _
        iterate 9
         refine Lt.ti (v:=?_) iw ?_ ?_;rotate_left 1
         · exact qak
         simp only[gX]
        refine Lt.sp (i:=9) (fun K hK=>?_);go_simp;refine(HS.o _).mono ?_;rintro e w6 ⟨rfl,ci⟩;have co:Bw W w6:=(Below.drew (Below.refl _ _)).trans (ci.mono qg);refine hK.out _ _ (fun _=>⟨Aa co dP,Aa co d0,Aa co d1,Aa co d2⟩) (fun mg=>?_);replace mg:=mg qd;clear hK K iw ci;refine Lt.ti (i:=10) (v:=?_) mg ?_ ?_;rotate_left 1
        · exact qak
        simp only[gX];refine Lt.sp (i:=11) (fun K hK=>?_);go_simp;refine hK.out _ _ (fun _=>⟨Mv mg.1,Mv mg.2.1,Mv mg.2.2.1,Mv mg.2.2.2⟩) (fun ko=>?_);replace ko:=ko qd;clear hK K mg;refine Lt.sp (i:=12) (fun K hK=>?_);refine Wp rfl qt (P+1) v k ys qt ((Ac zm.o co).alloc _) w6.heap.size s.name s.ask u qt (Ni _ _) (by have:=co.size;simp;omega) qb ?_;intro g' ai w7 d7 ae;have hsz6:=co.size;(have x0:w7.cell? ⟨P,1,none⟩=some v:=by rw[ae.cell_far ⟨P,1,none⟩ qh HVP.o];exact ko.1);(have x1:w7.cell? ⟨q,0,none⟩=some (.string s.name):=by rw[ae.cell_far ⟨q,0,none⟩ qh HVQ.o];exact ko.2.1);(have x2:w7.cell? ⟨q,1,none⟩=some (.bool s.ask):=by rw[ae.cell_far ⟨q,1,none⟩ qh HVQ.o];exact ko.2.2.1);(have x3:w7.cell? ⟨q,2,none⟩=some (.string s.sum):=by rw[ae.cell_far ⟨q,2,none⟩ qh HVQ.o];exact ko.2.2.2);have HNP:Hd (NS (w7.setCell ⟨P,1,none⟩ (.slice (p_ g') (k+1) ai)) P (.slice (p_ g) is.length cp) (.slice (p_ g') (k+1) ai) sm (k+1) (ls.map (Kw n))):=NS.add HNW.o zm.o HFY.o co ae d7 (by rw[HG.o];unfold Kw;rw[HU.o]);have hbP7:Below P w5 w7:=((km.trans (co.mono qb)).alloc qb _).grown ae qh (fun m hm=>by have:=(zm.o.lt m hm).1;omega);(have hs7:P+1 ≤ w7.heap.size:=by have h2:=ae.size;simp at h2;omega);(have fz:w7.frozen? ⟨P,1,none⟩=false:=by rw[ae.frozen_far ⟨P,1,none⟩ qh HVP.o];exact fH (by rw[Lib.alloc_old _ _ _ qb];exact(HNW.o.bl co).blk) 1);refine hK.out _ _ (fun _=>⟨x0,x1,x2,x3⟩) (fun C9=>?_);replace C9:=C9 qd;clear hK K ko ae d7;simp only[gX];refine Lt.ti (i:=13) (v:=?_) C9 ?_ ?_;rotate_left 1
        · exact qak
        simp only[gX];refine Lt.sp (i:=14) (fun K hK=>?_);exact qig
      · have ip:=Ck gk
        have kbr:wr.heap[w.heap.size+1+1]?=some (.cells #[nS,nS,ze] 97 (0,0)):=qec;have r0:∀ x,(wr.alloc x).cell? ⟨w.heap.size+1+1,0,none⟩=some nS:=fun x=>Mv qgw;have r1:∀ x,(wr.alloc x).cell? ⟨w.heap.size+1+1,1,none⟩=some nS:=fun x=>Mv qgw;have r2:∀ x,(wr.alloc x).cell? ⟨w.heap.size+1+1,2,none⟩=some ze:=fun x=>Mv qgw;have fr:∀ x j,(wr.alloc x).frozen? ⟨w.heap.size+1+1,j,none⟩=false:=fun x j=>fH (by rw[Lib.alloc_old _ _ _ qb];exact kbr) j;have hR:w.heap.size ≤ w.heap.size+1+1:=qb;have hwA:∀ x,Bw w (wr.alloc x):=fun x=>hw.alloc hw.size _;clear kbr bc hw
        go_wp2_with (go_at_call 106;refine(Dg s.name _ R5).mono ?_;rintro e w9 ⟨rfl,rfl⟩;rw[ip])
        exact bR (v:=.agg #[nS,nS,ze]) (by simp[results,results152,go_sem,r0,r1,r2]) rfl ⟨(((hwA _).setCell (p:=⟨w.heap.size+1+1,0,none⟩) hR _).setCell (p:=⟨w.heap.size+1+1,1,none⟩) hR _).setCell (p:=⟨w.heap.size+1+1,2,none⟩) hR _,Or.inr ⟨⟨k,aj,by rw[ES.o];exact gk⟩,rfl⟩⟩
    · have ek:k=ls.length:=qb
      subst ek;obtain⟨c0,c1,c2⟩:=HN.o.cell;obtain⟨ys,sq,ye⟩:=HN.o.own;have kbr:wr.heap[w.heap.size+1+1]?=some (.cells #[nS,nS,ze] 97 (0,0)):=qec;obtain⟨r0,r1,r2⟩:=ck3 kbr;have fr:=fZ kbr;have hR:w.heap.size ≤ w.heap.size+1+1:=qb
      have o1:wr.ownsRow w.heap.size 128 3 (.slice (p_ g) is.length cp) is.length (El is):=by
        exact qjf
      have kd:=hid o1;have zm:Hd (wr.ownsRow w.heap.size 125 3 v ls.length ys):=Ah sq qb;(have HV:Hd (∀ b,v.ownBlock=some b→b≠w.heap.size+1+1):=fun b hb=>by have:=(sq.lt b hb).1;omega);have HFY:=hid ye
      obtain⟨va,vn,vc,rfl⟩:∃ va vn vc,v=.slice va vn vc:=by
        exact qlv
      clear kbr bc o1 sq ye HN;go_wp2;refine bR (v:=.agg #[.slice (p_ g) is.length cp,.slice va vn vc,.string sm]) (by simp[results,results152,go_sem,r0,r1,r2]) rfl ⟨((hw.setCell (p:=⟨w.heap.size+1+1,0,none⟩) hR _).setCell (p:=⟨w.heap.size+1+1,1,none⟩) hR _).setCell (p:=⟨w.heap.size+1+1,2,none⟩) hR _,Or.inl ⟨HA.o,_,_,by rw[ESM.o],El is,ys,?_,Ka is,?_,by rw[List.length_map];exact HFY.o⟩⟩
      · exact qiv
      · exact qms
end Go.Proofs.YtfgoholldpeabaaGreatDoor
