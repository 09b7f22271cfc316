import Derived.Test.YtdbjfdhknkfjaaaGreatDoorUnB
import Derived.Test.YtdbjfdhknkfjaaaGreatDoorTClP
import Derived.Test.YtdbjfdhknkfjaaaGreatDoorUnL
namespace Go.Proofs.YtdbjfdhknkfjaaaGreatDoor
set_option maxHeartbeats 16000000
set_option maxRecDepth 100000
open Go.RowKit Go.Deep
set_option linter.unusedVariables false
set_option linter.unusedSimpArgs false
def So (L:List S2) (s:S2) (r k:Nat) (M:List S2) (d:Bool):Prop:=(k<=r/\M=L.take k/\d=false)\/(r<k/\M=L.take r++[s]++(L.take k).drop r/\d=true)
theorem Ra {L:List S2} {k:Nat} (h:k<L.length):L.take (k+1)=L.take k++[sx L k]:=by rw[List.take_succ_eq_append_getElem h,Jr h]
theorem So.len {L:List S2} {s:S2} {r k:Nat} {M:List S2} {d:Bool} (h:So L s r k M d) (hk:k<=L.length):M.length<=k+1:=by
 rcases h with ⟨h1,rfl,_⟩|⟨h1,rfl,_⟩
 ·rw[List.length_take];omega
 ·simp;omega
theorem So.before {L:List S2} {s:S2} {r k:Nat} {M:List S2} (h:So L s r k M false) (hk:k<L.length) (hr:k<r):So L s r (k+1) (M++[sx L k]) false:=by
 rcases h with ⟨h1,rfl,_⟩|⟨_,_,h⟩
 ·exact Or.inl ⟨by omega,(Ra hk).symm,rfl⟩
 ·cases h
theorem So.here {L:List S2} {s:S2} {r:Nat} {M:List S2} (h:So L s r r M false) (hk:r<L.length):So L s r (r+1) (M++[s]++[sx L r]) true:=by
 rcases h with ⟨h1,rfl,_⟩|⟨_,_,h⟩
 ·refine Or.inr ⟨by omega,?_,rfl⟩;rw[Ra hk,List.drop_append_of_le_length (by rw[List.length_take];omega),List.drop_of_length_le (by rw[List.length_take];omega),List.nil_append]
 ·cases h
theorem So.past {L:List S2} {s:S2} {r k:Nat} {M:List S2} (h:So L s r k M true) (hk:k<L.length):So L s r (k+1) (M++[sx L k]) true:=by
 rcases h with ⟨_,_,h⟩|⟨h1,rfl,_⟩
 ·cases h
 ·refine Or.inr ⟨by omega,?_,rfl⟩;rw[Ra hk,List.drop_append_of_le_length (by rw[List.length_take];omega),List.append_assoc (L.take r++[s])]
theorem So.done {L:List S2} {s:S2} {r:Nat} {M:List S2} (h:So L s r L.length M true):M=Hv L s r:=by
 rcases h with ⟨_,_,h⟩|⟨h1,rfl,_⟩
 ·cases h
 ·rw[List.take_of_length_le (Nat.le_refl _)];rfl
theorem So.last {L:List S2} {s:S2} {r:Nat} {M:List S2} (h:So L s r L.length M false) (hr:r<=L.length):M++[s]=Hv L s r:=by
 rcases h with ⟨h1,rfl,_⟩|⟨_,_,h⟩
 ·obtain rfl:r=L.length:=by omega
  unfold Hv;rw[List.drop_of_length_le (Nat.le_refl _),List.append_nil]
 ·cases h
theorem Ka (M:List S2) (s:S2):Dz M++[.string s.name,.string s.text]=Dz (M++[s]):=by rw[Jl,Wg]
theorem Yu (sa ta:Option Addr) (c1 c2:Nat) (ss:List S2) (ts:List T2) (t x:ByteArray) (w:World) (h:Hp w sa ss ta ts) (hsm:Eg ss ts) (ht:t.size<=9223372036854775807) (hx:x.size<=9223372036854775807) :
  Calls Tryz.prog 12 #[.agg #[.slice sa ss.length c1,.slice ta ts.length c2],.string t,.string x] w fun e w'=>Below w.heap.size w w'/\Sn w.heap.size w' e ss ts t x (decide (x.size<=2000)):=by
 obtain⟨ok,eok⟩:∃ ok,decide (x.size<=2000)=ok:=⟨_,rfl⟩
 have hok:decide ((2000:Int)<(x.size:Int))=!ok:=by rw[<- eok,<- decide_not,decide_eq_decide];omega
 rw[eok]
 clear eok
 obtain⟨i0,hi,hz0,hz1,hz2⟩:=info_parts Tryz.info103b
 have hb0:Below w.heap.size w ((w.alloc (.cells #[.slice sa ss.length c1,.slice ta ts.length c2] 26)).alloc (.cells #[.slice none 0 0,.slice none 0 0] 26)):=(aN _ _).alloc (by simp) _
 have p0:((w.alloc (.cells #[.slice sa ss.length c1,.slice ta ts.length c2] 26)).alloc (.cells #[.slice none 0 0,.slice none 0 0] 26)).cell? ⟨w.heap.size,0,none⟩=some (.slice sa ss.length c1):=by simp[go_sem]
 have p1:((w.alloc (.cells #[.slice sa ss.length c1,.slice ta ts.length c2] 26)).alloc (.cells #[.slice none 0 0,.slice none 0 0] 26)).cell? ⟨w.heap.size,1,none⟩=some (.slice ta ts.length c2):=by simp[go_sem]
 have kb:((w.alloc (.cells #[.slice sa ss.length c1,.slice ta ts.length c2] 26)).alloc (.cells #[.slice none 0 0,.slice none 0 0] 26)).heap[w.heap.size+1]?=some (.cells #[.slice none 0 0,.slice none 0 0] 26 (0,0)):=by
  have h:=Ai (w.alloc (.cells #[.slice sa ss.length c1,.slice ta ts.length c2] 26)) (.cells #[.slice none 0 0,.slice none 0 0] 26);rw[show (w.alloc (.cells #[.slice sa ss.length c1,.slice ta ts.length c2] 26)).heap.size=w.heap.size+1 from by simp] at h;exact h
 have hR:w.heap.size<=w.heap.size+1:=by omega
 go_enter Tryz.func12,Tryz.ntmps12
 go_wp2_with fail
 refine(Hj sa ta c1 c2 ss ts _ (h.bl hb0) hsm).mono ?_
 rintro e w1 ⟨hb1,rfl⟩
 have hB1:=bt hb0 hb1
 replace p0:=Ab hb1 p0
 replace p1:=Ab hb1 p1
 have kb1:w1.heap[w.heap.size+1]?=some (.cells #[.slice none 0 0,.slice none 0 0] 26 (0,0)):=by rw[hb1.block _ (Cb kb)];exact kb
 have r0:w1.cell? ⟨w.heap.size+1,0,none⟩=some (.slice none 0 0):=by rw[cH kb1];rfl
 have r1:w1.cell? ⟨w.heap.size+1,1,none⟩=some (.slice none 0 0):=by rw[cH kb1];rfl
 have fr:∀ j,w1.frozen? ⟨w.heap.size+1,j,none⟩=false:=fun j=>fH kb1 j
 have KB1:Hd (w1.heap[w.heap.size+1]?=some (.cells #[.slice none 0 0,.slice none 0 0] 26 (0,0))):=kb1
 clear hb0 hb1 kb kb1
 by_cases hc:Fb ss ts=0
 ·have HC:Hd (Ue ss ts):=Qal hc;rw[hc]
  by_cases hn:Ar t
  ·have hnb:=Cs hn;cases ok
   ·have HD:Hd (Ci ss ts t false=2):=Mw hc (fun k=>by cases k.2);clear hn hc
    go_wp2_with (go_at_call 28;refine(Bn t _ ht).mono ?_;rintro e w9 ⟨rfl,rfl⟩;rw[hnb])
    exact bR (v:=.tuple #[.agg #[.slice none 0 0,.slice none 0 0],.int .i64 2]) (by simp[results,Tryz.results12,go_sem,r0,r1]) rfl ⟨(hB1.setCell (p:=⟨w.heap.size+1,0,none⟩) hR _).setCell (p:=⟨w.heap.size+1,1,none⟩) hR _,Sn.no HD.o (by decide)⟩
   ·go_wp2_with (go_at_call 28;refine(Bn t _ ht).mono ?_;rintro e w9 ⟨rfl,rfl⟩;rw[hnb])
    refine(Ml sa ta c1 c2 ss ts t _ (h.rs.bl hB1) (h.rt.bl hB1) (by have:=HC.o.len;omega) (by have:=HC.o.len;omega) HC.o.codes).mono ?_;rintro e w5 ⟨hb5,v1,v2,rfl,o1,o2⟩;have hB5:=bt hB1 hb5;(have kb5:w5.heap[w.heap.size+1]?=some (.cells #[.slice none 0 0,.slice none 0 0] 26 (0,0)):=by rw[hb5.block _ (Cb KB1.o)];exact KB1.o);have hz:w.heap.size+1<w1.heap.size:=Cb KB1.o;have hz5:w1.heap.size<=w5.heap.size:=hb5.size;obtain⟨a1,q1,rfl,rs1⟩:=o1.sl;obtain⟨a2,q2,rfl,_⟩:=o2.sl;obtain⟨w6,e6⟩:∃ y,w5.alloc (.cells #[.slice a1 (Br t ss).length q1,.slice a2 (Bo t ts).length q2] 26)=y:=⟨_,rfl⟩;(have hb6:Below w5.heap.size w5 w6:=by rw[<- e6];exact aN _ _);have hB6:=bt hB5 hb6;have kb6:w6.heap[w.heap.size+1]?=some (.cells #[.slice none 0 0,.slice none 0 0] 26 (0,0)):=Aa kb5 hb6;have HK6:Hd (w6.heap[w.heap.size+1]?=some (.cells #[.slice none 0 0,.slice none 0 0] 26 (0,0))):=kb6;(have HP6:Hd (w6.heap[w5.heap.size]?=some (.cells #[.slice a1 (Br t ss).length q1,.slice a2 (Bo t ts).length q2] 26 (0,0))):=by show _=_;rw[<- e6];exact Ai _ _);have hs6:w5.heap.size<w6.heap.size:=Cb HP6.o;have HRS:Hd (Gx w6 a1 (Br t ss)):=rs1.bl hb6;(have s0:w6.cell? ⟨w.heap.size+1,0,none⟩=some (.slice none 0 0):=by rw[cH kb6];rfl);(have s1:w6.cell? ⟨w.heap.size+1,1,none⟩=some (.slice none 0 0):=by rw[cH kb6];rfl);have fs:∀ j,w6.frozen? ⟨w.heap.size+1,j,none⟩=false:=fun j=>fH kb6 j;obtain⟨x0,x1⟩:=Af HP6.o;have HO2:Hd (Eh w6 w1.heap.size w5.heap.size (.slice a2 (Bo t ts).length q2) (Bo t ts)):=o2.bl hb6;have HDY:Hd (¬ 200<=(Br t ss).length+(Bo t ts).length->Ci ss ts t true=0):=roomC0 hc ⟨hn,rfl⟩;have HDN:Hd (200<=(Br t ss).length+(Bo t ts).length->Ci ss ts t true=3):=Za hc ⟨hn,rfl⟩;(have hl1:(Br t ss).length<=200:=by have h1:=Lo t ss;have h2:=HC.o.len;omega);(have hl2:(Bo t ts).length<=200:=by have h1:=Ln t ts;have h2:=HC.o.len;omega);have HAS:Hd (Eu (Ag (Br t ss))):=ascS t HC.o.a1;clear o1 o2 kb5 kb6 hb5 hb6 p0 p1 r0 r1 fr hc hn hB5 rs1 KB1
    by_cases hf:200<=(Br t ss).length+(Bo t ts).length
    ·have HD:Hd (Ci ss ts t true=3):=HDN.o hf;(have heq:decide ((200:Int)<=((Br t ss).length:Int)+((Bo t ts).length:Int))=true:=by simp;omega);generalize (Br t ss).length=n1 at *;generalize (Bo t ts).length=n2 at *;go_wp2_with fail;exact bR (v:=.tuple #[.agg #[.slice none 0 0,.slice none 0 0],.int .i64 3]) (by simp[results,Tryz.results12,go_sem,s0,s1]) rfl ⟨(hB6.setCell (p:=⟨w.heap.size+1,0,none⟩) hR _).setCell (p:=⟨w.heap.size+1,1,none⟩) hR _,Sn.no HD.o (by decide)⟩
    ·have HD:Hd (Ci ss ts t true=0):=HDY.o hf;(have heq:decide ((200:Int)<=((Br t ss).length:Int)+((Bo t ts).length:Int))=false:=by simp;omega);obtain⟨r,hat⟩:=Hh HAS.o t;(have hrl:r<=(Br t ss).length:=by have:=hat.le;rw[Bc] at this;exact this);have HAT:Hd (AtR (Ag (Br t ss)) t r):=hat
     have HCB:Hd (∀ k,k<r->Op.bytesLess (sx (Br t ss) k).name.toList t.toList=true):=fun k hk=>by
      have h1:=hat.lo k hk;rw[Cy] at h1;exact h1
     have HCA:Hd (∀ k,r<=k->k<(Br t ss).length->Op.bytesLess (sx (Br t ss) k).name.toList t.toList=false/\((sx (Br t ss) k).name.toList == t.toList)=false):=fun k hk1 hk2=>by
      have h1:=hat.hi k hk1 (by rw[Bc];exact hk2);rw[Cy] at h1;refine⟨h1,?_⟩;rw[beq_eq_false_iff_ne];intro e;rw[ByteArray.toList_eq,ByteArray.toList_eq] at e;exact fltS_ne t ss hk2 (WideShapes.bytes_inj e)
     have HPY:Hd (Zf ss ts t x true=Hv (Br t ss) ⟨t,x⟩ r/\Ze ss ts t true=Bo t ts):=Ur HD.o hat;clear hat;generalize Br t ss=L at *;obtain⟨w7,e7⟩:∃ y,w6.alloc (.cells #[] 79)=y:=⟨_,rfl⟩;have hb7:Below w6.heap.size w6 w7:=by rw[<- e7];exact aN _ _
     have HO7:Hd (w7.ownsRow w6.heap.size 79 2 (.slice (some ⟨w6.heap.size,0,none⟩) 0 0) 0 []):=by
      show World.ownsRow _ _ _ _ _ _ _;rw[<- e7];exact World.ownsRow_lit (base:=w6.heap.size) (e:=79) (size:=2) w6 #[] 0 (Nat.le_refl _) (by unfold maxLen;omega) (by simp)
     go_wp2_with fail;clear e7 heq x0 x1 s0 s1 fs;have HB7:Hd (Below w6.heap.size w6 w7):=hb7;clear hb7
     go_loopw [9,10,11] (fun lv dn i wr=>∃(k:Nat) (M:List S2) (g cp:Nat) (d:Bool),k<=L.length/\lv=.slice (some ⟨g,0,none⟩) M.length cp/\dn=.bool d/\i=.int .i64 k/\Hd (wr.ownsRow w6.heap.size 79 2 (.slice (some ⟨g,0,none⟩) M.length cp) M.length (Dz M))/\Hd (So L ⟨t,x⟩ r k M d)/\Below w6.heap.size w6 wr) (fun _ _ i _=>L.length-(intOf i).toNat)
     case atStart=>exact⟨0,[],_,0,false,Nat.zero_le _,rfl,rfl,rfl,HO7.o,(Or.inl ⟨Nat.zero_le _,rfl,rfl⟩:So L ⟨t,x⟩ r 0 [] false),HB7.o⟩
     case round=>
      obtain⟨k,M,g,cp,d,hk,rfl,rfl,rfl,HO,HM,hbr⟩:=hrel;clear HO7 HB7;have hwr:w6.heap.size<=wr.heap.size:=hbr.size;obtain⟨z0,z1⟩:=Af (Aa HP6.o hbr);have hml:=HM.o.len hk
      by_cases hlt:k<L.length
      ·obtain⟨b,off,rfl,y1,y2⟩:=HRS.o k hlt;have hbl:b<w6.heap.size:=World.block_lt_of_cell? _ _ y1;have d1:=Ab hbr y1;have d2:=Ab hbr y2;(have hkI:(k:Int)<(L.length:Int):=by omega);(have hk0:(0:Int)<=(k:Int):=by omega);(have HNB:Hd (∀ hr:k<r,d=false->So L ⟨t,x⟩ r (k+1) (M++[sx L k]) false):=fun hr hd=>by subst hd;exact HM.o.before hlt hr);(have HNH:Hd (∀ hr:k=r,d=false->So L ⟨t,x⟩ r (k+1) (M++[⟨t,x⟩]++[sx L k]) true):=fun hr hd=>by subst hd;subst hr;exact HM.o.here hlt);have HNP:Hd (d=true->So L ⟨t,x⟩ r (k+1) (M++[sx L k]) true):=fun hd=>by subst hd;exact HM.o.past hlt
       have HRK:Hd (d=false->k<=r):=fun hd=>by
        rcases HM.o with ⟨h1,_,_⟩|⟨_,_,h1⟩
        ·exact h1
        ·rw[hd] at h1;cases h1
       have HV1:Hd (k<r->Op.bytesLess (sx L k).name.toList t.toList=true):=HCB.o k;have HV2:Hd (r<=k->Op.bytesLess (sx L k).name.toList t.toList=false/\((sx L k).name.toList == t.toList)=false):=fun h=>HCA.o k h hlt;obtain⟨s,es⟩:∃ s,sx L k=s:=⟨_,rfl⟩;rw[es] at d1 d2 HNB HNH HNP HV1 HV2;clear es y1 y2 HM;obtain⟨wA,eA⟩:∃ y,wr.alloc (.cells #[.string s.name,.string s.text] 79)=y:=⟨_,rfl⟩;(have hbA:Below wr.heap.size wr wA:=by rw[<- eA];exact aN _ _);have HOA:Hd (wA.ownsRow w6.heap.size 79 2 (.slice (some ⟨g,0,none⟩) M.length cp) M.length (Dz M)):=Ad HO.o hbA;(have HNA:Hd (wA.heap[wr.heap.size]?=some (.cells #[.string s.name,.string s.text] 79 (0,0))):=by show _=_;rw[<- eA];exact Ai _ _);have HBA:Hd (Below w6.heap.size w6 wA):=hbr.trans (hbA.mono hwr);have hsA:wr.heap.size<wA.heap.size:=Cb HNA.o;cases d
       ·rcases Nat.lt_or_ge k r with hkr|hkr
        ·have hv:=HV1.o hkr;have HMN:Hd (So L ⟨t,x⟩ r (k+1) (M++[s]) false):=HNB.o hkr rfl;clear HV1 HV2 HNB HNH HNP hbA
         go_wp2_with (first|(at_builtin;refine wpList_append_own _ rfl (.tmp 63) (.tmp 69) 23 rfl w6.heap.size 79 i0 (.agg #[.string ⟨#[]⟩,.string ⟨#[]⟩]) 2 32 Tryz.underlying23 hi hz0 hz1 hz2 rfl (by decide) _ _ _ rfl HOA.o ⟨wr.heap.size,0,none⟩ 1 1 [.string s.name,.string s.text] rfl rfl (World.news_of_block (cs:=#[.string s.name,.string s.text]) (t:=79) (fr:=(0,0)) HNA.o) (by intro u hu;simp at hu;rcases hu with rfl|rfl<;>rfl) (by unfold maxLen;omega) (by omega) (by omega) ?_;intro v' w2 hown' hgrow hnil;clear hnil;obtain⟨g',cp',rfl⟩:=Ij hown' (by omega);rw[Ka] at hown';have HN2:Hd (w2.ownsRow w6.heap.size 79 2 (.slice (some ⟨g',0,none⟩) (M++[s]).length cp') (M++[s]).length (Dz (M++[s]))):=(by show World.ownsRow _ _ _ _ _ _ _;rw[List.length_append];exact hown');have HB2:Hd (Below w6.heap.size w6 w2):=HBA.o.grown hgrow (by omega) (fun m hm=>(HOA.o.lt m hm).1);clear hgrow hown'))
         clear eA;exact⟨⟨k+1,M++[s],g',cp',false,by omega,by rw[List.length_append];rfl,rfl,by go_num,HN2.o,HMN.o,HB2.o⟩,by simp[intOf];omega⟩
        ·(have hkr':k=r:=by have:=HRK.o rfl;omega);obtain⟨hv,hv2⟩:=HV2.o hkr;have HMN:Hd (So L ⟨t,x⟩ r (k+1) (M++[⟨t,x⟩]++[s]) true):=HNH.o hkr' rfl;clear eA;obtain⟨wC,eC⟩:∃ y,wr.alloc (.cells #[.string t,.string x] 79)=y:=⟨_,rfl⟩;(have hbC:Below wr.heap.size wr wC:=by rw[<- eC];exact aN _ _);have HOC:Hd (wC.ownsRow w6.heap.size 79 2 (.slice (some ⟨g,0,none⟩) M.length cp) M.length (Dz M)):=Ad HO.o hbC;(have HNC:Hd (wC.heap[wr.heap.size]?=some (.cells #[.string t,.string x] 79 (0,0))):=by show _=_;rw[<- eC];exact Ai _ _);have HBC:Hd (Below w6.heap.size w6 wC):=hbr.trans (hbC.mono hwr);have hsC:wr.heap.size<wC.heap.size:=Cb HNC.o;clear HV1 HV2 HNB HNH HNP hbA hbC HOA HNA HBA hsA wA hkr';have HZ:Hd (wr.cell? ⟨w5.heap.size,0,none⟩=some (.slice (some ⟨b,off,none⟩) L.length q1)/\wr.cell? ⟨b,off+k*2,none⟩=some (.string s.name)/\wr.cell? ⟨b,off+k*2+1,none⟩=some (.string s.text)):=⟨z0,d1,d2⟩
         go_wp2_with (first|(at_builtin;refine wpList_append_own _ rfl (.tmp 57) (.tmp 61) 23 rfl w6.heap.size 79 i0 (.agg #[.string ⟨#[]⟩,.string ⟨#[]⟩]) 2 32 Tryz.underlying23 hi hz0 hz1 hz2 rfl (by decide) _ _ _ rfl HOC.o ⟨wr.heap.size,0,none⟩ 1 1 [.string t,.string x] rfl rfl (World.news_of_block (cs:=#[.string t,.string x]) (t:=79) (fr:=(0,0)) HNC.o) (by intro u hu;simp at hu;rcases hu with rfl|rfl<;>rfl) (by unfold maxLen;omega) (by omega) (by omega) ?_;intro v' w2 hown' hgrow hnil;clear hnil;obtain⟨g',cp',rfl⟩:=Ij hown' (by omega);rw[Ka M ⟨t,x⟩] at hown';have KC:∀(p:Addr) (u:Value),p.block<w6.heap.size->wr.cell? p=some u->w2.cell? p=some u:=(fun p u hp hcell=>by have hc2:=hcell;rw[<- World.cell?_alloc_lt _ (.cells #[.string t,.string x] 79) _ (World.block_lt_of_cell? _ _ hcell)] at hc2;rw[eC] at hc2;rw[hgrow.cell_far p (World.block_lt_of_cell? _ _ hc2) (fun e=>by have:=(HOC.o.lt _ e.symm).1;omega)];exact hc2);have m0:=KC _ _ (by show w5.heap.size<w6.heap.size;omega) HZ.o.1;have m1:=KC _ _ (by show b<w6.heap.size;omega) HZ.o.2.1;have m2:=KC _ _ (by show b<w6.heap.size;omega) HZ.o.2.2;have HB2:Hd (Below w6.heap.size w6 w2):=HBC.o.grown hgrow (by omega) (fun m hm=>(HOC.o.lt m hm).1);have hs2:w6.heap.size<=w2.heap.size:=HB2.o.size;clear eC;obtain⟨wE,eE⟩:∃ y,w2.alloc (.cells #[.string s.name,.string s.text] 79)=y:=⟨_,rfl⟩;have hbE:Below w2.heap.size w2 wE:=(by rw[<- eE];exact aN _ _);have HOE:Hd (wE.ownsRow w6.heap.size 79 2 (.slice (some ⟨g',0,none⟩) (M.length+1) cp') (M.length+1) (Dz (M++[⟨t,x⟩]))):=Ad hown' hbE;have HNE:Hd (wE.heap[w2.heap.size]?=some (.cells #[.string s.name,.string s.text] 79 (0,0))):=(by show _=_;rw[<- eE];exact Ai _ _);have HBE:Hd (Below w6.heap.size w6 wE):=HB2.o.trans (hbE.mono hs2);have hsE:w2.heap.size<wE.heap.size:=Cb HNE.o;clear hgrow hown' KC hbE)|(at_builtin;refine wpList_append_own _ rfl (.tmp 63) (.tmp 69) 23 rfl w6.heap.size 79 i0 (.agg #[.string ⟨#[]⟩,.string ⟨#[]⟩]) 2 32 Tryz.underlying23 hi hz0 hz1 hz2 rfl (by decide) _ _ _ rfl HOE.o ⟨w2.heap.size,0,none⟩ 1 1 [.string s.name,.string s.text] rfl rfl (World.news_of_block (cs:=#[.string s.name,.string s.text]) (t:=79) (fr:=(0,0)) HNE.o) (by intro u hu;simp at hu;rcases hu with rfl|rfl<;>rfl) (by unfold maxLen;omega) (by omega) (by omega) ?_;intro v3 w3 hown3 hgrow3 hnil3;clear hnil3 eE;obtain⟨g3,cp3,rfl⟩:=Ij hown3 (by omega);rw[Ka] at hown3;have HN3:Hd (w3.ownsRow w6.heap.size 79 2 (.slice (some ⟨g3,0,none⟩) (M.length+1+1) cp3) (M.length+1+1) (Dz (M++[⟨t,x⟩]++[s]))):=hown3;have HB3:Hd (Below w6.heap.size w6 w3):=HBE.o.grown hgrow3 (by omega) (fun m hm=>(HOE.o.lt m hm).1);clear hgrow3 hown3))
         (have hll:(M++[(⟨t,x⟩:S2)]++[s]).length=M.length+1+1:=by simp);exact⟨⟨k+1,M++[(⟨t,x⟩:S2)]++[s],g3,cp3,true,by omega,by rw[hll],rfl,by go_num,(by show World.ownsRow _ _ _ _ _ _ _;rw[hll];exact HN3.o),HMN.o,HB3.o⟩,by simp[intOf];omega⟩
       ·have HMN:Hd (So L ⟨t,x⟩ r (k+1) (M++[s]) true):=HNP.o rfl;clear HV1 HV2 HNB HNH HNP hbA
        go_wp2_with (first|(at_builtin;refine wpList_append_own _ rfl (.tmp 63) (.tmp 69) 23 rfl w6.heap.size 79 i0 (.agg #[.string ⟨#[]⟩,.string ⟨#[]⟩]) 2 32 Tryz.underlying23 hi hz0 hz1 hz2 rfl (by decide) _ _ _ rfl HOA.o ⟨wr.heap.size,0,none⟩ 1 1 [.string s.name,.string s.text] rfl rfl (World.news_of_block (cs:=#[.string s.name,.string s.text]) (t:=79) (fr:=(0,0)) HNA.o) (by intro u hu;simp at hu;rcases hu with rfl|rfl<;>rfl) (by unfold maxLen;omega) (by omega) (by omega) ?_;intro v' w2 hown' hgrow hnil;clear hnil;obtain⟨g',cp',rfl⟩:=Ij hown' (by omega);rw[Ka] at hown';have HN2:Hd (w2.ownsRow w6.heap.size 79 2 (.slice (some ⟨g',0,none⟩) (M++[s]).length cp') (M++[s]).length (Dz (M++[s]))):=(by show World.ownsRow _ _ _ _ _ _ _;rw[List.length_append];exact hown');have HB2:Hd (Below w6.heap.size w6 w2):=HBA.o.grown hgrow (by omega) (fun m hm=>(HOA.o.lt m hm).1);clear hgrow hown'))
        clear eA;exact⟨⟨k+1,M++[s],g',cp',true,by omega,by rw[List.length_append];rfl,rfl,by go_num,HN2.o,HMN.o,HB2.o⟩,by simp[intOf];omega⟩
      ·(have ek:k=L.length:=by omega);subst ek;(have HRI:Hd (d=true->M=Hv L ⟨t,x⟩ r):=fun hd=>by subst hd;exact HM.o.done);(have HRL:Hd (d=false->M++[⟨t,x⟩]=Hv L ⟨t,x⟩ r):=fun hd=>by subst hd;exact HM.o.last hrl);have kr:=Aa HK6.o hbr;have kp:=Aa HP6.o hbr;clear HM;cases d
       ·obtain⟨wC,eC⟩:∃ y,wr.alloc (.cells #[.string t,.string x] 79)=y:=⟨_,rfl⟩;(have hbC:Below wr.heap.size wr wC:=by rw[<- eC];exact aN _ _);have HOC:Hd (wC.ownsRow w6.heap.size 79 2 (.slice (some ⟨g,0,none⟩) M.length cp) M.length (Dz M)):=Ad HO.o hbC;(have HNC:Hd (wC.heap[wr.heap.size]?=some (.cells #[.string t,.string x] 79 (0,0))):=by show _=_;rw[<- eC];exact Ai _ _);have HBC:Hd (Below w6.heap.size w6 wC):=hbr.trans (hbC.mono hwr);have hsC:wr.heap.size<wC.heap.size:=Cb HNC.o;have HRE:Hd (M++[⟨t,x⟩]=Hv L ⟨t,x⟩ r):=HRL.o rfl;(have HLE:Hd (M.length+1=(Hv L ⟨t,x⟩ r).length):=by show _=_;rw[<- HRE.o];simp);clear hbC HRI HRL kr kp
        go_wp2_with (first|(at_builtin;refine wpList_append_own _ rfl (.tmp 73) (.tmp 77) 23 rfl w6.heap.size 79 i0 (.agg #[.string ⟨#[]⟩,.string ⟨#[]⟩]) 2 32 Tryz.underlying23 hi hz0 hz1 hz2 rfl (by decide) _ _ _ rfl HOC.o ⟨wr.heap.size,0,none⟩ 1 1 [.string t,.string x] rfl rfl (World.news_of_block (cs:=#[.string t,.string x]) (t:=79) (fr:=(0,0)) HNC.o) (by intro u hu;simp at hu;rcases hu with rfl|rfl<;>rfl) (by unfold maxLen;omega) (by omega) (by omega) ?_;intro v' w2 hown' hgrow hnil;clear hnil;obtain⟨g',cp',rfl⟩:=Ij hown' (by omega);rw[Ka M ⟨t,x⟩,HRE.o] at hown';have HBW:Hd (Below w6.heap.size w6 w2):=HBC.o.grown hgrow (by omega) (fun m hm=>(HOC.o.lt m hm).1);have HN2:Hd (w2.ownsRow w6.heap.size 79 2 (.slice (some ⟨g',0,none⟩) (M.length+1) cp') (M.length+1) (Dz (Hv L ⟨t,x⟩ r))):=hown';have kr:=Aa HK6.o HBW.o;have kp:=Aa HP6.o HBW.o;have u0:=(Af kr).1;have u1:=(Af kr).2;have v0:=(Af kp).1;have v1:=(Af kp).2;have uf:∀ j,w2.frozen? ⟨w.heap.size+1,j,none⟩=false:=(fun j=>fH kr j);have vf:∀ j,w2.frozen? ⟨w5.heap.size,j,none⟩=false:=(fun j=>fH kp j);have hBr:Below w.heap.size w w2:=hB6.trans (HBW.o.mono (by omega));have HTP:Hd (Df w2 w5.heap.size 26):=⟨_,kp⟩;have HTR:Hd (Df w2 (w.heap.size+1) 26):=⟨_,kr⟩;have HO2r:Hd (Eh w2 w1.heap.size w5.heap.size (.slice a2 (Bo t ts).length q2) (Bo t ts)):=HO2.o.bl HBW.o;have hs2:w6.heap.size<=w2.heap.size:=HBW.o.size;clear hgrow hown' kr kp eC))
        refine bR (v:=.tuple #[.agg #[.slice (some ⟨g',0,none⟩) (M.length+1) cp',.slice a2 (Bo t ts).length q2],.int .i64 0]) (by simp[results,Tryz.results12,go_sem,u0,u1]) rfl ⟨((hBr.setCell (p:=⟨w5.heap.size,0,none⟩) (by simp;omega) _).setCell (p:=⟨w.heap.size+1,0,none⟩) hR _).setCell (p:=⟨w.heap.size+1,1,none⟩) hR _,_,_,by rw[HD.o],?_,?_⟩
        ·rw[HPY.o.1];refine Dk.setT (Dk.setT (Dk.setT ?_ HTP.o _) (HTR.o.set _) _) ((HTR.o.set _).set _) _;refine Dk.ofV ?_;rw[<- HLE.o];exact⟨Bx HN2.o (by omega),fun b eb=>by have:=(HN2.o.lt b eb).2;simp;omega⟩
        ·rw[HPY.o.2];exact(Eh.setT (Eh.setT (Eh.setT HO2r.o HTP.o _) (HTR.o.set _) _) ((HTR.o.set _).set _) _).wide (by omega) (by simp;omega)
       ·have HRE:Hd (M=Hv L ⟨t,x⟩ r):=HRI.o rfl;(have HLE:Hd (M.length=(Hv L ⟨t,x⟩ r).length):=by show _=_;rw[<- HRE.o]);have u0:=(Af kr).1;have u1:=(Af kr).2;have uf:∀ j,wr.frozen? ⟨w.heap.size+1,j,none⟩=false:=fun j=>fH kr j;have vf:∀ j,wr.frozen? ⟨w5.heap.size,j,none⟩=false:=fun j=>fH kp j;have hBr:Below w.heap.size w wr:=hB6.trans (hbr.mono (by omega));have HTP:Hd (Df wr w5.heap.size 26):=⟨_,kp⟩;have HTR:Hd (Df wr (w.heap.size+1) 26):=⟨_,kr⟩;have HO2r:Hd (Eh wr w1.heap.size w5.heap.size (.slice a2 (Bo t ts).length q2) (Bo t ts)):=HO2.o.bl hbr;clear HRI HRL kr kp;go_wp2_with fail;refine bR (v:=.tuple #[.agg #[.slice (some ⟨g,0,none⟩) M.length cp,.slice a2 (Bo t ts).length q2],.int .i64 0]) (by simp[results,Tryz.results12,go_sem,u0,u1]) rfl ⟨((hBr.setCell (p:=⟨w5.heap.size,0,none⟩) (by simp;omega) _).setCell (p:=⟨w.heap.size+1,0,none⟩) hR _).setCell (p:=⟨w.heap.size+1,1,none⟩) hR _,_,_,by rw[HD.o],?_,?_⟩
        ·rw[HPY.o.1];refine Dk.setT (Dk.setT (Dk.setT ?_ HTP.o _) (HTR.o.set _) _) ((HTR.o.set _).set _) _;rw[<- HRE.o];exact Dk.ofV ⟨Bx HO.o (by omega),fun b eb=>by have:=(HO.o.lt b eb).2;simp;omega⟩
        ·rw[HPY.o.2];exact(Eh.setT (Eh.setT (Eh.setT HO2r.o HTP.o _) (HTR.o.set _) _) ((HTR.o.set _).set _) _).wide (by omega) (by simp;omega)
  ·have hnb:=Cz hn;have HD:Hd (Ci ss ts t ok=2):=Mw hc (fun k=>hn k.1);clear hn hc
   go_wp2_with (go_at_call 28;refine(Bn t _ ht).mono ?_;rintro e w9 ⟨rfl,rfl⟩;rw[hnb])
   exact bR (v:=.tuple #[.agg #[.slice none 0 0,.slice none 0 0],.int .i64 2]) (by simp[results,Tryz.results12,go_sem,r0,r1]) rfl ⟨(hB1.setCell (p:=⟨w.heap.size+1,0,none⟩) hR _).setCell (p:=⟨w.heap.size+1,1,none⟩) hR _,Sn.no HD.o (by decide)⟩
 ·have hcb:(Fb ss ts != 0)=true:=by simpa using hc
  have HD:Hd (Ci ss ts t ok=1):=Re hc;clear hc;generalize Fb ss ts=q at *;go_wp2_with fail;exact bR (v:=.tuple #[.agg #[.slice none 0 0,.slice none 0 0],.int .i64 1]) (by simp[results,Tryz.results12,go_sem,r0,r1]) rfl ⟨(hB1.setCell (p:=⟨w.heap.size+1,0,none⟩) hR _).setCell (p:=⟨w.heap.size+1,1,none⟩) hR _,Sn.no HD.o (by decide)⟩
def Iy (l:List TC) (s:TC) (r:Nat):List TC:=l.take r++[s]++l.drop r
def Lm (l:List T2) (s:T2) (r:Nat):List T2:=l.take r++[s]++l.drop r
theorem Xo (l:List TC) (s:TC) (r:Nat):(Iy l s r).map (·.t)=Lm (l.map (·.t)) s.t r:=by simp[Iy,Lm,List.map_take,List.map_drop]
theorem Qh (l:List T2) (s:T2) (r:Nat) (h:r<=l.length):(Lm l s r).length=l.length+1:=by simp[Lm];omega
theorem ApC.symm {a b:TC} (h:ApC a b):ApC b a:=fun k e1 e2=>h k e2 e1
theorem Fx.bl {w w':World} {lo hi:Nat} {l:List TC} (h:Fx w lo hi l) (hb:Below w.heap.size w w'):Fx w' lo hi l:=
 ⟨fun a ha=>by obtain⟨ys,h1,h2⟩:=h.code a ha;exact⟨ys,h1.bl hb,h2⟩,h.apart⟩
theorem Fx.setT {w:World} {b lo hi j:Nat} {l:List TC} (h:Fx w lo hi l) (ht:Df w b 26) (u:Value):Fx (w.setCell ⟨b,j,none⟩ u) lo hi l:=
 ⟨fun a ha=>by obtain⟨ys,k1,k2⟩:=h.code a ha;exact⟨ys,⟨Cx k1.own ht (by decide) u,k1.top⟩,k2⟩,h.apart⟩
theorem Fx.wide {w:World} {lo hi lo' hi':Nat} {l:List TC} (h:Fx w lo hi l) (h1:lo'<=lo) (h2:hi<=hi'):Fx w lo' hi' l:=
 ⟨fun a ha=>by obtain⟨ys,k1,k2⟩:=h.code a ha;exact⟨ys,k1.wide h1 h2,k2⟩,h.apart⟩
theorem Fx.slice {w:World} {lo hi:Nat} {l:List TC} (h:Fx w lo hi l) {a:TC} (ha:a∈l):∃ va vc,a.c=.slice va a.t.code.length vc:=by
 obtain⟨ys,k1,_⟩:=h.code a ha
 exact Qai k1
theorem Fx.ins {w:World} {lo hi:Nat} {l:List TC} (h:Fx w lo hi l) (s:TC) (r:Nat) {ys:List Value} (hs:Gb w lo hi 88 3 s.c s.t.code.length ys) (hf:Hm s.t.code s.t.code.length ys) (ha:∀ a∈l,ApC a s):Fx w lo hi (Iy l s r):=by
 have hmem:∀ a,a∈Iy l s r->a=s\/a∈l:=fun a hm=>by
  unfold Iy at hm;rw[List.mem_append,List.mem_append,List.mem_singleton] at hm
  rcases hm with (hm|hm)|hm
  ·exact Or.inr (List.mem_of_mem_take hm)
  ·exact Or.inl hm
  ·exact Or.inr (List.mem_of_mem_drop hm)
 refine⟨fun a hm=>?_,?_⟩
 ·rcases hmem a hm with rfl|hm
  ·exact⟨ys,hs,hf⟩
  ·exact h.code a hm
 ·have hp:=h.apart;rw[<- List.take_append_drop r l,List.pairwise_append] at hp;obtain⟨p1,p2,p3⟩:=hp;unfold Iy;rw[List.pairwise_append,List.pairwise_append];refine⟨⟨p1,List.pairwise_singleton _ _,fun a h1 b h2=>?_⟩,p2,fun a h1 b h2=>?_⟩
  ·rw[List.mem_singleton] at h2;subst h2;exact ha a (List.mem_of_mem_take h1)
  ·rw[List.mem_append,List.mem_singleton] at h1
   rcases h1 with h1|rfl
   ·exact p3 a h1 b h2
   ·exact(ha b (List.mem_of_mem_drop h2)).symm
theorem Fx.toT {w:World} {lo hi:Nat} {v:Value} {l:List TC} (h:Fx w lo hi l) (hr:Gb w lo hi 83 2 v l.length (Fh l)):Eh w lo hi v (l.map (·.t)):=by
 have hl:(l.map (·.t)).length=l.length:=by simp
 have ht:∀ i (hi:i<l.length),tx (l.map (·.t)) i=l[i].t:=fun i hi=>by rw[Gm (by simpa using hi)];simp
 refine⟨Fh l,fun i=>(l.getD i ⟨⟨ByteArray.empty,[]⟩,.slice none 0 0⟩).c,by rw[hl];exact hr,fun i hi=>?_,fun i hi=>?_,fun i j hij hj=>?_⟩
 ·rw[hl] at hi;obtain⟨a1,a2⟩:=Yn l i hi;rw[ht i hi,a1,a2];simp[gG,hi]
 ·rw[hl] at hi;rw[ht i hi];obtain⟨ys,k1,k2⟩:=h.code l[i] (List.getElem_mem hi);refine⟨ys,?_,k2⟩;simpa [gG,hi] using k1
 ·rw[hl] at hj;have:=List.pairwise_iff_getElem.mp h.apart i j (by omega) hj hij;simpa [gG,hj,show i<l.length by omega,ApC] using this
open Classical in
noncomputable def ptS (ss:List S2) (ts:List T2) (t:ByteArray) (ok:Bool):List S2:=if Ci ss ts t ok=0 then Br t ss else []
open Classical in
noncomputable def Zd (ss:List S2) (ts:List T2) (t:ByteArray) (is:List I3) (ok:Bool):List T2:=if Ci ss ts t ok=0 then Lm (Bo t ts) ⟨t,is⟩ (Hy (Ae (Bo t ts)) t) else []
theorem Tr {ss:List S2} {ts:List T2} {t:ByteArray} {is:List I3} {ok:Bool} (h:Ci ss ts t ok≠0):ptS ss ts t ok=[]/\Zd ss ts t is ok=[]:=by unfold ptS Zd;rw[if_neg h,if_neg h];exact⟨rfl,rfl⟩
theorem Uq {ss:List S2} {ts:List T2} {t:ByteArray} {is:List I3} {ok:Bool} (h:Ci ss ts t ok=0) {r:Nat} (hr:AtR (Ae (Bo t ts)) t r):ptS ss ts t ok=Br t ss/\Zd ss ts t is ok=Lm (Bo t ts) ⟨t,is⟩ r:=by unfold ptS Zd;rw[if_pos h,if_pos h,Wp hr];exact⟨rfl,rfl⟩
theorem insT_mem {l:List T2} {s:T2} {r:Nat} {P:T2->Prop} (h:∀ i,i<l.length->P (tx l i)) (hs:P s):∀ i,i<(Lm l s r).length->P (tx (Lm l s r) i):=by
 intro i hi
 rw[Gm hi]
 have hm:=List.getElem_mem hi
 have hP:∀ a∈l,P a:=fun a ha=>by
  obtain⟨j,hj,e⟩:=List.getElem_of_mem ha;have:=h j hj;rw[Gm hj,e] at this;exact this
 generalize (Lm l s r)[i]=a at hm
 unfold Lm at hm
 rw[List.mem_append,List.mem_append,List.mem_singleton] at hm
 rcases hm with (hm|rfl)|hm
 ·exact hP a (List.mem_of_mem_take hm)
 ·exact hs
 ·exact hP a (List.mem_of_mem_drop hm)
theorem pt_small (ss:List S2) (ts:List T2) (t:ByteArray) (is:List I3) (ok:Bool) (hi:is.length<=1048576):Eg (ptS ss ts t ok) (Zd ss ts t is ok):=by
 by_cases g:Ci ss ts t ok=0
 ·obtain⟨h,_,h3⟩:=Iq g;obtain⟨r,hr⟩:=Hh (ascT t h.a2) t;rw[(Uq (is:=is) g hr).1,(Uq (is:=is) g hr).2];have hl:=Qh (Bo t ts) ⟨t,is⟩ r (by have:=hr.le;rw[Ax] at this;exact this);exact⟨by omega,by omega,insT_mem (P:=fun s=>s.code.length<=1048576) (Xq (P:=fun s=>s.code.length<=1048576) (fun i hi=>(h.codes i hi).2)) hi⟩
 ·rw[(Tr (is:=is) g).1,(Tr (is:=is) g).2];exact⟨by simp,by simp,fun i hi=>by simp at hi⟩
def Sm (lo:Nat) (w:World) (e:Ending) (ss:List S2) (ts:List T2) (t:ByteArray) (is:List I3) (ok:Bool):Prop:=∃ v1 v2,e=.returned (.tuple #[.agg #[v1,v2],.int .i64 (Ci ss ts t ok)])/\Dk w lo w.heap.size v1 (ptS ss ts t ok)/\Eh w lo w.heap.size v2 (Zd ss ts t is ok)
theorem Sm.no {lo:Nat} {w:World} {c:Int} {ss:List S2} {ts:List T2} {t:ByteArray} {is:List I3} {ok:Bool} (h:Ci ss ts t ok=c) (h0:c≠0):Sm lo w (.returned (.tuple #[.agg #[.slice none 0 0,.slice none 0 0],.int .i64 c])) ss ts t is ok:=by
 have h1:Ci ss ts t ok≠0:=by rw[h];exact h0
 refine⟨_,_,by rw[h],?_,?_⟩
 ·rw[(Tr (is:=is) h1).1];exact Dk.nil _ _ _
 ·rw[(Tr (is:=is) h1).2];exact Eh.nil _ _ _
def Jd (L:List TC) (s:TC) (r k:Nat) (M:List TC) (d:Bool):Prop:=(k<=r/\M=L.take k/\d=false)\/(r<k/\M=L.take r++[s]++(L.take k).drop r/\d=true)
theorem Pa {L:List TC} {k:Nat} (h:k<L.length):L.take (k+1)=L.take k++[cx L k]:=by rw[List.take_succ_eq_append_getElem h,Ng h]
theorem Jd.len {L:List TC} {s:TC} {r k:Nat} {M:List TC} {d:Bool} (h:Jd L s r k M d) (hk:k<=L.length):M.length<=k+1:=by
 rcases h with ⟨h1,rfl,_⟩|⟨h1,rfl,_⟩
 ·rw[List.length_take];omega
 ·simp;omega
theorem Jd.before {L:List TC} {s:TC} {r k:Nat} {M:List TC} (h:Jd L s r k M false) (hk:k<L.length) (hr:k<r):Jd L s r (k+1) (M++[cx L k]) false:=by
 rcases h with ⟨h1,rfl,_⟩|⟨_,_,h⟩
 ·exact Or.inl ⟨by omega,(Pa hk).symm,rfl⟩
 ·cases h
theorem Jd.here {L:List TC} {s:TC} {r:Nat} {M:List TC} (h:Jd L s r r M false) (hk:r<L.length):Jd L s r (r+1) (M++[s]++[cx L r]) true:=by
 rcases h with ⟨h1,rfl,_⟩|⟨_,_,h⟩
 ·refine Or.inr ⟨by omega,?_,rfl⟩;rw[Pa hk,List.drop_append_of_le_length (by rw[List.length_take];omega),List.drop_of_length_le (by rw[List.length_take];omega),List.nil_append]
 ·cases h
theorem Jd.past {L:List TC} {s:TC} {r k:Nat} {M:List TC} (h:Jd L s r k M true) (hk:k<L.length):Jd L s r (k+1) (M++[cx L k]) true:=by
 rcases h with ⟨_,_,h⟩|⟨h1,rfl,_⟩
 ·cases h
 ·refine Or.inr ⟨by omega,?_,rfl⟩;rw[Pa hk,List.drop_append_of_le_length (by rw[List.length_take];omega),List.append_assoc (L.take r++[s])]
theorem Jd.done {L:List TC} {s:TC} {r:Nat} {M:List TC} (h:Jd L s r L.length M true):M=Iy L s r:=by
 rcases h with ⟨_,_,h⟩|⟨h1,rfl,_⟩
 ·cases h
 ·rw[List.take_of_length_le (Nat.le_refl _)];rfl
theorem Jd.last {L:List TC} {s:TC} {r:Nat} {M:List TC} (h:Jd L s r L.length M false) (hr:r<=L.length):M++[s]=Iy L s r:=by
 rcases h with ⟨h1,rfl,_⟩|⟨_,_,h⟩
 ·obtain rfl:r=L.length:=by omega
  unfold Iy;rw[List.drop_of_length_le (Nat.le_refl _),List.append_nil]
 ·cases h
theorem tcV_snoc (M:List TC) (s:TC):Fh M++[.string s.t.name,s.c]=Fh (M++[s]):=by rw[Kg,Qaw]
structure LS (w6 w8 wr:World) (g cp:Nat) (M:List TC):Prop where
 own:wr.ownsRow w6.heap.size 83 2 (.slice (some ⟨g,0,none⟩) M.length cp) M.length (Fh M)
 pos:g=w6.heap.size\/w8.heap.size<=g
 keep:KeepO (some w6.heap.size) w8 wr
 size:w8.heap.size<=wr.heap.size
 bl:Below w6.heap.size w6 wr
theorem LS.alloc {w6 w8 wr:World} {g cp:Nat} {M:List TC} (h:LS w6 w8 wr g cp M) (h6:w6.heap.size<=w8.heap.size) (o:Obj):LS w6 w8 (wr.alloc o) g cp M:=
 ⟨h.own.alloc o,h.pos,h.keep.bl h.size ((Below.refl _ _).alloc (Nat.le_refl _) o),by have:=h.size;simp;omega,h.bl.alloc (by have:=h.size;omega) o⟩
theorem LS.app {w6 w8 W w2:World} {g cp g' cp':Nat} {M:List TC} {a:TC} (h:LS w6 w8 W g cp M) (h6:w6.heap.size<=w8.heap.size) (ho:w2.ownsRow w6.heap.size 83 2 (.slice (some ⟨g',0,none⟩) (M.length+1) cp') (M.length+1) (Fh M++[.string a.t.name,a.c])) (hg:W.grownBy w2 (some g)) (hl:some g=some g'\/g'=W.heap.size):LS w6 w8 w2 g' cp' (M++[a]):=by
 have hs:=h.size
 have hp:=h.pos
 have hgl:=(h.own.lt g rfl).1
 refine⟨?_,?_,fun b hb hne=>?_,by have:=hg.size;omega,h.bl.grown hg (by omega) (fun m hm=>by cases hm;exact hgl)⟩
 ·rw[<- tcV_snoc,show (M++[a]).length=M.length+1 by simp];exact ho
 ·rcases hl with e|e
  ·cases e;exact hp
  ·right;omega
 ·have hbn:b≠w6.heap.size:=fun e=>hne (by rw[e]);rw[hg.block b (by omega) (fun e=>by cases e;omega)];exact h.keep b hb hne
theorem LS.cell {w6 w8 wr:World} {g cp:Nat} {M:List TC} (h:LS w6 w8 wr g cp M) {b o:Nat} {v:Value} (hc:w6.cell? ⟨b,o,none⟩=some v):wr.cell? ⟨b,o,none⟩=some v:=Ab h.bl hc
theorem LS.blk {w6 w8 wr:World} {g cp b:Nat} {M:List TC} {o:Obj} (h:LS w6 w8 wr g cp M) (hb:w8.heap[b]?=some o) (hne:b≠w6.heap.size):wr.heap[b]?=some o:=by rw[h.keep b (Cb hb) (fun e=>hne (Option.some.inj e))];exact hb
theorem Yt (sa ta:Option Addr) (c1 c2:Nat) (ss:List S2) (ts:List T2) (t:ByteArray) (a:Option Addr) (cap:Nat) (is:List I3) (w:World) (h:Hp w sa ss ta ts) (hsm:Eg ss ts) (ht:t.size<=9223372036854775807) (hr:Fc w a is) (hl:is.length<=1048576) (hx:∀ i,(ix is i).text.size<=9223372036854775807) :
  Calls Tryz.prog 13 #[.agg #[.slice sa ss.length c1,.slice ta ts.length c2],.string t,.agg #[.slice a is.length cap]] w fun e w'=>Below w.heap.size w w'/\Sm w.heap.size w' e ss ts t is (Al is):=by
 obtain⟨ok,eok⟩:∃ ok,Al is=ok:=⟨_,rfl⟩
 have HOK:Hd (Al is=ok):=eok
 rw[eok]
 clear eok
 obtain⟨i0,hi,hz0,hz1,hz2⟩:=info_parts Tryz.info118b
 have hW0:(((w.alloc (.cells #[.slice sa ss.length c1,.slice ta ts.length c2] 26)).alloc (.cells #[.slice a is.length cap] 31)).alloc (.cells #[.slice none 0 0,.slice none 0 0] 26)).heap[w.heap.size]?=some (.cells #[.slice sa ss.length c1,.slice ta ts.length c2] 26 (0,0)):=by rw[Lib.alloc_old _ _ _ (by simp;omega),Lib.alloc_old _ _ _ (by simp)];exact Ai _ _
 have hW1:(((w.alloc (.cells #[.slice sa ss.length c1,.slice ta ts.length c2] 26)).alloc (.cells #[.slice a is.length cap] 31)).alloc (.cells #[.slice none 0 0,.slice none 0 0] 26)).heap[w.heap.size+1]?=some (.cells #[.slice a is.length cap] 31 (0,0)):=by
  rw[Lib.alloc_old _ _ _ (by simp)];have h:=Ai (w.alloc (.cells #[.slice sa ss.length c1,.slice ta ts.length c2] 26)) (.cells #[.slice a is.length cap] 31);rw[show (w.alloc (.cells #[.slice sa ss.length c1,.slice ta ts.length c2] 26)).heap.size=w.heap.size+1 from by simp] at h;exact h
 have hW2:(((w.alloc (.cells #[.slice sa ss.length c1,.slice ta ts.length c2] 26)).alloc (.cells #[.slice a is.length cap] 31)).alloc (.cells #[.slice none 0 0,.slice none 0 0] 26)).heap[w.heap.size+1+1]?=some (.cells #[.slice none 0 0,.slice none 0 0] 26 (0,0)):=by
  have h:=Ai ((w.alloc (.cells #[.slice sa ss.length c1,.slice ta ts.length c2] 26)).alloc (.cells #[.slice a is.length cap] 31)) (.cells #[.slice none 0 0,.slice none 0 0] 26);rw[show ((w.alloc (.cells #[.slice sa ss.length c1,.slice ta ts.length c2] 26)).alloc (.cells #[.slice a is.length cap] 31)).heap.size=w.heap.size+1+1 from by simp] at h;exact h
 obtain⟨W,eW⟩:∃ y,((w.alloc (.cells #[.slice sa ss.length c1,.slice ta ts.length c2] 26)).alloc (.cells #[.slice a is.length cap] 31)).alloc (.cells #[.slice none 0 0,.slice none 0 0] 26)=y:=⟨_,rfl⟩
 have hB0:Below w.heap.size w W:=by rw[<- eW];exact((aN _ _).alloc (by simp) _).alloc (by simp;omega) _
 have hWs:W.heap.size=w.heap.size+1+1+1:=by rw[<- eW];simp
 rw[eW] at hW0 hW1 hW2
 obtain⟨p0,p1⟩:=Af hW0
 have p2:W.cell? ⟨w.heap.size+1,0,none⟩=some (.slice a is.length cap):=by rw[cH hW1];rfl
 have HW1:Hd (W.heap[w.heap.size+1]?=some (.cells #[.slice a is.length cap] 31 (0,0))):=hW1
 have HW2:Hd (W.heap[w.heap.size+1+1]?=some (.cells #[.slice none 0 0,.slice none 0 0] 26 (0,0))):=hW2
 have HS:Hd (Hp w sa ss ta ts):=h
 have HR:Hd (Fc w a is):=hr
 have HWS:Hd (W.heap.size=w.heap.size+1+1+1):=hWs
 have hWl:w.heap.size+1+1<W.heap.size:=by omega
 clear hW0 hW1 hW2 h hr hWs
 have hR:w.heap.size<=w.heap.size+1+1:=by omega
 go_enter Tryz.func13,Tryz.ntmps13
 go_wp2_with fail
 clear eW
 refine(Hj sa ta c1 c2 ss ts _ (HS.o.bl hB0) hsm).mono ?_
 rintro e w1 ⟨hb1,rfl⟩
 have hB1:=bt hB0 hb1
 replace p0:=Ab hb1 p0
 replace p1:=Ab hb1 p1
 replace p2:=Ab hb1 p2
 have KR1:Hd (w1.heap[w.heap.size+1+1]?=_):=Aa HW2.o hb1
 have KZ1:Hd (w1.heap[w.heap.size+1]?=_):=Aa HW1.o hb1
 obtain⟨r0,r1⟩:=Af KR1.o
 have fr:∀ j,w1.frozen? ⟨w.heap.size+1+1,j,none⟩=false:=fun j=>fH KR1.o j
 clear hb1 HW1 HW2 hB0
 by_cases hc:Fb ss ts=0
 ·have HC:Hd (Ue ss ts):=Qal hc;rw[hc]
  by_cases hn:Ar t
  ·have hnb:=Cs hn
   go_wp2_with (go_at_call 28;refine(Bn t _ ht).mono ?_;rintro e w9 ⟨rfl,rfl⟩;rw[hnb])
   refine(Cr a cap is _ (HR.o.bl hB1) hl hx).mono ?_;rw[HOK.o];rintro e w3 ⟨hb3,rfl⟩;have hB3:=bt hB1 hb3;replace p0:=Ab hb3 p0;replace p1:=Ab hb3 p1;replace p2:=Ab hb3 p2;have KR3:Hd (w3.heap[w.heap.size+1+1]?=_):=Aa KR1.o hb3;have KZ3:Hd (w3.heap[w.heap.size+1]?=_):=Aa KZ1.o hb3;clear r0 r1 fr hb3 KR1 KZ1 hB1;cases ok
   ·have HD:Hd (Ci ss ts t false=2):=Mw hc (fun k=>by cases k.2);obtain⟨r0,r1⟩:=Af KR3.o;have fr:∀ j,w3.frozen? ⟨w.heap.size+1+1,j,none⟩=false:=fun j=>fH KR3.o j;clear hn hc;go_wp2_with fail;exact bR (v:=.tuple #[.agg #[.slice none 0 0,.slice none 0 0],.int .i64 2]) (by simp[results,Tryz.results13,go_sem,r0,r1]) rfl ⟨(hB3.setCell (p:=⟨w.heap.size+1+1,0,none⟩) hR _).setCell (p:=⟨w.heap.size+1+1,1,none⟩) hR _,Sm.no HD.o (by decide)⟩
   ·go_wp2_with fail;refine(Ml sa ta c1 c2 ss ts t _ (HS.o.rs.bl hB3) (HS.o.rt.bl hB3) (by have:=HC.o.len;omega) (by have:=HC.o.len;omega) HC.o.codes).mono ?_;rintro e w5 ⟨hb5,v1,v2,rfl,o1,o2⟩;have hB5:=bt hB3 hb5;have hz:w.heap.size+1+1<w3.heap.size:=Cb KR3.o;have hz5:w3.heap.size<=w5.heap.size:=hb5.size;obtain⟨a1,q1,rfl,_⟩:=o1.sl;obtain⟨a2,q2,rfl,_⟩:=o2.sl;obtain⟨w6,e6⟩:∃ y,w5.alloc (.cells #[.slice a1 (Br t ss).length q1,.slice a2 (Bo t ts).length q2] 26)=y:=⟨_,rfl⟩;(have hb6:Below w5.heap.size w5 w6:=by rw[<- e6];exact aN _ _);have hB6:=bt hB5 hb6;have KR6:Hd (w6.heap[w.heap.size+1+1]?=_):=Aa (Aa KR3.o hb5) hb6;have KZ6:Hd (w6.heap[w.heap.size+1]?=_):=Aa (Aa KZ3.o hb5) hb6;(have HP6:Hd (w6.heap[w5.heap.size]?=some (.cells #[.slice a1 (Br t ss).length q1,.slice a2 (Bo t ts).length q2] 26 (0,0))):=by show _=_;rw[<- e6];exact Ai _ _);have hs6:w5.heap.size<w6.heap.size:=Cb HP6.o;obtain⟨s0,s1⟩:=Af KR6.o;have fs:∀ j,w6.frozen? ⟨w.heap.size+1+1,j,none⟩=false:=fun j=>fH KR6.o j;obtain⟨x0,x1⟩:=Af HP6.o;(have y2:w6.cell? ⟨w.heap.size+1,0,none⟩=some (.slice a is.length cap):=by rw[cH KZ6.o];rfl);have HO1:Hd (Dk w6 w3.heap.size w5.heap.size (.slice a1 (Br t ss).length q1) (Br t ss)):=o1.bl hb6;have HO2:Hd (Eh w6 w3.heap.size w5.heap.size (.slice a2 (Bo t ts).length q2) (Bo t ts)):=o2.bl hb6;have HDY:Hd (¬ 200<=(Br t ss).length+(Bo t ts).length->Ci ss ts t true=0):=roomC0 hc ⟨hn,rfl⟩;have HDN:Hd (200<=(Br t ss).length+(Bo t ts).length->Ci ss ts t true=3):=Za hc ⟨hn,rfl⟩;(have hl1:(Br t ss).length<=200:=by have h1:=Lo t ss;have h2:=HC.o.len;omega);(have hl2:(Bo t ts).length<=200:=by have h1:=Ln t ts;have h2:=HC.o.len;omega);have HAS:Hd (Eu (Ae (Bo t ts))):=ascT t HC.o.a2
    have hil:1<=is.length:=by
     have hp:=HOK.o;unfold Al at hp;simp only[Bool.and_eq_true,decide_eq_true_eq] at hp;exact hp.1.1
    clear o1 o2 hb5 hb6 p0 p1 p2 hc hn hB5 KR3 KZ3 hB3
    by_cases hf:200<=(Br t ss).length+(Bo t ts).length
    ·have HD:Hd (Ci ss ts t true=3):=HDN.o hf;(have heq:decide ((200:Int)<=((Br t ss).length:Int)+((Bo t ts).length:Int))=true:=by simp;omega);generalize (Br t ss).length=n1 at *;generalize (Bo t ts).length=n2 at *;go_wp2_with fail;exact bR (v:=.tuple #[.agg #[.slice none 0 0,.slice none 0 0],.int .i64 3]) (by simp[results,Tryz.results13,go_sem,s0,s1]) rfl ⟨(hB6.setCell (p:=⟨w.heap.size+1+1,0,none⟩) hR _).setCell (p:=⟨w.heap.size+1+1,1,none⟩) hR _,Sm.no HD.o (by decide)⟩
    ·have HD:Hd (Ci ss ts t true=0):=HDY.o hf;(have heq:decide ((200:Int)<=((Br t ss).length:Int)+((Bo t ts).length:Int))=false:=by simp;omega);obtain⟨r,hat⟩:=Hh HAS.o t;(have hrl:r<=(Bo t ts).length:=by have:=hat.le;rw[Ax] at this;exact this);obtain⟨l,hlm,hlr,hlc⟩:=HO2.o.toC;have hln:l.length=(Bo t ts).length:=by rw[<- hlm];simp
     have hnm:∀ k,k<l.length->(tx (Bo t ts) k).name=(cx l k).t.name:=fun k hk=>by
      rw[Gm (by omega),Ng hk];simp[<- hlm]
     have HCB:Hd (∀ k,k<r->Op.bytesLess (cx l k).t.name.toList t.toList=true):=fun k hk=>by
      have h1:=hat.lo k hk;rw[Cu,hnm k (by omega)] at h1;exact h1
     have HCA:Hd (∀ k,r<=k->k<l.length->Op.bytesLess (cx l k).t.name.toList t.toList=false/\((cx l k).t.name.toList == t.toList)=false):=fun k hk1 hk2=>by
      have h1:=hat.hi k hk1 (by rw[Ax];omega);rw[Cu,hnm k hk2] at h1;refine⟨h1,?_⟩;rw[beq_eq_false_iff_ne];intro e;rw[ByteArray.toList_eq,ByteArray.toList_eq] at e;have h3:=fltT_ne t ts (i:=k) (by omega);rw[hnm k hk2] at h3;exact h3 (WideShapes.bytes_inj e)
     have HPY:Hd (ptS ss ts t true=Br t ss/\Zd ss ts t is true=Lm (Bo t ts) ⟨t,is⟩ r):=Uq HD.o hat;have HLM:Hd (l.map (·.t)=Bo t ts):=hlm;have HLN:Hd (l.length=(Bo t ts).length):=hln;have HLC:Hd (Fx w6 w3.heap.size w5.heap.size l):=hlc;have HLV:Hd (Gb w6 w3.heap.size w5.heap.size 83 2 (.slice a2 (Bo t ts).length q2) (Bo t ts).length (Fh l)):=hlr;(have HLP:Hd ((Br t ss).length+(Bo t ts).length<200):=by show _<_;omega);clear hat hlm hlr hlc hnm hf;obtain⟨n2,en2⟩:∃ n2,(Bo t ts).length=n2:=⟨_,rfl⟩;have HEN:Hd ((Bo t ts).length=n2):=en2;rw[en2] at hln hrl hl2 heq HLV x1 HP6 HLN HLP HO2 e6;clear en2 HDY HDN;obtain⟨n1,en1⟩:∃ n1,(Br t ss).length=n1:=⟨_,rfl⟩;have HEN1:Hd ((Br t ss).length=n1):=en1;rw[en1] at hl1 heq x0 HP6 HLP HO1 e6;clear en1;obtain⟨w7,e7⟩:∃ y,w6.alloc (.cells #[] 83)=y:=⟨_,rfl⟩;have hb7:Below w6.heap.size w6 w7:=by rw[<- e7];exact aN _ _
     have HO7:Hd (w7.ownsRow w6.heap.size 83 2 (.slice (some ⟨w6.heap.size,0,none⟩) 0 0) 0 []):=by
      show World.ownsRow _ _ _ _ _ _ _;rw[<- e7];exact World.ownsRow_lit (base:=w6.heap.size) (e:=83) (size:=2) w6 #[] 0 (Nat.le_refl _) (by unfold maxLen;omega) (by simp)
     have y7:=Ab hb7 y2;rw[HEN.o,HEN1.o];go_wp2_with fail;clear e7 heq x0 x1 s0 s1 fs y2;refine(Mm a cap is w7 (HR.o.bl (bt hB6 hb7)) hil hl).mono ?_;rintro e wx ⟨hbx,gc,cpc,rfl,hoc⟩;have hs7:w6.heap.size<w7.heap.size:=(HO7.o.lt _ rfl).2;have hsx:w7.heap.size<=wx.heap.size:=hbx.size;obtain⟨w8,e8⟩:∃ y,wx.alloc (.cells #[.string t,.slice (some ⟨gc,0,none⟩) is.length cpc] 83)=y:=⟨_,rfl⟩;(have hbx8:Below wx.heap.size wx w8:=by rw[<- e8];exact aN _ _);(have HQ8:Hd (w8.heap[wx.heap.size]?=some (.cells #[.string t,.slice (some ⟨gc,0,none⟩) is.length cpc] 83 (0,0))):=by show _=_;rw[<- e8];exact Ai _ _);have hs8:wx.heap.size<w8.heap.size:=Cb HQ8.o;have hb78:Below w7.heap.size w7 w8:=bt hbx hbx8;have HOC:Hd (w8.ownsRow w7.heap.size 88 3 (.slice (some ⟨gc,0,none⟩) is.length cpc) is.length (Jt is)):=Ad hoc hbx8;have HL0:Hd (LS w6 w8 w8 w6.heap.size 0 []):=⟨Ad HO7.o hb78,Or.inl rfl,fun _ _ _=>rfl,Nat.le_refl _,hb7.trans (hb78.mono (by omega))⟩;(have h68:w6.heap.size<=w8.heap.size:=by omega);clear hoc hbx hbx8 hb78 hb7 HO7 y7;go_wp2_with fail;clear e8
     go_loopw [9,10,12] (fun lv dn i wr=>∃(k:Nat) (M:List TC) (g cp:Nat) (d:Bool),k<=l.length/\lv=.slice (some ⟨g,0,none⟩) M.length cp/\dn=.bool d/\i=.int .i64 k/\Hd (LS w6 w8 wr g cp M)/\Hd (Jd l ⟨⟨t,is⟩,.slice (some ⟨gc,0,none⟩) is.length cpc⟩ r k M d)) (fun _ _ i _=>l.length-(intOf i).toNat)
     case atStart=>exact⟨0,[],_,0,false,Nat.zero_le _,rfl,rfl,rfl,HL0.o,(Or.inl ⟨Nat.zero_le _,rfl,rfl⟩:Jd l ⟨⟨t,is⟩,.slice (some ⟨gc,0,none⟩) is.length cpc⟩ r 0 [] false)⟩
     case round=>
      obtain⟨k,M,g,cp,d,hk,rfl,rfl,rfl,HL,HM⟩:=hrel;clear HL0;have hwr:w8.heap.size<=wr.heap.size:=HL.o.size;obtain⟨z0,z1⟩:=Af (Aa HP6.o HL.o.bl);have hml:=HM.o.len hk;have HQr:Hd (wr.heap[wx.heap.size]?=_):=HL.o.blk HQ8.o (by omega);obtain⟨o0,o1⟩:=Af HQr.o
      by_cases hlt:k<l.length
      ·obtain⟨gv,e2⟩:∃ gv,a2=some ⟨gv,0,none⟩:=by
        rcases Na HLV.o.own with ⟨h1,h2⟩|⟨g',c',h1⟩
        ·omega
        ·cases h1;exact⟨g',rfl⟩
       subst e2;have hgv:gv<w5.heap.size:=HLV.o.top gv rfl;obtain⟨t1,t2⟩:=Yn l k hlt;rw[<- Ng hlt] at t1 t2;obtain⟨va,vc,ev⟩:=HLC.o.slice (a:=cx l k) (by rw[Ng hlt];exact List.getElem_mem hlt);(have y1:w6.cell? ⟨gv,k*2,none⟩=some (.string (cx l k).t.name):=by rw[HLV.o.own.cellAt _ (by omega)];exact t1);(have y2:w6.cell? ⟨gv,k*2+1,none⟩=some (.slice va (cx l k).t.code.length vc):=by rw[HLV.o.own.cellAt _ (by omega),t2,ev]);have d1:=HL.o.cell y1;have d2:=HL.o.cell y2;(have hkI:(k:Int)<(n2:Int):=by omega);(have hk0:(0:Int)<=(k:Int):=by omega);(have HNB:Hd (∀ hr:k<r,d=false->Jd l ⟨⟨t,is⟩,.slice (some ⟨gc,0,none⟩) is.length cpc⟩ r (k+1) (M++[cx l k]) false):=fun hr hd=>by subst hd;exact HM.o.before hlt hr);(have HNH:Hd (∀ hr:k=r,d=false->Jd l ⟨⟨t,is⟩,.slice (some ⟨gc,0,none⟩) is.length cpc⟩ r (k+1) (M++[⟨⟨t,is⟩,.slice (some ⟨gc,0,none⟩) is.length cpc⟩]++[cx l k]) true):=fun hr hd=>by subst hd;subst hr;exact HM.o.here hlt);have HNP:Hd (d=true->Jd l ⟨⟨t,is⟩,.slice (some ⟨gc,0,none⟩) is.length cpc⟩ r (k+1) (M++[cx l k]) true):=fun hd=>by subst hd;exact HM.o.past hlt
       have HRK:Hd (d=false->k<=r):=fun hd=>by
        rcases HM.o with ⟨h1,_,_⟩|⟨_,_,h1⟩
        ·exact h1
        ·rw[hd] at h1;cases h1
       have HV1:Hd (k<r->Op.bytesLess (cx l k).t.name.toList t.toList=true):=HCB.o k;have HV2:Hd (r<=k->Op.bytesLess (cx l k).t.name.toList t.toList=false/\((cx l k).t.name.toList == t.toList)=false):=fun h=>HCA.o k h hlt;obtain⟨s,es⟩:∃ s,cx l k=s:=⟨_,rfl⟩;rw[es] at d1 d2 HNB HNH HNP HV1 HV2 ev y1 y2;have HY:Hd (w6.cell? ⟨gv,k*2,none⟩=some (.string s.t.name)/\w6.cell? ⟨gv,k*2+1,none⟩=some (.slice va s.t.code.length vc)/\w6.cell? ⟨w5.heap.size,1,none⟩=some (.slice (some ⟨gv,0,none⟩) n2 q2)):=⟨y1,y2,(Af HP6.o).2⟩;have EV:Hd (s.c=.slice va s.t.code.length vc):=ev;clear es y1 y2 HM t1 t2 ev;cases d
       ·rcases Nat.lt_or_ge k r with hkr|hkr
        ·have hv:=HV1.o hkr;have HMN:Hd (Jd l ⟨⟨t,is⟩,.slice (some ⟨gc,0,none⟩) is.length cpc⟩ r (k+1) (M++[s]) false):=HNB.o hkr rfl;clear HV1 HV2 HNB HNH HNP;obtain⟨wA,eA⟩:∃ y,wr.alloc (.cells #[.string s.t.name,.slice va s.t.code.length vc] 83)=y:=⟨_,rfl⟩;(have HLA:Hd (LS w6 w8 wA g cp M):=by show LS _ _ _ _ _ _;rw[<- eA];exact HL.o.alloc h68 _);(have HNA:Hd (wA.heap[wr.heap.size]?=some (.cells #[.string s.t.name,.slice va s.t.code.length vc] 83 (0,0))):=by show _=_;rw[<- eA];exact Ai _ _);have hsA:wr.heap.size<wA.heap.size:=Cb HNA.o
         go_wp2_with (first|(at_builtin;refine wpList_append_lies _ rfl (.tmp 66) (.tmp 72) 24 rfl w6.heap.size 83 i0 (.agg #[.string ⟨#[]⟩,.slice none 0 0]) 2 40 Tryz.underlying24 hi hz0 hz1 hz2 rfl (by decide) _ _ _ rfl HLA.o.own ⟨wr.heap.size,0,none⟩ 1 1 [.string s.t.name,.slice va s.t.code.length vc] rfl rfl (World.news_of_block (cs:=#[.string s.t.name,.slice va s.t.code.length vc]) (t:=83) (fr:=(0,0)) HNA.o) (by intro u hu;simp at hu;rcases hu with rfl|rfl<;>rfl) (by omega) (by unfold maxLen;omega) (by omega) (by omega) _ rfl ?_;intro g' cp' w2 hown' hgrow hlie hlt';rw[<- EV.o] at hown';have HL2:Hd (LS w6 w8 w2 g' cp' (M++[s])):=HLA.o.app h68 hown' hgrow hlie;clear hown' hgrow hlie hlt'))
         clear eA;exact⟨⟨k+1,M++[s],g',cp',false,by omega,by rw[List.length_append];rfl,rfl,by go_num,HL2.o,HMN.o⟩,by simp[intOf];omega⟩
        ·(have hkr':k=r:=by have:=HRK.o rfl;omega);obtain⟨hv,hv2⟩:=HV2.o hkr;have HMN:Hd (Jd l ⟨⟨t,is⟩,.slice (some ⟨gc,0,none⟩) is.length cpc⟩ r (k+1) (M++[⟨⟨t,is⟩,.slice (some ⟨gc,0,none⟩) is.length cpc⟩]++[s]) true):=HNH.o hkr' rfl;clear HV1 HV2 HNB HNH HNP hkr';obtain⟨wC,eC⟩:∃ y,wr.alloc (.cells #[.string t,.slice (some ⟨gc,0,none⟩) is.length cpc] 83)=y:=⟨_,rfl⟩;(have HLA:Hd (LS w6 w8 wC g cp M):=by show LS _ _ _ _ _ _;rw[<- eC];exact HL.o.alloc h68 _);(have HNA:Hd (wC.heap[wr.heap.size]?=some (.cells #[.string t,.slice (some ⟨gc,0,none⟩) is.length cpc] 83 (0,0))):=by show _=_;rw[<- eC];exact Ai _ _);have hsA:wr.heap.size<wC.heap.size:=Cb HNA.o
         go_wp2_with (first|(at_builtin;refine wpList_append_lies _ rfl (.tmp 62) (.tmp 64) 24 rfl w6.heap.size 83 i0 (.agg #[.string ⟨#[]⟩,.slice none 0 0]) 2 40 Tryz.underlying24 hi hz0 hz1 hz2 rfl (by decide) _ _ _ rfl HLA.o.own ⟨wr.heap.size,0,none⟩ 1 1 [.string t,.slice (some ⟨gc,0,none⟩) is.length cpc] rfl rfl (World.news_of_block (cs:=#[.string t,.slice (some ⟨gc,0,none⟩) is.length cpc]) (t:=83) (fr:=(0,0)) HNA.o) (by intro u hu;simp at hu;rcases hu with rfl|rfl<;>rfl) (by omega) (by unfold maxLen;omega) (by omega) (by omega) _ rfl ?_;intro g' cp' w2 hown' hgrow hlie hlt';have HL2:Hd (LS w6 w8 w2 g' cp' (M++[(⟨⟨t,is⟩,.slice (some ⟨gc,0,none⟩) is.length cpc⟩:TC)])):=HLA.o.app (a:=⟨⟨t,is⟩,.slice (some ⟨gc,0,none⟩) is.length cpc⟩) h68 hown' hgrow hlie;have hs2:=HL2.o.size;have m0:=HL2.o.cell HY.o.2.2;have m1:=HL2.o.cell HY.o.1;have m2:=HL2.o.cell HY.o.2.1;clear eC;obtain⟨wE,eE⟩:∃ y,w2.alloc (.cells #[.string s.t.name,.slice va s.t.code.length vc] 83)=y:=⟨_,rfl⟩;have HLE2:Hd (LS w6 w8 wE g' cp' (M++[(⟨⟨t,is⟩,.slice (some ⟨gc,0,none⟩) is.length cpc⟩:TC)])):=(by show LS _ _ _ _ _ _;rw[<- eE];exact HL2.o.alloc h68 _);have HOE:Hd (wE.ownsRow w6.heap.size 83 2 (.slice (some ⟨g',0,none⟩) (M.length+1) cp') (M.length+1) (Fh (M++[(⟨⟨t,is⟩,.slice (some ⟨gc,0,none⟩) is.length cpc⟩:TC)]))):=(by have hq:=HLE2.o.own;rw[show (M++[(⟨⟨t,is⟩,.slice (some ⟨gc,0,none⟩) is.length cpc⟩:TC)]).length=M.length+1 by simp] at hq;exact hq);have HNE:Hd (wE.heap[w2.heap.size]?=some (.cells #[.string s.t.name,.slice va s.t.code.length vc] 83 (0,0))):=(by show _=_;rw[<- eE];exact Ai _ _);have hsE:w2.heap.size<wE.heap.size:=Cb HNE.o;clear hown' hgrow hlie hlt')|(at_builtin;refine wpList_append_lies _ rfl (.tmp 66) (.tmp 72) 24 rfl w6.heap.size 83 i0 (.agg #[.string ⟨#[]⟩,.slice none 0 0]) 2 40 Tryz.underlying24 hi hz0 hz1 hz2 rfl (by decide) _ _ _ rfl HOE.o ⟨w2.heap.size,0,none⟩ 1 1 [.string s.t.name,.slice va s.t.code.length vc] rfl rfl (World.news_of_block (cs:=#[.string s.t.name,.slice va s.t.code.length vc]) (t:=83) (fr:=(0,0)) HNE.o) (by intro u hu;simp at hu;rcases hu with rfl|rfl<;>rfl) (by omega) (by unfold maxLen;omega) (by omega) (by omega) _ rfl ?_;intro g3 cp3 w3' hown3 hgrow3 hlie3 hlt3;clear eE;rw[<- EV.o] at hown3;have HL3:Hd (LS w6 w8 w3' g3 cp3 (M++[(⟨⟨t,is⟩,.slice (some ⟨gc,0,none⟩) is.length cpc⟩:TC)]++[s])):=HLE2.o.app h68 (by rw[show (M++[(⟨⟨t,is⟩,.slice (some ⟨gc,0,none⟩) is.length cpc⟩:TC)]).length=M.length+1 by simp];exact hown3) hgrow3 hlie3;clear hown3 hgrow3 hlie3 hlt3))
         exact⟨⟨k+1,M++[(⟨⟨t,is⟩,.slice (some ⟨gc,0,none⟩) is.length cpc⟩:TC)]++[s],g3,cp3,true,by omega,by rw[List.length_append,List.length_append];rfl,rfl,by go_num,HL3.o,HMN.o⟩,by simp[intOf];omega⟩
       ·have HMN:Hd (Jd l ⟨⟨t,is⟩,.slice (some ⟨gc,0,none⟩) is.length cpc⟩ r (k+1) (M++[s]) true):=HNP.o rfl;clear HV1 HV2 HNB HNH HNP;obtain⟨wA,eA⟩:∃ y,wr.alloc (.cells #[.string s.t.name,.slice va s.t.code.length vc] 83)=y:=⟨_,rfl⟩;(have HLA:Hd (LS w6 w8 wA g cp M):=by show LS _ _ _ _ _ _;rw[<- eA];exact HL.o.alloc h68 _);(have HNA:Hd (wA.heap[wr.heap.size]?=some (.cells #[.string s.t.name,.slice va s.t.code.length vc] 83 (0,0))):=by show _=_;rw[<- eA];exact Ai _ _);have hsA:wr.heap.size<wA.heap.size:=Cb HNA.o
        go_wp2_with (first|(at_builtin;refine wpList_append_lies _ rfl (.tmp 66) (.tmp 72) 24 rfl w6.heap.size 83 i0 (.agg #[.string ⟨#[]⟩,.slice none 0 0]) 2 40 Tryz.underlying24 hi hz0 hz1 hz2 rfl (by decide) _ _ _ rfl HLA.o.own ⟨wr.heap.size,0,none⟩ 1 1 [.string s.t.name,.slice va s.t.code.length vc] rfl rfl (World.news_of_block (cs:=#[.string s.t.name,.slice va s.t.code.length vc]) (t:=83) (fr:=(0,0)) HNA.o) (by intro u hu;simp at hu;rcases hu with rfl|rfl<;>rfl) (by omega) (by unfold maxLen;omega) (by omega) (by omega) _ rfl ?_;intro g' cp' w2 hown' hgrow hlie hlt';rw[<- EV.o] at hown';have HL2:Hd (LS w6 w8 w2 g' cp' (M++[s])):=HLA.o.app h68 hown' hgrow hlie;clear hown' hgrow hlie hlt'))
        clear eA;exact⟨⟨k+1,M++[s],g',cp',true,by omega,by rw[List.length_append];rfl,rfl,by go_num,HL2.o,HMN.o⟩,by simp[intOf];omega⟩
      ·(have ek:k=l.length:=by omega);subst ek;(have HRI:Hd (d=true->M=Iy l ⟨⟨t,is⟩,.slice (some ⟨gc,0,none⟩) is.length cpc⟩ r):=fun hd=>by subst hd;exact HM.o.done);(have HRL:Hd (d=false->M++[⟨⟨t,is⟩,.slice (some ⟨gc,0,none⟩) is.length cpc⟩]=Iy l ⟨⟨t,is⟩,.slice (some ⟨gc,0,none⟩) is.length cpc⟩ r):=fun hd=>by subst hd;exact HM.o.last (by omega));(have hkI:¬ ((l.length:Int)<(n2:Int)):=by omega);clear HM
       have HFIN:Hd (∀(W2:World) (g2 cp2:Nat),LS w6 w8 W2 g2 cp2 (Iy l ⟨⟨t,is⟩,.slice (some ⟨gc,0,none⟩) is.length cpc⟩ r)->Fx W2 w3.heap.size W2.heap.size (Iy l ⟨⟨t,is⟩,.slice (some ⟨gc,0,none⟩) is.length cpc⟩ r)):=fun W2 g2 cp2 hL2=>by
        have hs2:=hL2.size;refine((HLC.o.bl hL2.bl).wide (Nat.le_refl _) (by omega)).ins ⟨⟨t,is⟩,.slice (some ⟨gc,0,none⟩) is.length cpc⟩ r (ys:=Jt is) ?_ (Ll is) (fun b hb k e1 e3=>?_)
        ·refine⟨Bx (Co HOC.o (fun b eb=>hL2.keep b (HOC.o.lt b eb).2 (fun e'=>by have:=(HOC.o.lt b eb).1;cases e';omega))) (by omega),fun b eb=>by have:=(HOC.o.lt b eb).2;omega⟩
        ·obtain⟨ys,k1,_⟩:=HLC.o.code b hb;have:=k1.top k e1;have:=(HOC.o.lt k e3).1;omega
       cases d
       ·have HRE:Hd (M++[⟨⟨t,is⟩,.slice (some ⟨gc,0,none⟩) is.length cpc⟩]=Iy l ⟨⟨t,is⟩,.slice (some ⟨gc,0,none⟩) is.length cpc⟩ r):=HRL.o rfl;clear HRI HRL;obtain⟨wC,eC⟩:∃ y,wr.alloc (.cells #[.string t,.slice (some ⟨gc,0,none⟩) is.length cpc] 83)=y:=⟨_,rfl⟩;(have HLA:Hd (LS w6 w8 wC g cp M):=by show LS _ _ _ _ _ _;rw[<- eC];exact HL.o.alloc h68 _);(have HNA:Hd (wC.heap[wr.heap.size]?=some (.cells #[.string t,.slice (some ⟨gc,0,none⟩) is.length cpc] 83 (0,0))):=by show _=_;rw[<- eC];exact Ai _ _);have hsA:wr.heap.size<wC.heap.size:=Cb HNA.o
        go_wp2_with (first|(at_builtin;refine wpList_append_lies _ rfl (.tmp 76) (.tmp 78) 24 rfl w6.heap.size 83 i0 (.agg #[.string ⟨#[]⟩,.slice none 0 0]) 2 40 Tryz.underlying24 hi hz0 hz1 hz2 rfl (by decide) _ _ _ rfl HLA.o.own ⟨wr.heap.size,0,none⟩ 1 1 [.string t,.slice (some ⟨gc,0,none⟩) is.length cpc] rfl rfl (World.news_of_block (cs:=#[.string t,.slice (some ⟨gc,0,none⟩) is.length cpc]) (t:=83) (fr:=(0,0)) HNA.o) (by intro u hu;simp at hu;rcases hu with rfl|rfl<;>rfl) (by omega) (by unfold maxLen;omega) (by omega) (by omega) _ rfl ?_;intro g' cp' w2 hown' hgrow hlie hlt';have HL2a:Hd (LS w6 w8 w2 g' cp' (M++[(⟨⟨t,is⟩,.slice (some ⟨gc,0,none⟩) is.length cpc⟩:TC)])):=HLA.o.app (a:=⟨⟨t,is⟩,.slice (some ⟨gc,0,none⟩) is.length cpc⟩) h68 hown' hgrow hlie;have HL2:Hd (LS w6 w8 w2 g' cp' (Iy l ⟨⟨t,is⟩,.slice (some ⟨gc,0,none⟩) is.length cpc⟩ r)):=(by show LS _ _ _ _ _ _;rw[<- HRE.o];exact HL2a.o);have HLE:Hd (M.length+1=(Iy l ⟨⟨t,is⟩,.slice (some ⟨gc,0,none⟩) is.length cpc⟩ r).length):=(by show _=_;rw[<- HRE.o];simp);clear hown' hgrow hlie hlt' eC HL2a;have kr:=Aa KR6.o HL2.o.bl;have kp:=Aa HP6.o HL2.o.bl;have u0:=(Af kr).1;have u1:=(Af kr).2;have k0:=(Af kp).1;have k1:=(Af kp).2;have uf:∀ j,w2.frozen? ⟨w.heap.size+1+1,j,none⟩=false:=(fun j=>fH kr j);have vf:∀ j,w2.frozen? ⟨w5.heap.size,j,none⟩=false:=(fun j=>fH kp j);have hBr:Below w.heap.size w w2:=hB6.trans (HL2.o.bl.mono (by omega));have HTP:Hd (Df w2 w5.heap.size 26):=⟨_,kp⟩;have HTR:Hd (Df w2 (w.heap.size+1+1) 26):=⟨_,kr⟩;have HO1r:Hd (Dk w2 w3.heap.size w5.heap.size (.slice a1 n1 q1) (Br t ss)):=HO1.o.bl HL2.o.bl;have HCO:Hd (Fx w2 w3.heap.size w2.heap.size (Iy l ⟨⟨t,is⟩,.slice (some ⟨gc,0,none⟩) is.length cpc⟩ r)):=HFIN.o w2 _ _ HL2.o;have hs2:=HL2.o.size;clear kr kp))
        refine bR (v:=.tuple #[.agg #[.slice a1 n1 q1,.slice (some ⟨g',0,none⟩) (M.length+1) cp'],.int .i64 0]) (by simp[results,Tryz.results13,go_sem,u0,u1]) rfl ⟨((hBr.setCell (p:=⟨w5.heap.size,1,none⟩) (by simp;omega) _).setCell (p:=⟨w.heap.size+1+1,0,none⟩) hR _).setCell (p:=⟨w.heap.size+1+1,1,none⟩) hR _,_,_,by rw[HD.o],?_,?_⟩
        ·rw[HPY.o.1];refine(Dk.setT (Dk.setT (Dk.setT HO1r.o HTP.o _) (HTR.o.set _) _) ((HTR.o.set _).set _) _).wide (by omega) ?_;simp;omega
        ·rw[HPY.o.2];have hco:=(((HCO.o.setT (j:=1) HTP.o (.slice (some ⟨g',0,none⟩) (M.length+1) cp')).setT (j:=0) (HTR.o.set _) (.slice a1 n1 q1)).setT (j:=1) ((HTR.o.set _).set _) (.slice (some ⟨g',0,none⟩) (M.length+1) cp')).wide (lo':=w.heap.size) (hi':=w2.heap.size) (by omega) (Nat.le_refl _);have hrw:=Cx (j:=1) (Cx (j:=0) (Cx (j:=1) (Bx (B':=w.heap.size) HL2.o.own (by omega)) HTP.o (by decide) (.slice (some ⟨g',0,none⟩) (M.length+1) cp')) (HTR.o.set _) (by decide) (.slice a1 n1 q1)) ((HTR.o.set _).set _) (by decide) (.slice (some ⟨g',0,none⟩) (M.length+1) cp');have hT9:=hco.toT (v:=.slice (some ⟨g',0,none⟩) (Iy l ⟨⟨t,is⟩,.slice (some ⟨gc,0,none⟩) is.length cpc⟩ r).length cp') ⟨hrw,fun b eb=>by have:=(HL2.o.own.lt b eb).2;omega⟩;rw[Xo,HLM.o,<- HLE.o] at hT9;refine hT9.wide (Nat.le_refl _) ?_;simp
       ·have HRE:Hd (M=Iy l ⟨⟨t,is⟩,.slice (some ⟨gc,0,none⟩) is.length cpc⟩ r):=HRI.o rfl;(have HL2:Hd (LS w6 w8 wr g cp (Iy l ⟨⟨t,is⟩,.slice (some ⟨gc,0,none⟩) is.length cpc⟩ r)):=by show LS _ _ _ _ _ _;rw[<- HRE.o];exact HL.o);(have HLE:Hd (M.length=(Iy l ⟨⟨t,is⟩,.slice (some ⟨gc,0,none⟩) is.length cpc⟩ r).length):=by show _=_;rw[<- HRE.o]);clear HRI HRL z0 z1;have kr:=Aa KR6.o HL2.o.bl;have kp:=Aa HP6.o HL2.o.bl;have u0:=(Af kr).1;have u1:=(Af kr).2;have k0:=(Af kp).1;have k1:=(Af kp).2;have uf:∀ j,wr.frozen? ⟨w.heap.size+1+1,j,none⟩=false:=(fun j=>fH kr j);have vf:∀ j,wr.frozen? ⟨w5.heap.size,j,none⟩=false:=(fun j=>fH kp j);have hBr:Below w.heap.size w wr:=hB6.trans (HL2.o.bl.mono (by omega));have HTP:Hd (Df wr w5.heap.size 26):=⟨_,kp⟩;have HTR:Hd (Df wr (w.heap.size+1+1) 26):=⟨_,kr⟩;have HO1r:Hd (Dk wr w3.heap.size w5.heap.size (.slice a1 n1 q1) (Br t ss)):=HO1.o.bl HL2.o.bl;have HCO:Hd (Fx wr w3.heap.size wr.heap.size (Iy l ⟨⟨t,is⟩,.slice (some ⟨gc,0,none⟩) is.length cpc⟩ r)):=HFIN.o wr _ _ HL2.o;have hs2:=HL2.o.size;clear kr kp;go_wp2_with fail;refine bR (v:=.tuple #[.agg #[.slice a1 n1 q1,.slice (some ⟨g,0,none⟩) M.length cp],.int .i64 0]) (by simp[results,Tryz.results13,go_sem,u0,u1]) rfl ⟨((hBr.setCell (p:=⟨w5.heap.size,1,none⟩) (by simp;omega) _).setCell (p:=⟨w.heap.size+1+1,0,none⟩) hR _).setCell (p:=⟨w.heap.size+1+1,1,none⟩) hR _,_,_,by rw[HD.o],?_,?_⟩
        ·rw[HPY.o.1];refine(Dk.setT (Dk.setT (Dk.setT HO1r.o HTP.o _) (HTR.o.set _) _) ((HTR.o.set _).set _) _).wide (by omega) ?_;simp;omega
        ·rw[HPY.o.2];have hco:=(((HCO.o.setT (j:=1) HTP.o (.slice (some ⟨g,0,none⟩) M.length cp)).setT (j:=0) (HTR.o.set _) (.slice a1 n1 q1)).setT (j:=1) ((HTR.o.set _).set _) (.slice (some ⟨g,0,none⟩) M.length cp)).wide (lo':=w.heap.size) (hi':=wr.heap.size) (by omega) (Nat.le_refl _);have hrw:=Cx (j:=1) (Cx (j:=0) (Cx (j:=1) (Bx (B':=w.heap.size) HL2.o.own (by omega)) HTP.o (by decide) (.slice (some ⟨g,0,none⟩) M.length cp)) (HTR.o.set _) (by decide) (.slice a1 n1 q1)) ((HTR.o.set _).set _) (by decide) (.slice (some ⟨g,0,none⟩) M.length cp);have hT9:=hco.toT (v:=.slice (some ⟨g,0,none⟩) (Iy l ⟨⟨t,is⟩,.slice (some ⟨gc,0,none⟩) is.length cpc⟩ r).length cp) ⟨hrw,fun b eb=>by have:=(HL2.o.own.lt b eb).2;omega⟩;rw[Xo,HLM.o,<- HLE.o] at hT9;refine hT9.wide (Nat.le_refl _) ?_;simp
  ·have hnb:=Cz hn;have HD:Hd (Ci ss ts t ok=2):=Mw hc (fun k=>hn k.1);clear hn hc
   go_wp2_with (go_at_call 28;refine(Bn t _ ht).mono ?_;rintro e w9 ⟨rfl,rfl⟩;rw[hnb])
   exact bR (v:=.tuple #[.agg #[.slice none 0 0,.slice none 0 0],.int .i64 2]) (by simp[results,Tryz.results13,go_sem,r0,r1]) rfl ⟨(hB1.setCell (p:=⟨w.heap.size+1+1,0,none⟩) hR _).setCell (p:=⟨w.heap.size+1+1,1,none⟩) hR _,Sm.no HD.o (by decide)⟩
 ·have hcb:(Fb ss ts != 0)=true:=by simpa using hc
  have HD:Hd (Ci ss ts t ok=1):=Re hc;clear hc;generalize Fb ss ts=q at *;go_wp2_with fail;exact bR (v:=.tuple #[.agg #[.slice none 0 0,.slice none 0 0],.int .i64 1]) (by simp[results,Tryz.results13,go_sem,r0,r1]) rfl ⟨(hB1.setCell (p:=⟨w.heap.size+1+1,0,none⟩) hR _).setCell (p:=⟨w.heap.size+1+1,1,none⟩) hR _,Sm.no HD.o (by decide)⟩
theorem It {l:List ByteArray} {i:Nat} (h:i<l.length):nx l i=l[i]:=by simp[nx,gG,h]
theorem Vc {l:List ByteArray} {n:ByteArray}:Ds l n↔n∈l:=by
 constructor
 ·rintro ⟨j,hj,e⟩;rw[It hj] at e;rw[<- e];exact List.getElem_mem _
 ·intro h;obtain⟨j,hj,e⟩:=List.mem_iff_getElem.1 h;exact⟨j,hj,by rw[It hj];exact e⟩
theorem Oo {l:List ByteArray}:Fg l↔∀ a∈l,Cn a=true:=by
 constructor
 ·intro h a ha;obtain⟨j,hj,e⟩:=List.mem_iff_getElem.1 ha;have:=h j hj;rw[It hj,e] at this;exact this
 ·intro h i hi;rw[It hi];exact h _ (List.getElem_mem _)
structure VSp (ss:List S2) (ts:List T2):Prop where
 len:ss.length+ts.length<=200
 ns:∀ s∈ss,Cn s.name=true
 nt:∀ t∈ts,Cn t.name=true
 a1:Eu (Ag ss)
 a2:Eu (Ae ts)
 apart:∀ s∈ss,∀ t∈ts,s.name≠t.name
 tx:∀ s∈ss,s.text.size<=2000
 act:∀ t∈ts,Al t.code=true
theorem Qt {ss:List S2} {ts:List T2}:Fb ss ts=0↔VSp ss ts:=by
 constructor
 ·intro h
  by_cases g1:200<ss.length+ts.length
  ·rw[chk1 g1] at h;exact absurd h (by decide)
  by_cases g2:Fg (Ag ss)/\Fg (Ae ts)
  ·by_cases g3:Eu (Ag ss)
   ·by_cases g4:Eu (Ae ts)
    ·by_cases g5:Kf (Ag ss) (Ae ts)
     ·rw[chk5 g1 g2 g3 g4 g5] at h;exact absurd h (by decide)
     ·by_cases g6:Gu ss
      ·by_cases g7:Lw ts
       ·refine⟨by omega,fun s hs=>Oo.1 g2.1 _ (List.mem_map.2 ⟨s,hs,rfl⟩),fun t ht=>Oo.1 g2.2 _ (List.mem_map.2 ⟨t,ht,rfl⟩),g3,g4,fun s hs t ht e=>g5 ?_,fun s hs=>?_,fun t ht=>?_⟩
        ·obtain⟨i,hi,ei⟩:=List.mem_iff_getElem.1 (show s.name∈Ag ss from List.mem_map.2 ⟨s,hs,rfl⟩);exact⟨i,hi,Vc.2 (by rw[It hi,ei,e];exact List.mem_map.2 ⟨t,ht,rfl⟩)⟩
        ·obtain⟨i,hi,ei⟩:=List.mem_iff_getElem.1 hs;have:=g6 i hi;rw[Jr hi,ei] at this;exact this
        ·obtain⟨i,hi,ei⟩:=List.mem_iff_getElem.1 ht;have:=g7 i hi;rw[Gm hi,ei] at this;exact this
       ·rw[chk7 g1 g2 g3 g4 g5 g6 g7] at h;exact absurd h (by decide)
      ·rw[chk6 g1 g2 g3 g4 g5 g6] at h;exact absurd h (by decide)
    ·rw[chk4 g1 g2 g3 g4] at h;exact absurd h (by decide)
   ·rw[chk3 g1 g2 g3] at h;exact absurd h (by decide)
  ·rw[chk2 g1 g2] at h;exact absurd h (by decide)
 ·intro v;refine chk0 (by have:=v.len;omega) ⟨Oo.2 (fun a ha=>?_),Oo.2 (fun a ha=>?_)⟩ v.a1 v.a2 ?_ (fun i hi=>?_) (fun i hi=>?_)
  ·obtain⟨s,hs,rfl⟩:=List.mem_map.1 ha;exact v.ns s hs
  ·obtain⟨s,hs,rfl⟩:=List.mem_map.1 ha;exact v.nt s hs
  ·rintro ⟨i,hi,hh⟩;have h1:=Vc.1 hh;obtain⟨t,ht,et⟩:=List.mem_map.1 h1;have h2:nx (Ag ss) i∈Ag ss:=by rw[It hi];exact List.getElem_mem _
   obtain⟨s,hs,es⟩:=List.mem_map.1 h2;exact v.apart s hs t ht (by rw[es,et])
  ·rw[Jr hi];exact v.tx _ (List.getElem_mem _)
  ·rw[Gm hi];exact v.act _ (List.getElem_mem _)
theorem asc_ins {l:List ByteArray} {t:ByteArray} {r:Nat} (ha:Eu l) (hr:AtR l t r) (hne:t ∉ l):Eu (l.take r++[t]++l.drop r):=by
 have hp:=Kr ha
 rw[<- List.take_append_drop r l] at hp
 obtain⟨h1,h2,h3⟩:=List.pairwise_append.1 hp
 have lo:∀ a∈l.take r,Bf a t=true:=fun a h=>by
  obtain⟨j,hj,e⟩:=List.mem_iff_getElem.1 h;rw[List.getElem_take] at e;have hj':j<r/\j<l.length:=by rw[List.length_take] at hj;omega
  have:=hr.lo j hj'.1;rw[It hj'.2,e] at this;exact this
 have hi:∀ a∈l.drop r,Bf t a=true:=fun a h=>by
  obtain⟨j,hj,e⟩:=List.mem_iff_getElem.1 h;rw[List.getElem_drop] at e;have hj':r+j<l.length:=by rw[List.length_drop] at hj;omega
  have h5:=hr.hi (r+j) (by omega) hj';rw[It hj',e] at h5;exact Xd h5 (fun q=>hne (by rw[<- q,<- e];exact List.getElem_mem _))
 refine Kj (List.pairwise_append.2 ⟨List.pairwise_append.2 ⟨h1,List.pairwise_singleton _ _,fun a ha b hb=>?_⟩,h2,fun a ha b hb=>?_⟩)
 ·rw[List.mem_singleton.1 hb];exact lo a ha
 ·rcases List.mem_append.1 ha with q|q
  ·exact h3 a q b hb
  ·rw[List.mem_singleton.1 q];exact hi b hb
theorem Yv (l:List S2) (s:S2) (r:Nat):Ag (Hv l s r)=(Ag l).take r++[s.name]++(Ag l).drop r:=by simp[Ag,Hv,List.map_take,List.map_drop]
theorem Qx (l:List T2) (s:T2) (r:Nat):Ae (Lm l s r)=(Ae l).take r++[s.name]++(Ae l).drop r:=by simp[Ae,Lm,List.map_take,List.map_drop]
theorem Lg {l:List S2} {s x:S2} {r:Nat} (h:x∈Hv l s r):x=s\/x∈l:=by
 unfold Hv at h
 rcases List.mem_append.1 h with q|q
 ·rcases List.mem_append.1 q with q|q
  ·exact Or.inr (List.mem_of_mem_take q)
  ·exact Or.inl (List.mem_singleton.1 q)
 ·exact Or.inr (List.mem_of_mem_drop q)
theorem Lf {l:List T2} {s x:T2} {r:Nat} (h:x∈Lm l s r):x=s\/x∈l:=by
 unfold Lm at h
 rcases List.mem_append.1 h with q|q
 ·rcases List.mem_append.1 q with q|q
  ·exact Or.inr (List.mem_of_mem_take q)
  ·exact Or.inl (List.mem_singleton.1 q)
 ·exact Or.inr (List.mem_of_mem_drop q)
theorem Gj {t:ByteArray} {ss:List S2} {x:S2} (h:x∈Br t ss):x∈ss/\x.name≠t:=by
 unfold Br at h
 have:=List.mem_filter.1 h
 exact⟨this.1,by simpa using this.2⟩
theorem Gi {t:ByteArray} {ss:List T2} {x:T2} (h:x∈Bo t ss):x∈ss/\x.name≠t:=by
 unfold Bo at h
 have:=List.mem_filter.1 h
 exact⟨this.1,by simpa using this.2⟩
theorem flt_not {t:ByteArray} {ss:List S2} {ts:List T2}:t ∉ Ag (Br t ss)/\t ∉ Ae (Bo t ts):=by
 refine⟨fun h=>?_,fun h=>?_⟩
 ·obtain⟨s,hs,e⟩:=List.mem_map.1 h;exact(Gj hs).2 e
 ·obtain⟨s,hs,e⟩:=List.mem_map.1 h;exact(Gi hs).2 e
theorem VSp.flt {ss:List S2} {ts:List T2} (v:VSp ss ts) (t:ByteArray):VSp (Br t ss) (Bo t ts):=
 ⟨by have h1:=Lo t ss;have h2:=Ln t ts;have:=v.len;omega,fun s hs=>v.ns s (Gj hs).1,fun s hs=>v.nt s (Gi hs).1,ascS t v.a1,ascT t v.a2,fun s hs x hx=>v.apart s (Gj hs).1 x (Gi hx).1,fun s hs=>v.tx s (Gj hs).1,fun s hs=>v.act s (Gi hs).1⟩
theorem ps_valid {ss:List S2} {ts:List T2} {t x:ByteArray} {ok:Bool} (h:Ci ss ts t ok=0) (hx:x.size<=2000):Fb (Zf ss ts t x ok) (Ze ss ts t ok)=0/\Easy (Zf ss ts t x ok) (Ze ss ts t ok) t 0 x/\Ar t:=by
 have hch:Fb ss ts=0:=by
  by_cases g:Fb ss ts=0
  ·exact g
  ·rw[Re g] at h;exact absurd h (by decide)
 have hno:Ar t:=by
  by_cases g:Ar t/\ok=true
  ·exact g.1
  ·rw[Mw hch g] at h;exact absurd h (by decide)
 have hroom:=(Iq h).2.2
 have v:=(Qt.1 hch).flt t
 obtain⟨r,hr⟩:=Hh v.a1 t
 obtain⟨e1,e2⟩:=Ur (x:=x) h hr
 have hle:r<=(Br t ss).length:=by have:=hr.le;rw[Bc] at this;exact this
 refine⟨Qt.2 ?_,?_,hno⟩
 ·rw[e1,e2];refine⟨by rw[Jp _ _ _ hle];omega,fun s hs=>?_,v.nt,by rw[Yv];exact asc_ins v.a1 hr (flt_not (ss:=ss) (ts:=ts)).1,v.a2,fun s hs y hy=>?_,fun s hs=>?_,v.act⟩
  ·rcases Lg hs with rfl|q
   ·exact Cs hno
   ·exact v.ns s q
  ·rcases Lg hs with rfl|q
   ·exact fun e=>(Gi hy).2 e.symm
   ·exact v.apart s q y hy
  ·rcases Lg hs with rfl|q
   ·exact hx
   ·exact v.tx s q
 ·rw[e1];refine Or.inl ⟨rfl,r,by rw[Jp _ _ _ hle];omega,?_⟩;have hg:r<(Hv (Br t ss) ⟨t,x⟩ r).length:=by rw[Jp _ _ _ hle];omega
  have e3:sx (Hv (Br t ss) ⟨t,x⟩ r) r=⟨t,x⟩:=by
   rw[Jr hg]
   have h4:(Hv (Br t ss) ⟨t,x⟩ r)[r]?=some ⟨t,x⟩:=by
    unfold Hv;rw[List.append_assoc,List.getElem?_append_right (by rw[List.length_take];omega),List.length_take,Nat.min_eq_left hle,Nat.sub_self];rfl
   rw[gQ hg] at h4;exact Option.some.inj h4
  rw[e3];exact⟨rfl,rfl⟩
theorem pt_valid {ss:List S2} {ts:List T2} {t:ByteArray} {is:List I3} (h:Ci ss ts t (Al is)=0):VSp (ptS ss ts t (Al is)) (Zd ss ts t is (Al is))/\Ar t/\Ds (Ae (Zd ss ts t is (Al is))) t:=by
 have hch:Fb ss ts=0:=by
  by_cases g:Fb ss ts=0
  ·exact g
  ·rw[Re g] at h;exact absurd h (by decide)
 have hok:Ar t/\Al is=true:=by
  by_cases g:Ar t/\Al is=true
  ·exact g
  ·rw[Mw hch g] at h;exact absurd h (by decide)
 have hroom:=(Iq h).2.2
 have v:=(Qt.1 hch).flt t
 obtain⟨r,hr⟩:=Hh v.a2 t
 obtain⟨e1,e2⟩:=Uq h hr
 have hle:r<=(Bo t ts).length:=by have:=hr.le;rw[Ax] at this;exact this
 rw[e1,e2]
 refine⟨⟨by rw[Qh _ _ _ hle];omega,v.ns,fun s hs=>?_,v.a1,by rw[Qx];exact asc_ins v.a2 hr (flt_not (ss:=ss) (ts:=ts)).2,fun s hs y hy=>?_,v.tx,fun s hs=>?_⟩,hok.1,Vc.2 (by rw[Qx];simp)⟩
 ·rcases Lf hs with rfl|q
  ·exact Cs hok.1
  ·exact v.nt s q
 ·rcases Lf hy with rfl|q
  ·exact(Gj hs).2
  ·exact v.apart s hs y q
 ·rcases Lf hs with rfl|q
  ·exact hok.2
  ·exact v.act s q
variable {w:World} {sa ta:Option Addr} {ss:List S2} {ts:List T2} {t x:ByteArray} {is:List I3}
structure Ye (ss:List S2) (ts:List T2):Prop where
 s:∀ x∈ss,x.name.size<=maxLen/\x.text.size<=maxLen
 t:∀ a∈ts,a.name.size<=maxLen/\a.code.length<=maxLen/\∀ x∈a.code,x.text.size<=maxLen
theorem ix_size {is:List I3} {m:Nat} (h:∀ x∈is,x.text.size<=m) (j:Nat):(ix is j).text.size<=m:=by
 rcases Nat.lt_or_ge j is.length with q|q
 ·have e:ix is j=is[j]:=by simp[ix,gG,q]
  rw[e];exact h _ (List.getElem_mem _)
 ·have e:ix is j=Go.Proofs.YtdbjfdhknkfjaaaGreatDoor.i0:=by simp[ix,gG,q]
  rw[e];exact Nat.zero_le _
theorem Ye.ok {w:World} {sa ta:Option Addr} {ss:List S2} {ts:List T2} (h:Ye ss ts) (hs:Eg ss ts) (r1:Gx w sa ss) (r2:Gv w ta ts):Hp w sa ss ta ts:=by
 have h1:∀ i,(sx ss i).name.size<=maxLen/\(sx ss i).text.size<=maxLen:=fun i=>by
  rcases Nat.lt_or_ge i ss.length with q|q
  ·exact h.s _ (Mt q)
  ·have e:sx ss i=⟨ByteArray.empty,ByteArray.empty⟩:=by simp[sx,gG,q]
   rw[e];exact⟨Nat.zero_le _,Nat.zero_le _⟩
 have h2:∀ i,(tx ts i).name.size<=maxLen/\(tx ts i).code.length<=maxLen/\∀ x∈(tx ts i).code,x.text.size<=maxLen:=fun i=>by
  rcases Nat.lt_or_ge i ts.length with q|q
  ·rw[Gm q];exact h.t _ (List.getElem_mem _)
  ·have e:tx ts i=⟨ByteArray.empty,[]⟩:=by simp[tx,gG,q]
   rw[e];exact⟨Nat.zero_le _,Nat.zero_le _,fun x hx=>by cases hx⟩
 exact⟨r1,r2,by have:=hs.ls;unfold maxLen;omega,by have:=hs.lt;unfold maxLen;omega,fun i=>(h1 i).1,fun i=>(h1 i).2,fun i=>(h2 i).1,fun i=>(h2 i).2.1,fun i j=>ix_size (h2 i).2.2 j⟩
theorem Ox.szd {l1:List S2} {l2:List TC} (h:Ox l1 l2):Ye l1 (l2.map (·.t)):=by
 refine⟨fun x hx=>?_,fun a ha=>?_⟩
 ·have:=h.s x hx;unfold maxLen;omega
 ·obtain⟨c,hc,rfl⟩:=List.mem_map.1 ha;obtain⟨k1,k2,k3⟩:=h.t c hc;refine⟨by unfold maxLen;omega,by unfold maxLen;omega,fun x hx=>?_⟩;have:=k3 x hx;unfold maxLen;omega
theorem Ye.nil:Ye [] []:=⟨fun x hx=>(by cases hx),fun x hx=>(by cases hx)⟩
theorem Ye.flt {ss:List S2} {ts:List T2} (h:Ye ss ts) (t:ByteArray):Ye (Br t ss) (Bo t ts):=⟨fun x hx=>h.s x (Gj hx).1,fun x hx=>h.t x (Gi hx).1⟩
theorem ps_szd {ss:List S2} {ts:List T2} {t x:ByteArray} {ok:Bool} (h:Ye ss ts) (ht:t.size<=maxLen) (hx:x.size<=maxLen):Ye (Zf ss ts t x ok) (Ze ss ts t ok):=by
 by_cases g:Ci ss ts t ok=0
 ·unfold Zf Ze;rw[if_pos g,if_pos g];refine⟨fun y hy=>?_,(h.flt t).t⟩
  rcases Lg hy with rfl|q
  ·exact⟨ht,hx⟩
  ·exact(h.flt t).s y q
 ·rw[(Ts (x:=x) g).1,(Ts (x:=x) g).2];exact Ye.nil
theorem pt_szd {ss:List S2} {ts:List T2} {t:ByteArray} {is:List I3} {ok:Bool} (h:Ye ss ts) (ht:t.size<=maxLen) (hl:is.length<=maxLen) (hx:∀ x∈is,x.text.size<=maxLen):Ye (ptS ss ts t ok) (Zd ss ts t is ok):=by
 by_cases g:Ci ss ts t ok=0
 ·unfold ptS Zd;rw[if_pos g,if_pos g];refine⟨(h.flt t).s,fun y hy=>?_⟩
  rcases Lf hy with rfl|q
  ·exact⟨ht,hl,hx⟩
  ·exact(h.flt t).t y q
 ·rw[(Tr (is:=is) g).1,(Tr (is:=is) g).2];exact Ye.nil
structure Spc (w:World) (sa:Option Addr) (ss:List S2) (ta:Option Addr) (ts:List T2):Prop where
 z:Ye ss ts
 m:Eg ss ts
 r1:Gx w sa ss
 r2:Gv w ta ts
theorem Spc.bl {w w':World} {sa ta:Option Addr} {ss:List S2} {ts:List T2} (h:Spc w sa ss ta ts) (hb:Below w.heap.size w w'):Spc w' sa ss ta ts:=⟨h.z,h.m,h.r1.bl hb,h.r2.bl hb⟩
theorem Spc.ok {w:World} {sa ta:Option Addr} {ss:List S2} {ts:List T2} (h:Spc w sa ss ta ts):Hp w sa ss ta ts:=h.z.ok h.m h.r1 h.r2
def Two (w:World) (ss:List S2) (ts:List T2) (c:Int) (e:Ending) (w':World):Prop:=Below w.heap.size w w'/\∃ a1 p1 a2 p2,e=.returned (.tuple #[.agg #[.slice a1 ss.length p1,.slice a2 ts.length p2],.int .i64 c])/\Spc w' a1 ss a2 ts
theorem two_of {w w':World} {lo:Nat} {ss:List S2} {ts:List T2} {c:Int} {e:Ending} (hb:Below w.heap.size w w') (h:∃ v1 v2,e=.returned (.tuple #[.agg #[v1,v2],.int .i64 c])/\Dk w' lo w'.heap.size v1 ss/\Eh w' lo w'.heap.size v2 ts) (hz:Ye ss ts) (hm:Eg ss ts):Two w ss ts c e w':=by
 obtain⟨v1,v2,rfl,o1,o2⟩:=h
 obtain⟨a1,p1,rfl,r1⟩:=o1.sl
 obtain⟨a2,p2,rfl,r2⟩:=o2.sl
 exact⟨hb,a1,p1,a2,p2,rfl,hz,hm,r1,r2⟩
theorem ps_sp (h:Spc w sa ss ta ts) (ht:t.size<=50000) (hx:x.size<=50000) (c1 c2:Nat):Calls Tryz.prog 12 #[.agg #[.slice sa ss.length c1,.slice ta ts.length c2],.string t,.string x] w fun e w'=>Two w (Zf ss ts t x (decide (x.size<=2000))) (Ze ss ts t (decide (x.size<=2000))) (Ci ss ts t (decide (x.size<=2000))) e w':=
 (Yu sa ta c1 c2 ss ts t x w h.ok h.m (by omega) (by omega)).mono fun e w' k=>two_of k.1 k.2 (ps_szd h.z (by unfold maxLen;omega) (by unfold maxLen;omega)) (ps_small _ _ _ _ _)
theorem pt_sp (h:Spc w sa ss ta ts) (ht:t.size<=50000) {a:Option Addr} (hr:Fc w a is) (hl:is.length<=400) (hx:∀ x∈is,x.text.size<=50000) (c1 c2 c3:Nat):Calls Tryz.prog 13 #[.agg #[.slice sa ss.length c1,.slice ta ts.length c2],.string t,.agg #[.slice a is.length c3]] w fun e w'=>Two w (ptS ss ts t (Al is)) (Zd ss ts t is (Al is)) (Ci ss ts t (Al is)) e w':=
 (Yt sa ta c1 c2 ss ts t a c3 is w h.ok h.m (by omega) hr (by omega) (fun i=>by have:=ix_size hx i;omega)).mono fun e w' k=>two_of k.1 k.2 (pt_szd h.z (by unfold maxLen;omega) (by unfold maxLen;omega) (fun y hy=>by have:=hx y hy;unfold maxLen;omega)) (pt_small _ _ _ _ _ (by omega))
theorem Qo.spc {w w':World} {e:Ending} (h:Qo w e w'):Below w.heap.size w w'/\∃ sa c1 ta c2 ss ts nm tx,e=.returned (.tuple #[.agg #[.slice sa ss.length c1,.slice ta ts.length c2],.string nm,.string tx])/\Spc w' sa ss ta ts/\nm.size<=50000/\tx.size<=50000:=by
 obtain⟨hb,v1,v2,l1,l2,nm,tx,rfl,hd,hbd,h1,h2⟩:=h
 obtain⟨sa,c1,ta,c2,rfl,rfl,ho,hm⟩:=hd.ok hbd
 exact⟨hb,sa,c1,ta,c2,l1,_,nm,tx,rfl,⟨hbd.szd,hm,ho.rs,ho.rt⟩,h1,h2⟩
theorem DrT.spc {w w':World} {e:Ending} (h:DrT w e w'):Below w.heap.size w w'/\∃(b1 b2:Option Addr) (k1 n1 k2 n2 g c:Nat) (nm:ByteArray) (is:List I3),e=.returned (.tuple #[.agg #[.slice b1 k1 n1,.slice b2 k2 n2],.string nm,.agg #[.slice (some ⟨g,0,none⟩) is.length c]])/\nm.size<=50000/\Fc w' (some ⟨g,0,none⟩) is/\is.length<=400/\∀ x∈is,x.text.size<=50000:=by
 obtain⟨hb,v1,v2,nm,g,n,c,is,k1,k2,b1,n1,b2,n2,rfl,rfl,rfl,h1,rfl,ho,h3,h4⟩:=h
 obtain⟨a,cap,e,r3⟩:=Dg rfl ho
 cases e
 exact⟨hb,b1,b2,k1,n1,k2,n2,g,_,nm,is,rfl,h1,r3,h3,h4⟩
theorem Jf.bl {w w':World} {a:Option Addr} {n:Nat} (h:Jf w a n) (hb:Below w.heap.size w w'):Jf w' a n:=fun i hi=>by obtain⟨b,off,v,h1,h2,h3⟩:=h i hi;exact⟨b,off,v,h1,Ab hb h2,h3⟩
end Go.Proofs.YtdbjfdhknkfjaaaGreatDoor
