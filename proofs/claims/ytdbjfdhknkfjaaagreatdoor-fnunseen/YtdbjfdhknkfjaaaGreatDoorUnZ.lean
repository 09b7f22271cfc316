import Derived.Test.YtdbjfdhknkfjaaaGreatDoorUnW
import Derived.Test.YtdbjfdhknkfjaaaGreatDoorUnA
import Derived.Test.YtdbjfdhknkfjaaaGreatDoorUnPS
import Derived.BigQuiet
namespace Go.Proofs.YtdbjfdhknkfjaaaGreatDoor
set_option maxHeartbeats 16000000
set_option maxRecDepth 100000
open Go.RowKit Go.Deep
set_option linter.unusedVariables false
set_option linter.unusedSimpArgs false
theorem ins_memS {l:List S2} {s y:S2} {r:Nat} (h:y∈l):y∈Hv l s r:=by
 unfold Hv
 rw[<- List.take_append_drop r l] at h
 rcases List.mem_append.mp h with h|h
 ·exact List.mem_append_left _ (List.mem_append_left _ h)
 ·exact List.mem_append_right _ h
theorem ins_memT {l:List T2} {s y:T2} {r:Nat} (h:y∈l):y∈Lm l s r:=by
 unfold Lm
 rw[<- List.take_append_drop r l] at h
 rcases List.mem_append.mp h with h|h
 ·exact List.mem_append_left _ (List.mem_append_left _ h)
 ·exact List.mem_append_right _ h
theorem ps_off {ss:List S2} {ts:List T2} {t x:ByteArray} {ok:Bool} (h:Ci ss ts t ok=0):Vj t ss ts (Zf ss ts t x ok) (Ze ss ts t ok):=by
 unfold Zf Ze
 rw[if_pos h,if_pos h]
 refine⟨fun s hs hn=>ins_memS (by unfold Br;simp[hs,hn]),fun s hs hn=>(by unfold Bo;simp[hs,hn]),fun s hs hn=>?_,fun s hs hn=>(Gi hs).1⟩
 rcases Lg hs with rfl|q
 ·exact absurd rfl hn
 ·exact(Gj q).1
theorem pt_off {ss:List S2} {ts:List T2} {t:ByteArray} {is:List I3} {ok:Bool} (h:Ci ss ts t ok=0):Vj t ss ts (ptS ss ts t ok) (Zd ss ts t is ok):=by
 unfold ptS Zd
 rw[if_pos h,if_pos h]
 refine⟨fun s hs hn=>(by unfold Br;simp[hs,hn]),fun s hs hn=>ins_memT (by unfold Bo;simp[hs,hn]),fun s hs hn=>(Gj hs).1,fun s hs hn=>?_⟩
 rcases Lf hs with rfl|q
 ·exact absurd rfl hn
 ·exact(Gi q).1
theorem Qak {ss:List S2} {ts:List T2} {nm:ByteArray} {c:Int} {t:ByteArray} {ch:List ByteArray} (h:Hi ss ts nm c t ch) (h5:c<=5):Fb ss ts=0/\Cn nm=true/\ch=[]/\∃ ms d,Au ss ts [] [] (.make nm) ms (.ok d)/\c=d.c/\t=d.t:=by
 rcases h with ⟨_,rfl,_⟩|⟨hc,hnb,ms,a,hd,q⟩
 ·omega
 ·cases a with
  | circle l=>obtain⟨rfl,_⟩:=q;omega
  | deep x=>obtain⟨rfl,_⟩:=q;omega
  | ok d=>obtain⟨rfl,rfl,rfl⟩:=q;exact⟨hc,hnb,rfl,ms,d,hd,rfl,rfl⟩
theorem Yk {w:World} {sa ta:Option Addr} {ss:List S2} {ts:List T2} (ho:Hp w sa ss ta ts) {key nm:ByteArray} {L:List ByteArray} (hL:∀ x∈L,Rch ss ts L x (·≠key)) (hm:Ds (Ae ts) nm->nm∈L) (hn:nm≠key) {ls:List G3} {c:Int} {t:ByteArray} {ch:List ByteArray} (h:Ck ss ts nm ls c t ch) (h5:c<=5) {ss':List S2} {ts':List T2} (hO:Vj key ss ts ss' ts') (hc:Fb ss' ts'=0):Ck ss' ts' nm ls c t ch:=by
 rcases h with ⟨_,_,rfl,_⟩|⟨h1,hnb,ms,a,hd,q⟩
 ·omega
 ·cases a with
  | circle l=>obtain⟨_,rfl,_⟩:=q;omega
  | deep x=>obtain⟨_,rfl,_⟩:=q;omega
  | ok d=>exact Or.inr ⟨hc,hnb,ms,_,does_move (Ls ho h1).v hO hL hd hn hm,q⟩
theorem fnUnseenLaw (a1 a2:Option Addr) (n1 k1 n2 k2:Nat) (w:World) (hT:Ot w) (hP:Lu w) (h1:Jf w a1 n1) (h2:Jf w a2 n2) (hk1:n1<=k1) (hk2:n2<=k2) :
  Calls Tryz.prog 3 #[.slice a1 n1 k1,.slice a2 n2 k2] w fun e w'=>e=.returned (.bool true)/\Below w.heap.size w w':=by
 by_cases hn1:1048576<n1
 ·have d1:decide ((1048576:Int)<(n1:Int))=true:=by simp;omega
  clear hn1 h1 h2 hT hk1 hk2;go_enter Tryz.func3,Tryz.ntmps3;go_wp2;go_ret;exact⟨rfl,Below.refl _ _⟩
 by_cases hn2:1048576<n2
 ·have d1:decide ((1048576:Int)<(n1:Int))=false:=by simp;omega
  have d2:decide ((1048576:Int)<(n2:Int))=true:=by simp;omega
  clear hn1 hn2 h1 h2 hT hk1 hk2;go_enter Tryz.func3,Tryz.ntmps3;go_wp2;go_ret;exact⟨rfl,Below.refl _ _⟩
 have d1:decide ((1048576:Int)<(n1:Int))=false:=by simp;omega
 have d2:decide ((1048576:Int)<(n2:Int))=false:=by simp;omega
 have HD1:=hid (Th w a1 n1 k1 h1 hk1 (by omega))
 have HD2:Hd (∀ W:World,Below w.heap.size w W->Calls Tryz.prog 5 #[.slice a2 n2 k2] W fun e w'=>DrT W e w'):=fun W hW=>Qaf W a2 n2 k2 (h2.bl hW) hk2 (by omega)
 have HD3:Hd (∀ W:World,Below w.heap.size w W->Calls Tryz.prog 6 #[.slice a2 n2 k2] W fun e w'=>Qo W e w'):=fun W hW=>Sc W a2 n2 k2 (h2.bl hW) hk2 (by omega)
 clear hn1 hn2 h1 h2 hk1 hk2
 go_enter Tryz.func3,Tryz.ntmps3
 go_wp2_with fail
 clear d1 d2
 refine HD1.o.mono ?_
 rintro e w2 ⟨hb2,v1,v2,l1,l2,nm,rfl,hd,hbd,hnm,hsh⟩
 obtain⟨sa,c1,ta,c2,rfl,rfl,hok,hsm⟩:=hd.ok hbd
 have hsz:=hbd.szd
 obtain⟨ts,ets⟩:∃ ts,l2.map (·.t)=ts:=⟨_,rfl⟩
 rw[ets] at hok hsm hsh hsz ⊢
 clear ets hd hbd HD1
 have HT:=hid (hT.bl hb2)
 have HP:=hid (hP.bl hb2)
 have HS:Hd (Spc w2 sa l1 ta ts):=⟨hsz,hsm,hok.rs,hok.rt⟩
 have HB:=hid hb2
 have HSH:=hid hsh
 clear hT hP hok hb2 hsh hsm hsz
 obtain⟨P,eP⟩:∃ P,w2.heap.size=P:=⟨_,rfl⟩
 obtain⟨w3,ew3⟩:∃ V,w2.alloc (.cells #[.slice sa l1.length c1,.slice ta ts.length c2] 26)=V:=⟨_,rfl⟩
 have hbw3:Below w2.heap.size w2 w3:=by rw[<- ew3];exact aN _ _
 have HPB:Hd (w3.heap[P]?=some (.cells #[.slice sa l1.length c1,.slice ta ts.length c2] 26 (0,0))):=by show _=_;rw[<- ew3,<- eP];exact Ai _ _
 replace HT:=hid (HT.o.bl hbw3)
 replace HP:=hid (HP.o.bl hbw3)
 replace HS:=hid (HS.o.bl hbw3)
 replace HB:=hid (bN HB.o hbw3)
 clear hbw3
 go_wp2_with fail
 clear ew3 eP
 refine(HD2.o w3 HB.o).mono ?_
 intro e w4 he
 obtain⟨hb4,b1,b2,m1,m2,m3,m4,g,gc,key,is,rfl,hkey,hrow,hil,hix⟩:=he.spc
 clear he HD2
 replace HT:=hid (HT.o.bl hb4)
 replace HP:=hid (HP.o.bl hb4)
 replace HS:=hid (HS.o.bl hb4)
 replace HB:=hid (bN HB.o hb4)
 replace HPB:=hid (Aa HPB.o hb4)
 have HR3:=hid hrow
 clear hb4 hrow
 obtain⟨w6,ew6⟩:∃ V,(w4.alloc (.cells #[.slice b1 m1 m2,.slice b2 m3 m4] 26)).alloc (.cells #[.slice (some ⟨g,0,none⟩) is.length gc] 31)=V:=⟨_,rfl⟩
 have hbz:Below w4.heap.size w4 w6:=by rw[<- ew6];exact(aN _ _).alloc (by simp) _
 have HP9:Hd (w6.heap[w4.heap.size+1]?=some (.cells #[.slice (some ⟨g,0,none⟩) is.length gc] 31 (0,0))):=by
  have hx:=Ai (w4.alloc (.cells #[.slice b1 m1 m2,.slice b2 m3 m4] 26)) (.cells #[.slice (some ⟨g,0,none⟩) is.length gc] 31);rw[show (w4.alloc (.cells #[.slice b1 m1 m2,.slice b2 m3 m4] 26)).heap.size=w4.heap.size+1 from by simp,ew6] at hx;exact hx
 replace HT:=hid (HT.o.bl hbz)
 replace HP:=hid (HP.o.bl hbz)
 replace HS:=hid (HS.o.bl hbz)
 replace HB:=hid (bN HB.o hbz)
 replace HPB:=hid (Aa HPB.o hbz)
 replace HR3:=hid (HR3.o.bl hbz)
 have EW6:=hid ew6
 clear hbz ew6
 go_wp2_with fail
 rw[EW6.o]
 clear EW6
 obtain⟨P9,eP9⟩:∃ X,w4.heap.size+1=X:=⟨_,rfl⟩
 rw[eP9] at HP9
 try rw[eP9]
 clear eP9
 refine(HD3.o w6 HB.o).mono ?_
 intro e w7 he
 obtain⟨hb7,s3,x3,t3,y3,ss3,ts3,nm3,tx,rfl,hs3,hnm3,htx⟩:=he.spc
 clear he HD3 hs3 hnm3
 replace HT:=hid (HT.o.bl hb7)
 replace HP:=hid (HP.o.bl hb7)
 replace HS:=hid (HS.o.bl hb7)
 replace HB:=hid (bN HB.o hb7)
 replace HPB:=hid (Aa HPB.o hb7)
 replace HR3:=hid (HR3.o.bl hb7)
 replace HP9:=hid (Aa HP9.o hb7)
 clear hb7
 obtain⟨P10b,eP10b⟩:∃ P,w7.heap.size=P:=⟨_,rfl⟩
 obtain⟨w8,ew8⟩:∃ V,w7.alloc (.cells #[.slice s3 ss3.length x3,.slice t3 ts3.length y3] 26)=V:=⟨_,rfl⟩
 have hbw8:Below w7.heap.size w7 w8:=by rw[<- ew8];exact aN _ _
 have HP10:Hd (w8.heap[P10b]?=some (.cells #[.slice s3 ss3.length x3,.slice t3 ts3.length y3] 26 (0,0))):=by show _=_;rw[<- ew8,<- eP10b];exact Ai _ _
 replace HT:=hid (HT.o.bl hbw8)
 replace HP:=hid (HP.o.bl hbw8)
 replace HS:=hid (HS.o.bl hbw8)
 replace HB:=hid (bN HB.o hbw8)
 replace HPB:=hid (Aa HPB.o hbw8)
 replace HR3:=hid (HR3.o.bl hbw8)
 replace HP9:=hid (Aa HP9.o hbw8)
 clear hbw8
 clear HP10
 obtain⟨d0,d1⟩:=Af HPB.o
 go_wp2_with fail
 clear ew8 eP10b d0 d1
 refine(Ju sa ta c1 c2 l1 ts nm w8 HT.o HP.o HS.o.ok HS.o.m (by omega)).mono ?_
 rintro e w9 ⟨hb9,c,t,ch,ca,cn,cc,rfl,hcl,hch⟩
 obtain⟨rfl,hst⟩:=Kb hch
 replace HT:=hid (HT.o.bl hb9)
 replace HP:=hid (HP.o.bl hb9)
 replace HS:=hid (HS.o.bl hb9)
 replace HB:=hid (bN HB.o hb9)
 replace HPB:=hid (Aa HPB.o hb9)
 replace HR3:=hid (HR3.o.bl hb9)
 replace HP9:=hid (Aa HP9.o hb9)
 have HCL:=hid hcl
 have HSR:=hid hst
 clear hb9 hcl hch hst
 obtain⟨Q,eQ⟩:∃ P,w9.heap.size=P:=⟨_,rfl⟩
 obtain⟨w10,ew10⟩:∃ V,w9.alloc (.cells #[.int .i64 c,.string t,.slice ca ch.length cc] 38)=V:=⟨_,rfl⟩
 have hbw10:Below w9.heap.size w9 w10:=by rw[<- ew10];exact aN _ _
 have HQ:Hd (w10.heap[Q]?=some (.cells #[.int .i64 c,.string t,.slice ca ch.length cc] 38 (0,0))):=by show _=_;rw[<- ew10,<- eQ];exact Ai _ _
 replace HT:=hid (HT.o.bl hbw10)
 replace HP:=hid (HP.o.bl hbw10)
 replace HS:=hid (HS.o.bl hbw10)
 replace HB:=hid (bN HB.o hbw10)
 replace HPB:=hid (Aa HPB.o hbw10)
 replace HR3:=hid (HR3.o.bl hbw10)
 replace HP9:=hid (Aa HP9.o hbw10)
 replace HSR:=hid (HSR.o.bl hbw10)
 clear hbw10
 have hchl:ch.length<=60:=HCL.o.len
 obtain⟨d0,d1⟩:=Af HPB.o
 go_wp2_with fail
 clear ew10 eQ d0 d1
 refine Lt.begin 99 (fun w'=>w'.heap[P]?=some (.cells #[.slice sa l1.length c1,.slice ta ts.length c2] 26 (0,0))/\w'.heap[Q]?=some (.cells #[.int .i64 c,.string t,.slice ca ch.length cc] 38 (0,0))) (by kernel_rfl) ?_
 obtain⟨wD,eD⟩:∃ y,w10.drew=y:=⟨_,rfl⟩
 rw[eD]
 have hbD:Below w10.heap.size w10 wD:=by rw[<- eD];exact(Below.refl _ _).drew
 clear eD
 replace HT:=hid (HT.o.bl hbD)
 replace HP:=hid (HP.o.bl hbD)
 replace HS:=hid (HS.o.bl hbD)
 replace HB:=hid (bt HB.o hbD)
 replace HPB:=hid (Aa HPB.o hbD)
 replace HR3:=hid (HR3.o.bl hbD)
 replace HP9:=hid (Aa HP9.o hbD)
 replace HSR:=hid (HSR.o.bl hbD)
 replace HQ:=hid (Aa HQ.o hbD)
 have hS0:(fun w'=>w'.heap[P]?=some (.cells #[.slice sa l1.length c1,.slice ta ts.length c2] 26 (0,0))/\w'.heap[Q]?=some (.cells #[.int .i64 c,.string t,.slice ca ch.length cc] 38 (0,0))) wD:=⟨HPB.o,HQ.o⟩
 change K 0 _
 iterate 3
  refine Lt.ti (v:=?_) hS0 ?_ ?_;rotate_left 1
  ·rintro w ⟨s1,s2⟩;obtain⟨c0,c1⟩:=Af s1;obtain⟨x0,x1,x2,xf⟩:=Et s2;go_simp;first|done|with_reducible rfl
  simp only[gX]
 refine Lt.sp (i:=3) (fun K hK=>?_)
 go_simp
 refine(Ta sa ta c1 c2 l1 ts nm _ HS.o.ok HS.o.m (by omega)).mono ?_
 rintro e wC ⟨hbC,c9,t9,ch9,ca9,cc9,rfl,hcl,hst9⟩
 obtain⟨e1,e2,e3⟩:=Kq HS.o.ok HCL.o hcl
 replace e1:=e1.symm;replace e2:=e2.symm;replace e3:=e3.symm;subst e1;subst e2;subst e3
 replace HT:=hid (HT.o.bl hbC)
 replace HP:=hid (HP.o.bl hbC)
 replace HS:=hid (HS.o.bl hbC)
 replace HB:=hid (bt HB.o hbC)
 replace HPB:=hid (Aa HPB.o hbC)
 replace HR3:=hid (HR3.o.bl hbC)
 replace HP9:=hid (Aa HP9.o hbC)
 replace HSR:=hid (HSR.o.bl hbC)
 replace HQ:=hid (Aa HQ.o hbC)
 have hS1:(fun w'=>w'.heap[P]?=some (.cells #[.slice sa l1.length c1,.slice ta ts.length c2] 26 (0,0))/\w'.heap[Q]?=some (.cells #[.int .i64 c,.string t,.slice ca ch.length cc] 38 (0,0))) wC:=⟨HPB.o,HQ.o⟩
 have HS9:=hid hst9
 refine hK.out _ _ (fun _=>hS1) (fun _=>?_)
 clear hK K hbC hcl hst9
 try simp only[gX]
 refine Lt.sp (i:=4) (fun K hK=>?_)
 go_simp
 refine(Mq _ _ ca ca9 cc cc9 _ _ _ rfl HSR.o HS9.o (by omega)).mono ?_
 rintro e wE ⟨rfl,hbE⟩
 replace HT:=hid (HT.o.bl hbE)
 replace HP:=hid (HP.o.bl hbE)
 replace HS:=hid (HS.o.bl hbE)
 replace HB:=hid (bt HB.o hbE)
 replace HPB:=hid (Aa HPB.o hbE)
 replace HR3:=hid (HR3.o.bl hbE)
 replace HP9:=hid (Aa HP9.o hbE)
 replace HSR:=hid (HSR.o.bl hbE)
 replace HQ:=hid (Aa HQ.o hbE)
 replace HS9:=hid (HS9.o.bl hbE)
 have hS2:(fun w'=>w'.heap[P]?=some (.cells #[.slice sa l1.length c1,.slice ta ts.length c2] 26 (0,0))/\w'.heap[Q]?=some (.cells #[.int .i64 c,.string t,.slice ca ch.length cc] 38 (0,0))) wE:=⟨HPB.o,HQ.o⟩
 refine hK.out _ _ (fun _=>hS2) (fun _=>?_)
 clear hK K hbE
 try simp only[gX]
 refine Lt.ti (i:=5) (v:=?_) hS2 ?_ ?_
 rotate_left 1
 ·rintro w ⟨s1,s2⟩;obtain⟨c0,c1⟩:=Af s1;obtain⟨x0,x1,x2,xf⟩:=Et s2;go_simp;first|done|with_reducible rfl
 simp only[gX]
 refine Lt.done (by kernel_rfl) ?_ _
 obtain⟨x0,x1,x2,xf⟩:=Et HQ.o
 obtain⟨d0,d1⟩:=Af HPB.o
 by_cases h5:5<c
 ·go_wp2_with fail;go_ret;exact⟨rfl,HB.o⟩
 have h5f:decide (5<c)=false:=by simp;omega
 by_cases hkn:key=nm
 ·have hq:=Ga hkn;clear hkn;go_wp2_with fail;go_ret;exact⟨rfl,HB.o⟩
 have hq:=Gq hkn
 have HKN:Hd (nm≠key):=fun k=>hkn k.symm
 clear hkn
 obtain⟨hck,hnb,hz1,ms,d,hdo,hz2,hz3⟩:=Qak HCL.o (by omega)
 have HWL:=hid (Vt sa ta c1 c2 l1 ts nm key wE HS.o.ok HS.o.m (by omega) hck HSH.o ⟨ms,d,hdo⟩)
 clear hck hnb hdo hz1 hz2 hz3
 go_wp2_with fail
 clear x0 x1 x2 xf d0 d1
 refine HWL.o.mono ?_
 rintro e wL ⟨hbL,b,rfl,hbb⟩
 replace HT:=hid (HT.o.bl hbL)
 replace HP:=hid (HP.o.bl hbL)
 replace HS:=hid (HS.o.bl hbL)
 replace HB:=hid (bN HB.o hbL)
 replace HPB:=hid (Aa HPB.o hbL)
 replace HR3:=hid (HR3.o.bl hbL)
 replace HP9:=hid (Aa HP9.o hbL)
 replace HSR:=hid (HSR.o.bl hbL)
 replace HQ:=hid (Aa HQ.o hbL)
 have HBB:=hid hbb
 clear hbL hbb HWL
 cases b
 rotate_left 1
 ·go_wp2_with fail;go_ret;exact⟨rfl,HB.o⟩
 obtain⟨L,hLm,hLr⟩:=HBB.o rfl
 have HLM:=hid hLm
 have HLR:=hid hLr
 clear hLm hLr HBB
 obtain⟨d0,d1⟩:=Af HPB.o
 go_wp2_with fail
 clear d0 d1
 refine(Ft sa ta c1 c2 l1 ts nm wL HS.o.ok HS.o.m (by omega)).mono ?_
 unfold Ps
 rintro e w11 ⟨hb11,ls,c',t',ch',ca',cc',la,lc,rfl,htr,_,hrg,_⟩
 obtain⟨e1,e2,e3⟩:=Kq HS.o.ok HCL.o htr.clean
 subst e1;subst e2;subst e3
 replace HT:=hid (HT.o.bl hb11)
 replace HP:=hid (HP.o.bl hb11)
 replace HS:=hid (HS.o.bl hb11)
 replace HB:=hid (bN HB.o hb11)
 replace HPB:=hid (Aa HPB.o hb11)
 replace HR3:=hid (HR3.o.bl hb11)
 replace HP9:=hid (Aa HP9.o hb11)
 replace HSR:=hid (HSR.o.bl hb11)
 replace HQ:=hid (Aa HQ.o hb11)
 have HTR:=hid htr
 have HG:=hid hrg
 clear hb11 htr hrg
 have HMV:Hd (∀ ss' ts',Vj key l1 ts ss' ts'->Fb ss' ts'=0->Ck ss' ts' nm ls c' t' ch'):=fun ss' ts' hO hc=>Yk HS.o.ok HLR.o HLM.o HKN.o HTR.o (by omega) hO hc
 have hll:=(HTR.o.len HS.o.ok).1
 obtain⟨P15,eP15⟩:∃ P,w11.heap.size=P:=⟨_,rfl⟩
 obtain⟨w12,ew12⟩:∃ V,w11.alloc (.cells #[.int .i64 c',.string t',.slice ca' ch'.length cc'] 38)=V:=⟨_,rfl⟩
 have hbw12:Below w11.heap.size w11 w12:=by rw[<- ew12];exact aN _ _
 have HP15:Hd (w12.heap[P15]?=some (.cells #[.int .i64 c',.string t',.slice ca' ch'.length cc'] 38 (0,0))):=by show _=_;rw[<- ew12,<- eP15];exact Ai _ _
 replace HT:=hid (HT.o.bl hbw12)
 replace HP:=hid (HP.o.bl hbw12)
 replace HS:=hid (HS.o.bl hbw12)
 replace HB:=hid (bN HB.o hbw12)
 replace HPB:=hid (Aa HPB.o hbw12)
 replace HR3:=hid (HR3.o.bl hbw12)
 replace HP9:=hid (Aa HP9.o hbw12)
 replace HSR:=hid (HSR.o.bl hbw12)
 replace HQ:=hid (Aa HQ.o hbw12)
 replace HG:=hid (HG.o.bl hbw12)
 clear hbw12
 clear HP15
 obtain⟨d0,d1⟩:=Af HPB.o
 go_wp2_with fail
 clear ew12 eP15 d0 d1
 obtain⟨oS,eoS⟩:∃ y,Zf l1 ts key tx (decide (tx.size<=2000))=y:=⟨_,rfl⟩
 obtain⟨oT,eoT⟩:∃ y,Ze l1 ts key (decide (tx.size<=2000))=y:=⟨_,rfl⟩
 obtain⟨oC,eoC⟩:∃ y,Ci l1 ts key (decide (tx.size<=2000))=y:=⟨_,rfl⟩
 have HV1:Hd (oC=0->Ck oS oT nm ls c' t' ch'):=fun hc=>by
  have hz:Ci l1 ts key (decide (tx.size<=2000))=0:=eoC.trans hc;have ht2:tx.size<=2000:=by simpa using (Iq hz).2.1
  rw[<- eoS,<- eoT];exact HMV.o _ _ (ps_off hz) (ps_valid (x:=tx) hz ht2).1
 have HC1:=hid (ps_sp HS.o hkey htx c1 c2)
 rw[eoS,eoT,eoC] at HC1
 clear eoS eoT eoC
 refine HC1.o.mono ?_
 rintro e w13 ⟨hb13,oa,op,ob,oq,rfl,hs⟩
 replace HT:=hid (HT.o.bl hb13)
 replace HP:=hid (HP.o.bl hb13)
 replace HS:=hid (HS.o.bl hb13)
 replace HB:=hid (bN HB.o hb13)
 replace HPB:=hid (Aa HPB.o hb13)
 replace HR3:=hid (HR3.o.bl hb13)
 replace HP9:=hid (Aa HP9.o hb13)
 replace HSR:=hid (HSR.o.bl hb13)
 replace HQ:=hid (Aa HQ.o hb13)
 replace HG:=hid (HG.o.bl hb13)
 have HS1:=hid hs
 clear hb13 hs HC1
 obtain⟨P16,eP16⟩:∃ P,w13.heap.size=P:=⟨_,rfl⟩
 obtain⟨w14,ew14⟩:∃ V,w13.alloc (.cells #[.slice oa oS.length op,.slice ob oT.length oq] 26)=V:=⟨_,rfl⟩
 have hbw14:Below w13.heap.size w13 w14:=by rw[<- ew14];exact aN _ _
 have HP16:Hd (w14.heap[P16]?=some (.cells #[.slice oa oS.length op,.slice ob oT.length oq] 26 (0,0))):=by show _=_;rw[<- ew14,<- eP16];exact Ai _ _
 replace HT:=hid (HT.o.bl hbw14)
 replace HP:=hid (HP.o.bl hbw14)
 replace HS:=hid (HS.o.bl hbw14)
 replace HB:=hid (bN HB.o hbw14)
 replace HPB:=hid (Aa HPB.o hbw14)
 replace HR3:=hid (HR3.o.bl hbw14)
 replace HP9:=hid (Aa HP9.o hbw14)
 replace HSR:=hid (HSR.o.bl hbw14)
 replace HQ:=hid (Aa HQ.o hbw14)
 replace HG:=hid (HG.o.bl hbw14)
 replace HS1:=hid (HS1.o.bl hbw14)
 clear hbw14
 obtain⟨d0,d1⟩:=Af HPB.o
 have d9:=Bz HP9.o
 go_wp2_with fail
 clear ew14 eP16 d0 d1 d9
 obtain⟨uS,euS⟩:∃ y,ptS l1 ts key (Al is)=y:=⟨_,rfl⟩
 obtain⟨uT,euT⟩:∃ y,Zd l1 ts key is (Al is)=y:=⟨_,rfl⟩
 obtain⟨uC,euC⟩:∃ y,Ci l1 ts key (Al is)=y:=⟨_,rfl⟩
 have HV2:Hd (uC=0->Ck uS uT nm ls c' t' ch'):=fun hc=>by
  have hz:Ci l1 ts key (Al is)=0:=euC.trans hc;rw[<- euS,<- euT];exact HMV.o _ _ (pt_off hz) (Qt.2 (pt_valid hz).1)
 have HC2:=hid (pt_sp HS.o hkey HR3.o hil hix c1 c2 gc)
 rw[euS,euT,euC] at HC2
 clear euS euT euC
 refine HC2.o.mono ?_
 rintro e w15 ⟨hb15,ua,up,ub,uq,rfl,hs⟩
 replace HT:=hid (HT.o.bl hb15)
 replace HP:=hid (HP.o.bl hb15)
 replace HS:=hid (HS.o.bl hb15)
 replace HB:=hid (bN HB.o hb15)
 replace HPB:=hid (Aa HPB.o hb15)
 replace HR3:=hid (HR3.o.bl hb15)
 replace HP9:=hid (Aa HP9.o hb15)
 replace HSR:=hid (HSR.o.bl hb15)
 replace HQ:=hid (Aa HQ.o hb15)
 replace HG:=hid (HG.o.bl hb15)
 replace HS1:=hid (HS1.o.bl hb15)
 replace HP16:=hid (Aa HP16.o hb15)
 have HS2:=hid hs
 clear hb15 hs HC2
 obtain⟨P18,eP18⟩:∃ P,w15.heap.size=P:=⟨_,rfl⟩
 obtain⟨w16,ew16⟩:∃ V,w15.alloc (.cells #[.slice ua uS.length up,.slice ub uT.length uq] 26)=V:=⟨_,rfl⟩
 have hbw16:Below w15.heap.size w15 w16:=by rw[<- ew16];exact aN _ _
 have HP18:Hd (w16.heap[P18]?=some (.cells #[.slice ua uS.length up,.slice ub uT.length uq] 26 (0,0))):=by show _=_;rw[<- ew16,<- eP18];exact Ai _ _
 replace HT:=hid (HT.o.bl hbw16)
 replace HP:=hid (HP.o.bl hbw16)
 replace HS:=hid (HS.o.bl hbw16)
 replace HB:=hid (bN HB.o hbw16)
 replace HPB:=hid (Aa HPB.o hbw16)
 replace HR3:=hid (HR3.o.bl hbw16)
 replace HP9:=hid (Aa HP9.o hbw16)
 replace HSR:=hid (HSR.o.bl hbw16)
 replace HQ:=hid (Aa HQ.o hbw16)
 replace HG:=hid (HG.o.bl hbw16)
 replace HS1:=hid (HS1.o.bl hbw16)
 replace HP16:=hid (Aa HP16.o hbw16)
 replace HS2:=hid (HS2.o.bl hbw16)
 clear hbw16
 go_wp2_with fail
 clear ew16 eP18
 have HOC:Hd (oC=0\/(oC == 0)=false):=by by_cases h:oC=0;exact Or.inl h;exact Or.inr (by simp[h])
 have HUC:Hd (uC=0\/(uC == 0)=false):=by by_cases h:uC=0;exact Or.inl h;exact Or.inr (by simp[h])
 rcases HOC.o with rfl|hoc
 ·rcases HUC.o with rfl|huc
  ·clear HOC HUC;refine Lt.begin 99 (fun w'=>w'.heap[Q]?=some (.cells #[.int .i64 c',.string t',.slice ca ch'.length cc] 38 (0,0))/\w'.heap[P16]?=some (.cells #[.slice oa oS.length op,.slice ob oT.length oq] 26 (0,0))/\w'.heap[P18]?=some (.cells #[.slice ua uS.length up,.slice ub uT.length uq] 26 (0,0))) (by kernel_rfl) ?_;obtain⟨wD,eD⟩:∃ y,w16.drew=y:=⟨_,rfl⟩;rw[eD];have hbD:Below w16.heap.size w16 wD:=by rw[<- eD];exact(Below.refl _ _).drew
   clear eD;replace HT:=hid (HT.o.bl hbD);replace HP:=hid (HP.o.bl hbD);replace HS:=hid (HS.o.bl hbD);replace HB:=hid (bt HB.o hbD);replace HPB:=hid (Aa HPB.o hbD);replace HR3:=hid (HR3.o.bl hbD);replace HP9:=hid (Aa HP9.o hbD);replace HSR:=hid (HSR.o.bl hbD);replace HQ:=hid (Aa HQ.o hbD);replace HG:=hid (HG.o.bl hbD);replace HS1:=hid (HS1.o.bl hbD);replace HP16:=hid (Aa HP16.o hbD);replace HS2:=hid (HS2.o.bl hbD);replace HP18:=hid (Aa HP18.o hbD);have hS0:(fun w'=>w'.heap[Q]?=some (.cells #[.int .i64 c',.string t',.slice ca ch'.length cc] 38 (0,0))/\w'.heap[P16]?=some (.cells #[.slice oa oS.length op,.slice ob oT.length oq] 26 (0,0))/\w'.heap[P18]?=some (.cells #[.slice ua uS.length up,.slice ub uT.length uq] 26 (0,0))) wD:=⟨HQ.o,HP16.o,HP18.o⟩;change K 0 _
   iterate 5
    refine Lt.ti (v:=?_) hS0 ?_ ?_;rotate_left 1
    ·rintro w ⟨s1,s2,s3⟩;obtain⟨x0,x1,x2,xf⟩:=Et s1;obtain⟨c0,c1⟩:=Af s2;obtain⟨y0,y1⟩:=Af s3;go_simp;first|done|with_reducible rfl
    simp only[gX]
   refine Lt.ti (i:=6) (v:=?_) hS0 ?_ ?_;rotate_left 1
   ·rintro w ⟨s1,s2,s3⟩;obtain⟨x0,x1,x2,xf⟩:=Et s1;obtain⟨c0,c1⟩:=Af s2;obtain⟨y0,y1⟩:=Af s3;go_simp;first|done|with_reducible rfl
   simp only[gX];refine Lt.sp (i:=5) (fun K hK=>?_);go_simp;refine(Ju _ _ _ _ _ _ nm _ HT.o HP.o HS1.o.ok HS1.o.m (by omega)).mono ?_;rintro e wCo ⟨hbC,c9,t9,ch9,ca9,cn9,cc9,rfl,hcl,hch9⟩;obtain⟨e1,e2,e3⟩:=Kq HS1.o.ok (HV1.o (by trivial)).clean hcl;replace e1:=e1.symm;replace e2:=e2.symm;replace e3:=e3.symm;subst e1;subst e2;subst e3;obtain⟨rfl,hst9⟩:=Kb hch9;replace HT:=hid (HT.o.bl hbC);replace HP:=hid (HP.o.bl hbC);replace HS:=hid (HS.o.bl hbC);replace HB:=hid (bt HB.o hbC);replace HPB:=hid (Aa HPB.o hbC);replace HR3:=hid (HR3.o.bl hbC);replace HP9:=hid (Aa HP9.o hbC);replace HSR:=hid (HSR.o.bl hbC);replace HQ:=hid (Aa HQ.o hbC);replace HG:=hid (HG.o.bl hbC);replace HS1:=hid (HS1.o.bl hbC);replace HP16:=hid (Aa HP16.o hbC);replace HS2:=hid (HS2.o.bl hbC);replace HP18:=hid (Aa HP18.o hbC);have hS1:(fun w'=>w'.heap[Q]?=some (.cells #[.int .i64 c',.string t',.slice ca ch'.length cc] 38 (0,0))/\w'.heap[P16]?=some (.cells #[.slice oa oS.length op,.slice ob oT.length oq] 26 (0,0))/\w'.heap[P18]?=some (.cells #[.slice ua uS.length up,.slice ub uT.length uq] 26 (0,0))) wCo:=⟨HQ.o,HP16.o,HP18.o⟩;have HS9o:=hid hst9;refine hK.out _ _ (fun _=>hS1) (fun _=>?_);clear hK K hbC hcl hch9 hst9
   try simp only[gX]
   refine Lt.sp (i:=7) (fun K hK=>?_);go_simp;refine(Mq _ _ _ _ _ _ _ _ _ rfl HS9o.o HSR.o (by omega)).mono ?_;rintro e wEo ⟨rfl,hbE⟩;replace HT:=hid (HT.o.bl hbE);replace HP:=hid (HP.o.bl hbE);replace HS:=hid (HS.o.bl hbE);replace HB:=hid (bt HB.o hbE);replace HPB:=hid (Aa HPB.o hbE);replace HR3:=hid (HR3.o.bl hbE);replace HP9:=hid (Aa HP9.o hbE);replace HSR:=hid (HSR.o.bl hbE);replace HQ:=hid (Aa HQ.o hbE);replace HG:=hid (HG.o.bl hbE);replace HS1:=hid (HS1.o.bl hbE);replace HP16:=hid (Aa HP16.o hbE);replace HS2:=hid (HS2.o.bl hbE);replace HP18:=hid (Aa HP18.o hbE);replace HS9o:=hid (HS9o.o.bl hbE);have hS2:(fun w'=>w'.heap[Q]?=some (.cells #[.int .i64 c',.string t',.slice ca ch'.length cc] 38 (0,0))/\w'.heap[P16]?=some (.cells #[.slice oa oS.length op,.slice ob oT.length oq] 26 (0,0))/\w'.heap[P18]?=some (.cells #[.slice ua uS.length up,.slice ub uT.length uq] 26 (0,0))) wEo:=⟨HQ.o,HP16.o,HP18.o⟩;refine hK.out _ _ (fun _=>hS2) (fun _=>?_);clear hK K hbE
   try simp only[gX]
   change K 8 _
   iterate 8
    refine Lt.ti (v:=?_) hS2 ?_ ?_;rotate_left 1
    ·rintro w ⟨s1,s2,s3⟩;obtain⟨x0,x1,x2,xf⟩:=Et s1;obtain⟨c0,c1⟩:=Af s2;obtain⟨y0,y1⟩:=Af s3;go_simp;first|done|with_reducible rfl
    simp only[gX]
   refine Lt.ti (i:=17) (v:=?_) hS2 ?_ ?_;rotate_left 1
   ·rintro w ⟨s1,s2,s3⟩;obtain⟨x0,x1,x2,xf⟩:=Et s1;obtain⟨c0,c1⟩:=Af s2;obtain⟨y0,y1⟩:=Af s3;go_simp;first|done|with_reducible rfl
   simp only[gX];refine Lt.sp (i:=16) (fun K hK=>?_);go_simp;refine(Ju _ _ _ _ _ _ nm _ HT.o HP.o HS2.o.ok HS2.o.m (by omega)).mono ?_;rintro e wCu ⟨hbC,c9,t9,ch9,ca9,cn9,cc9,rfl,hcl,hch9⟩;obtain⟨e1,e2,e3⟩:=Kq HS2.o.ok (HV2.o (by trivial)).clean hcl;replace e1:=e1.symm;replace e2:=e2.symm;replace e3:=e3.symm;subst e1;subst e2;subst e3;obtain⟨rfl,hst9⟩:=Kb hch9;replace HT:=hid (HT.o.bl hbC);replace HP:=hid (HP.o.bl hbC);replace HS:=hid (HS.o.bl hbC);replace HB:=hid (bt HB.o hbC);replace HPB:=hid (Aa HPB.o hbC);replace HR3:=hid (HR3.o.bl hbC);replace HP9:=hid (Aa HP9.o hbC);replace HSR:=hid (HSR.o.bl hbC);replace HQ:=hid (Aa HQ.o hbC);replace HG:=hid (HG.o.bl hbC);replace HS1:=hid (HS1.o.bl hbC);replace HP16:=hid (Aa HP16.o hbC);replace HS2:=hid (HS2.o.bl hbC);replace HP18:=hid (Aa HP18.o hbC);replace HS9o:=hid (HS9o.o.bl hbC);have hS3:(fun w'=>w'.heap[Q]?=some (.cells #[.int .i64 c',.string t',.slice ca ch'.length cc] 38 (0,0))/\w'.heap[P16]?=some (.cells #[.slice oa oS.length op,.slice ob oT.length oq] 26 (0,0))/\w'.heap[P18]?=some (.cells #[.slice ua uS.length up,.slice ub uT.length uq] 26 (0,0))) wCu:=⟨HQ.o,HP16.o,HP18.o⟩;have HS9u:=hid hst9;refine hK.out _ _ (fun _=>hS3) (fun _=>?_);clear hK K hbC hcl hch9 hst9
   try simp only[gX]
   refine Lt.sp (i:=18) (fun K hK=>?_);go_simp;refine(Mq _ _ _ _ _ _ _ _ _ rfl HS9u.o HSR.o (by omega)).mono ?_;rintro e wEu ⟨rfl,hbE⟩;replace HT:=hid (HT.o.bl hbE);replace HP:=hid (HP.o.bl hbE);replace HS:=hid (HS.o.bl hbE);replace HB:=hid (bt HB.o hbE);replace HPB:=hid (Aa HPB.o hbE);replace HR3:=hid (HR3.o.bl hbE);replace HP9:=hid (Aa HP9.o hbE);replace HSR:=hid (HSR.o.bl hbE);replace HQ:=hid (Aa HQ.o hbE);replace HG:=hid (HG.o.bl hbE);replace HS1:=hid (HS1.o.bl hbE);replace HP16:=hid (Aa HP16.o hbE);replace HS2:=hid (HS2.o.bl hbE);replace HP18:=hid (Aa HP18.o hbE);replace HS9o:=hid (HS9o.o.bl hbE);replace HS9u:=hid (HS9u.o.bl hbE);have hS4:(fun w'=>w'.heap[Q]?=some (.cells #[.int .i64 c',.string t',.slice ca ch'.length cc] 38 (0,0))/\w'.heap[P16]?=some (.cells #[.slice oa oS.length op,.slice ob oT.length oq] 26 (0,0))/\w'.heap[P18]?=some (.cells #[.slice ua uS.length up,.slice ub uT.length uq] 26 (0,0))) wEu:=⟨HQ.o,HP16.o,HP18.o⟩;refine hK.out _ _ (fun _=>hS4) (fun _=>?_);clear hK K hbE
   try simp only[gX]
   change K 19 _
   iterate 3
    refine Lt.ti (v:=?_) hS4 ?_ ?_;rotate_left 1
    ·rintro w ⟨s1,s2,s3⟩;obtain⟨x0,x1,x2,xf⟩:=Et s1;obtain⟨c0,c1⟩:=Af s2;obtain⟨y0,y1⟩:=Af s3;go_simp;first|done|with_reducible rfl
    simp only[gX]
   refine Lt.done (by kernel_rfl) ?_ _;obtain⟨y0,y1⟩:=Af HP18.o;go_wp2_with fail;clear y0 y1;refine(Tf _ _ _ _ _ _ nm _ HT.o HP.o HS2.o.ok HS2.o.m (by omega)).mono ?_;rintro e wT ⟨hbT,lsT,c9,t9,ch9,ca9,cn9,cc9,laT,lnT,lcT,rfl,htrT,hchT,hloT⟩;obtain⟨e1,e2,e3,e4⟩:=Ck.uniq HS2.o.ok (HV2.o (by trivial)) htrT;replace e1:=e1.symm;replace e2:=e2.symm;replace e3:=e3.symm;replace e4:=e4.symm;subst e1;subst e2;subst e3;subst e4;obtain⟨rfl,hrgT⟩:=Rm hloT;have HGT:=hid hrgT;have HG2:=hid (HG.o.bl hbT);have HBT:=hid (bN HB.o hbT);clear hbT htrT hchT hloT hrgT;obtain⟨wU,ewU⟩:∃ V,wT.alloc (.cells #[.int .i64 c',.string t',.slice ca9 cn9 cc9] 38)=V:=⟨_,rfl⟩;have hbU:Below wT.heap.size wT wU:=by rw[<- ewU];exact aN _ _
   have HGU:=hid (HGT.o.bl hbU);have HG3:=hid (HG2.o.bl hbU);have HBU:=hid (bN HBT.o hbU);clear hbU;go_wp2_with fail;clear ewU;refine(Yh laT la lcT lc _ _ wU rfl HGU.o HG3.o (by omega)).mono ?_;rintro e wV ⟨rfl,hbV⟩;go_wp2_with fail;go_ret;exact⟨rfl,bN HBU.o hbV⟩
  ·clear HOC HUC;refine Lt.begin 99 (fun w'=>w'.heap[Q]?=some (.cells #[.int .i64 c',.string t',.slice ca ch'.length cc] 38 (0,0))/\w'.heap[P16]?=some (.cells #[.slice oa oS.length op,.slice ob oT.length oq] 26 (0,0))/\w'.heap[P18]?=some (.cells #[.slice ua uS.length up,.slice ub uT.length uq] 26 (0,0))) (by kernel_rfl) ?_;obtain⟨wD,eD⟩:∃ y,w16.drew=y:=⟨_,rfl⟩;rw[eD];have hbD:Below w16.heap.size w16 wD:=by rw[<- eD];exact(Below.refl _ _).drew
   clear eD;replace HT:=hid (HT.o.bl hbD);replace HP:=hid (HP.o.bl hbD);replace HS:=hid (HS.o.bl hbD);replace HB:=hid (bt HB.o hbD);replace HPB:=hid (Aa HPB.o hbD);replace HR3:=hid (HR3.o.bl hbD);replace HP9:=hid (Aa HP9.o hbD);replace HSR:=hid (HSR.o.bl hbD);replace HQ:=hid (Aa HQ.o hbD);replace HG:=hid (HG.o.bl hbD);replace HS1:=hid (HS1.o.bl hbD);replace HP16:=hid (Aa HP16.o hbD);replace HS2:=hid (HS2.o.bl hbD);replace HP18:=hid (Aa HP18.o hbD);have hS0:(fun w'=>w'.heap[Q]?=some (.cells #[.int .i64 c',.string t',.slice ca ch'.length cc] 38 (0,0))/\w'.heap[P16]?=some (.cells #[.slice oa oS.length op,.slice ob oT.length oq] 26 (0,0))/\w'.heap[P18]?=some (.cells #[.slice ua uS.length up,.slice ub uT.length uq] 26 (0,0))) wD:=⟨HQ.o,HP16.o,HP18.o⟩;change K 0 _
   iterate 5
    refine Lt.ti (v:=?_) hS0 ?_ ?_;rotate_left 1
    ·rintro w ⟨s1,s2,s3⟩;obtain⟨x0,x1,x2,xf⟩:=Et s1;obtain⟨c0,c1⟩:=Af s2;obtain⟨y0,y1⟩:=Af s3;go_simp;first|done|with_reducible rfl
    simp only[gX]
   refine Lt.ti (i:=6) (v:=?_) hS0 ?_ ?_;rotate_left 1
   ·rintro w ⟨s1,s2,s3⟩;obtain⟨x0,x1,x2,xf⟩:=Et s1;obtain⟨c0,c1⟩:=Af s2;obtain⟨y0,y1⟩:=Af s3;go_simp;first|done|with_reducible rfl
   simp only[gX];refine Lt.sp (i:=5) (fun K hK=>?_);go_simp;refine(Ju _ _ _ _ _ _ nm _ HT.o HP.o HS1.o.ok HS1.o.m (by omega)).mono ?_;rintro e wCo ⟨hbC,c9,t9,ch9,ca9,cn9,cc9,rfl,hcl,hch9⟩;obtain⟨e1,e2,e3⟩:=Kq HS1.o.ok (HV1.o (by trivial)).clean hcl;replace e1:=e1.symm;replace e2:=e2.symm;replace e3:=e3.symm;subst e1;subst e2;subst e3;obtain⟨rfl,hst9⟩:=Kb hch9;replace HT:=hid (HT.o.bl hbC);replace HP:=hid (HP.o.bl hbC);replace HS:=hid (HS.o.bl hbC);replace HB:=hid (bt HB.o hbC);replace HPB:=hid (Aa HPB.o hbC);replace HR3:=hid (HR3.o.bl hbC);replace HP9:=hid (Aa HP9.o hbC);replace HSR:=hid (HSR.o.bl hbC);replace HQ:=hid (Aa HQ.o hbC);replace HG:=hid (HG.o.bl hbC);replace HS1:=hid (HS1.o.bl hbC);replace HP16:=hid (Aa HP16.o hbC);replace HS2:=hid (HS2.o.bl hbC);replace HP18:=hid (Aa HP18.o hbC);have hS1:(fun w'=>w'.heap[Q]?=some (.cells #[.int .i64 c',.string t',.slice ca ch'.length cc] 38 (0,0))/\w'.heap[P16]?=some (.cells #[.slice oa oS.length op,.slice ob oT.length oq] 26 (0,0))/\w'.heap[P18]?=some (.cells #[.slice ua uS.length up,.slice ub uT.length uq] 26 (0,0))) wCo:=⟨HQ.o,HP16.o,HP18.o⟩;have HS9o:=hid hst9;refine hK.out _ _ (fun _=>hS1) (fun _=>?_);clear hK K hbC hcl hch9 hst9
   try simp only[gX]
   refine Lt.sp (i:=7) (fun K hK=>?_);go_simp;refine(Mq _ _ _ _ _ _ _ _ _ rfl HS9o.o HSR.o (by omega)).mono ?_;rintro e wEo ⟨rfl,hbE⟩;replace HT:=hid (HT.o.bl hbE);replace HP:=hid (HP.o.bl hbE);replace HS:=hid (HS.o.bl hbE);replace HB:=hid (bt HB.o hbE);replace HPB:=hid (Aa HPB.o hbE);replace HR3:=hid (HR3.o.bl hbE);replace HP9:=hid (Aa HP9.o hbE);replace HSR:=hid (HSR.o.bl hbE);replace HQ:=hid (Aa HQ.o hbE);replace HG:=hid (HG.o.bl hbE);replace HS1:=hid (HS1.o.bl hbE);replace HP16:=hid (Aa HP16.o hbE);replace HS2:=hid (HS2.o.bl hbE);replace HP18:=hid (Aa HP18.o hbE);replace HS9o:=hid (HS9o.o.bl hbE);have hS2:(fun w'=>w'.heap[Q]?=some (.cells #[.int .i64 c',.string t',.slice ca ch'.length cc] 38 (0,0))/\w'.heap[P16]?=some (.cells #[.slice oa oS.length op,.slice ob oT.length oq] 26 (0,0))/\w'.heap[P18]?=some (.cells #[.slice ua uS.length up,.slice ub uT.length uq] 26 (0,0))) wEo:=⟨HQ.o,HP16.o,HP18.o⟩;refine hK.out _ _ (fun _=>hS2) (fun _=>?_);clear hK K hbE
   try simp only[gX]
   change K 8 _
   iterate 6
    refine Lt.ti (v:=?_) hS2 ?_ ?_;rotate_left 1
    ·rintro w ⟨s1,s2,s3⟩;obtain⟨x0,x1,x2,xf⟩:=Et s1;obtain⟨c0,c1⟩:=Af s2;obtain⟨y0,y1⟩:=Af s3;go_simp;first|done|with_reducible rfl
    simp only[gX]
   refine Lt.take (i:=14) (oi:={ dst:=some 104,op:=Op.load 26 (Operand.tmp 18),type:=26,pos := "laws.go:623",after:=#[{ on:=13,ground:=Ground.guard }],guard:=some (13,true) }) (v:=undef) rfl (by kernel_rfl) (by kernel_rfl) (by kernel_rfl) (by kernel_rfl) (fun _ _ _ h=>h) hS2 (Or.inr ⟨by rfl,rfl⟩) ?_;simp only[gX];refine Lt.take (i:=15) (oi:={ dst:=some 105,op:=Op.move (Operand.tmp 6),type:=9,pos := "laws.go:623",after:=#[{ on:=13,ground:=Ground.guard }],guard:=some (13,true) }) (v:=undef) rfl (by kernel_rfl) (by kernel_rfl) (by kernel_rfl) (by kernel_rfl) (fun _ _ _ h=>h) hS2 (Or.inr ⟨by rfl,rfl⟩) ?_;simp only[gX];refine Lt.take (i:=16) (oi:={ dst:=some 106,op:=Op.call { callee:=Callee.value (Operand.func 7),args:=#[Operand.tmp 104,Operand.tmp 105],argTypes:=#[26,9] },type:=38,pos := "laws.go:623",after:=#[{ on:=14,ground:=Ground.data },{ on:=15,ground:=Ground.data },{ on:=13,ground:=Ground.chain },{ on:=13,ground:=Ground.guard }],guard:=some (13,true) }) (v:=undef) rfl (by kernel_rfl) (by kernel_rfl) (by kernel_rfl) (by kernel_rfl) (fun _ _ _ h=>h) hS2 (Or.inr ⟨by rfl,rfl⟩) ?_;simp only[gX];refine Lt.take (i:=17) (oi:={ dst:=some 107,op:=Op.load 38 (Operand.tmp 13),type:=38,pos := "laws.go:623",after:=#[{ on:=13,ground:=Ground.guard }],guard:=some (13,true) }) (v:=undef) rfl (by kernel_rfl) (by kernel_rfl) (by kernel_rfl) (by kernel_rfl) (fun _ _ _ h=>h) hS2 (Or.inr ⟨by rfl,rfl⟩) ?_;simp only[gX];refine Lt.take (i:=18) (oi:={ dst:=some 108,op:=Op.call { callee:=Callee.value (Operand.func 8),args:=#[Operand.tmp 106,Operand.tmp 107],argTypes:=#[38,38] },type:=4,pos := "laws.go:623",after:=#[{ on:=16,ground:=Ground.data },{ on:=17,ground:=Ground.data },{ on:=16,ground:=Ground.chain },{ on:=13,ground:=Ground.guard }],guard:=some (13,true) }) (v:=undef) rfl (by kernel_rfl) (by kernel_rfl) (by kernel_rfl) (by kernel_rfl) (fun _ _ _ h=>h) hS2 (Or.inr ⟨by rfl,rfl⟩) ?_;simp only[gX];refine Lt.take (i:=19) (oi:={ dst:=some 109,op:=Op.unOp UnOp.not 4 (Operand.tmp 108),type:=4,pos := "laws.go:623",after:=#[{ on:=18,ground:=Ground.data },{ on:=13,ground:=Ground.guard }],guard:=some (13,true) }) (v:=undef) rfl (by kernel_rfl) (by kernel_rfl) (by kernel_rfl) (by kernel_rfl) (fun _ _ _ h=>h) hS2 (Or.inr ⟨by rfl,rfl⟩) ?_;simp only[gX];change K 20 _
   iterate 2
    refine Lt.ti (v:=?_) hS2 ?_ ?_;rotate_left 1
    ·rintro w ⟨s1,s2,s3⟩;obtain⟨x0,x1,x2,xf⟩:=Et s1;obtain⟨c0,c1⟩:=Af s2;obtain⟨y0,y1⟩:=Af s3;go_simp;first|done|with_reducible rfl
    simp only[gX]
   refine Lt.done (by kernel_rfl) ?_ _;go_wp2_with fail;go_ret;exact⟨rfl,HB.o⟩
 ·rcases HUC.o with rfl|huc
  ·clear HOC HUC;refine Lt.begin 99 (fun w'=>w'.heap[Q]?=some (.cells #[.int .i64 c',.string t',.slice ca ch'.length cc] 38 (0,0))/\w'.heap[P16]?=some (.cells #[.slice oa oS.length op,.slice ob oT.length oq] 26 (0,0))/\w'.heap[P18]?=some (.cells #[.slice ua uS.length up,.slice ub uT.length uq] 26 (0,0))) (by kernel_rfl) ?_;obtain⟨wD,eD⟩:∃ y,w16.drew=y:=⟨_,rfl⟩;rw[eD];have hbD:Below w16.heap.size w16 wD:=by rw[<- eD];exact(Below.refl _ _).drew
   clear eD;replace HT:=hid (HT.o.bl hbD);replace HP:=hid (HP.o.bl hbD);replace HS:=hid (HS.o.bl hbD);replace HB:=hid (bt HB.o hbD);replace HPB:=hid (Aa HPB.o hbD);replace HR3:=hid (HR3.o.bl hbD);replace HP9:=hid (Aa HP9.o hbD);replace HSR:=hid (HSR.o.bl hbD);replace HQ:=hid (Aa HQ.o hbD);replace HG:=hid (HG.o.bl hbD);replace HS1:=hid (HS1.o.bl hbD);replace HP16:=hid (Aa HP16.o hbD);replace HS2:=hid (HS2.o.bl hbD);replace HP18:=hid (Aa HP18.o hbD);have hS0:(fun w'=>w'.heap[Q]?=some (.cells #[.int .i64 c',.string t',.slice ca ch'.length cc] 38 (0,0))/\w'.heap[P16]?=some (.cells #[.slice oa oS.length op,.slice ob oT.length oq] 26 (0,0))/\w'.heap[P18]?=some (.cells #[.slice ua uS.length up,.slice ub uT.length uq] 26 (0,0))) wD:=⟨HQ.o,HP16.o,HP18.o⟩;change K 0 _
   iterate 3
    refine Lt.ti (v:=?_) hS0 ?_ ?_;rotate_left 1
    ·rintro w ⟨s1,s2,s3⟩;obtain⟨x0,x1,x2,xf⟩:=Et s1;obtain⟨c0,c1⟩:=Af s2;obtain⟨y0,y1⟩:=Af s3;go_simp;first|done|with_reducible rfl
    simp only[gX]
   refine Lt.take (i:=3) (oi:={ dst:=some 93,op:=Op.load 26 (Operand.tmp 16),type:=26,pos := "laws.go:623",after:=#[{ on:=2,ground:=Ground.guard }],guard:=some (2,true) }) (v:=undef) rfl (by kernel_rfl) (by kernel_rfl) (by kernel_rfl) (by kernel_rfl) (fun _ _ _ h=>h) hS0 (Or.inr ⟨by rfl,rfl⟩) ?_;simp only[gX];refine Lt.take (i:=4) (oi:={ dst:=some 94,op:=Op.move (Operand.tmp 6),type:=9,pos := "laws.go:623",after:=#[{ on:=2,ground:=Ground.guard }],guard:=some (2,true) }) (v:=undef) rfl (by kernel_rfl) (by kernel_rfl) (by kernel_rfl) (by kernel_rfl) (fun _ _ _ h=>h) hS0 (Or.inr ⟨by rfl,rfl⟩) ?_;simp only[gX];refine Lt.take (i:=5) (oi:={ dst:=some 95,op:=Op.call { callee:=Callee.value (Operand.func 7),args:=#[Operand.tmp 93,Operand.tmp 94],argTypes:=#[26,9] },type:=38,pos := "laws.go:623",after:=#[{ on:=3,ground:=Ground.data },{ on:=4,ground:=Ground.data },{ on:=2,ground:=Ground.chain },{ on:=2,ground:=Ground.guard }],guard:=some (2,true) }) (v:=undef) rfl (by kernel_rfl) (by kernel_rfl) (by kernel_rfl) (by kernel_rfl) (fun _ _ _ h=>h) hS0 (Or.inr ⟨by rfl,rfl⟩) ?_;simp only[gX];refine Lt.take (i:=6) (oi:={ dst:=some 96,op:=Op.load 38 (Operand.tmp 13),type:=38,pos := "laws.go:623",after:=#[{ on:=2,ground:=Ground.guard }],guard:=some (2,true) }) (v:=undef) rfl (by kernel_rfl) (by kernel_rfl) (by kernel_rfl) (by kernel_rfl) (fun _ _ _ h=>h) hS0 (Or.inr ⟨by rfl,rfl⟩) ?_;simp only[gX];refine Lt.take (i:=7) (oi:={ dst:=some 97,op:=Op.call { callee:=Callee.value (Operand.func 8),args:=#[Operand.tmp 95,Operand.tmp 96],argTypes:=#[38,38] },type:=4,pos := "laws.go:623",after:=#[{ on:=5,ground:=Ground.data },{ on:=6,ground:=Ground.data },{ on:=5,ground:=Ground.chain },{ on:=2,ground:=Ground.guard }],guard:=some (2,true) }) (v:=undef) rfl (by kernel_rfl) (by kernel_rfl) (by kernel_rfl) (by kernel_rfl) (fun _ _ _ h=>h) hS0 (Or.inr ⟨by rfl,rfl⟩) ?_;simp only[gX];refine Lt.take (i:=8) (oi:={ dst:=some 98,op:=Op.unOp UnOp.not 4 (Operand.tmp 97),type:=4,pos := "laws.go:623",after:=#[{ on:=7,ground:=Ground.data },{ on:=2,ground:=Ground.guard }],guard:=some (2,true) }) (v:=undef) rfl (by kernel_rfl) (by kernel_rfl) (by kernel_rfl) (by kernel_rfl) (fun _ _ _ h=>h) hS0 (Or.inr ⟨by rfl,rfl⟩) ?_;simp only[gX];change K 9 _
   iterate 7
    refine Lt.ti (v:=?_) hS0 ?_ ?_;rotate_left 1
    ·rintro w ⟨s1,s2,s3⟩;obtain⟨x0,x1,x2,xf⟩:=Et s1;obtain⟨c0,c1⟩:=Af s2;obtain⟨y0,y1⟩:=Af s3;go_simp;first|done|with_reducible rfl
    simp only[gX]
   refine Lt.ti (i:=17) (v:=?_) hS0 ?_ ?_;rotate_left 1
   ·rintro w ⟨s1,s2,s3⟩;obtain⟨x0,x1,x2,xf⟩:=Et s1;obtain⟨c0,c1⟩:=Af s2;obtain⟨y0,y1⟩:=Af s3;go_simp;first|done|with_reducible rfl
   simp only[gX];refine Lt.sp (i:=16) (fun K hK=>?_);go_simp;refine(Ju _ _ _ _ _ _ nm _ HT.o HP.o HS2.o.ok HS2.o.m (by omega)).mono ?_;rintro e wCu ⟨hbC,c9,t9,ch9,ca9,cn9,cc9,rfl,hcl,hch9⟩;obtain⟨e1,e2,e3⟩:=Kq HS2.o.ok (HV2.o (by trivial)).clean hcl;replace e1:=e1.symm;replace e2:=e2.symm;replace e3:=e3.symm;subst e1;subst e2;subst e3;obtain⟨rfl,hst9⟩:=Kb hch9;replace HT:=hid (HT.o.bl hbC);replace HP:=hid (HP.o.bl hbC);replace HS:=hid (HS.o.bl hbC);replace HB:=hid (bt HB.o hbC);replace HPB:=hid (Aa HPB.o hbC);replace HR3:=hid (HR3.o.bl hbC);replace HP9:=hid (Aa HP9.o hbC);replace HSR:=hid (HSR.o.bl hbC);replace HQ:=hid (Aa HQ.o hbC);replace HG:=hid (HG.o.bl hbC);replace HS1:=hid (HS1.o.bl hbC);replace HP16:=hid (Aa HP16.o hbC);replace HS2:=hid (HS2.o.bl hbC);replace HP18:=hid (Aa HP18.o hbC);have hS1:(fun w'=>w'.heap[Q]?=some (.cells #[.int .i64 c',.string t',.slice ca ch'.length cc] 38 (0,0))/\w'.heap[P16]?=some (.cells #[.slice oa oS.length op,.slice ob oT.length oq] 26 (0,0))/\w'.heap[P18]?=some (.cells #[.slice ua uS.length up,.slice ub uT.length uq] 26 (0,0))) wCu:=⟨HQ.o,HP16.o,HP18.o⟩;have HS9u:=hid hst9;refine hK.out _ _ (fun _=>hS1) (fun _=>?_);clear hK K hbC hcl hch9 hst9
   try simp only[gX]
   refine Lt.sp (i:=18) (fun K hK=>?_);go_simp;refine(Mq _ _ _ _ _ _ _ _ _ rfl HS9u.o HSR.o (by omega)).mono ?_;rintro e wEu ⟨rfl,hbE⟩;replace HT:=hid (HT.o.bl hbE);replace HP:=hid (HP.o.bl hbE);replace HS:=hid (HS.o.bl hbE);replace HB:=hid (bt HB.o hbE);replace HPB:=hid (Aa HPB.o hbE);replace HR3:=hid (HR3.o.bl hbE);replace HP9:=hid (Aa HP9.o hbE);replace HSR:=hid (HSR.o.bl hbE);replace HQ:=hid (Aa HQ.o hbE);replace HG:=hid (HG.o.bl hbE);replace HS1:=hid (HS1.o.bl hbE);replace HP16:=hid (Aa HP16.o hbE);replace HS2:=hid (HS2.o.bl hbE);replace HP18:=hid (Aa HP18.o hbE);replace HS9u:=hid (HS9u.o.bl hbE);have hS2:(fun w'=>w'.heap[Q]?=some (.cells #[.int .i64 c',.string t',.slice ca ch'.length cc] 38 (0,0))/\w'.heap[P16]?=some (.cells #[.slice oa oS.length op,.slice ob oT.length oq] 26 (0,0))/\w'.heap[P18]?=some (.cells #[.slice ua uS.length up,.slice ub uT.length uq] 26 (0,0))) wEu:=⟨HQ.o,HP16.o,HP18.o⟩;refine hK.out _ _ (fun _=>hS2) (fun _=>?_);clear hK K hbE
   try simp only[gX]
   change K 19 _
   iterate 3
    refine Lt.ti (v:=?_) hS2 ?_ ?_;rotate_left 1
    ·rintro w ⟨s1,s2,s3⟩;obtain⟨x0,x1,x2,xf⟩:=Et s1;obtain⟨c0,c1⟩:=Af s2;obtain⟨y0,y1⟩:=Af s3;go_simp;first|done|with_reducible rfl
    simp only[gX]
   refine Lt.done (by kernel_rfl) ?_ _;obtain⟨y0,y1⟩:=Af HP18.o;go_wp2_with fail;clear y0 y1;refine(Tf _ _ _ _ _ _ nm _ HT.o HP.o HS2.o.ok HS2.o.m (by omega)).mono ?_;rintro e wT ⟨hbT,lsT,c9,t9,ch9,ca9,cn9,cc9,laT,lnT,lcT,rfl,htrT,hchT,hloT⟩;obtain⟨e1,e2,e3,e4⟩:=Ck.uniq HS2.o.ok (HV2.o (by trivial)) htrT;replace e1:=e1.symm;replace e2:=e2.symm;replace e3:=e3.symm;replace e4:=e4.symm;subst e1;subst e2;subst e3;subst e4;obtain⟨rfl,hrgT⟩:=Rm hloT;have HGT:=hid hrgT;have HG2:=hid (HG.o.bl hbT);have HBT:=hid (bN HB.o hbT);clear hbT htrT hchT hloT hrgT;obtain⟨wU,ewU⟩:∃ V,wT.alloc (.cells #[.int .i64 c',.string t',.slice ca9 cn9 cc9] 38)=V:=⟨_,rfl⟩;have hbU:Below wT.heap.size wT wU:=by rw[<- ewU];exact aN _ _
   have HGU:=hid (HGT.o.bl hbU);have HG3:=hid (HG2.o.bl hbU);have HBU:=hid (bN HBT.o hbU);clear hbU;go_wp2_with fail;clear ewU;refine(Yh laT la lcT lc _ _ wU rfl HGU.o HG3.o (by omega)).mono ?_;rintro e wV ⟨rfl,hbV⟩;go_wp2_with fail;go_ret;exact⟨rfl,bN HBU.o hbV⟩
  ·clear HOC HUC;refine Lt.begin 99 (fun w'=>w'.heap[Q]?=some (.cells #[.int .i64 c',.string t',.slice ca ch'.length cc] 38 (0,0))/\w'.heap[P16]?=some (.cells #[.slice oa oS.length op,.slice ob oT.length oq] 26 (0,0))/\w'.heap[P18]?=some (.cells #[.slice ua uS.length up,.slice ub uT.length uq] 26 (0,0))) (by kernel_rfl) ?_;obtain⟨wD,eD⟩:∃ y,w16.drew=y:=⟨_,rfl⟩;rw[eD];have hbD:Below w16.heap.size w16 wD:=by rw[<- eD];exact(Below.refl _ _).drew
   clear eD;replace HT:=hid (HT.o.bl hbD);replace HP:=hid (HP.o.bl hbD);replace HS:=hid (HS.o.bl hbD);replace HB:=hid (bt HB.o hbD);replace HPB:=hid (Aa HPB.o hbD);replace HR3:=hid (HR3.o.bl hbD);replace HP9:=hid (Aa HP9.o hbD);replace HSR:=hid (HSR.o.bl hbD);replace HQ:=hid (Aa HQ.o hbD);replace HG:=hid (HG.o.bl hbD);replace HS1:=hid (HS1.o.bl hbD);replace HP16:=hid (Aa HP16.o hbD);replace HS2:=hid (HS2.o.bl hbD);replace HP18:=hid (Aa HP18.o hbD);have hS0:(fun w'=>w'.heap[Q]?=some (.cells #[.int .i64 c',.string t',.slice ca ch'.length cc] 38 (0,0))/\w'.heap[P16]?=some (.cells #[.slice oa oS.length op,.slice ob oT.length oq] 26 (0,0))/\w'.heap[P18]?=some (.cells #[.slice ua uS.length up,.slice ub uT.length uq] 26 (0,0))) wD:=⟨HQ.o,HP16.o,HP18.o⟩;change K 0 _
   iterate 3
    refine Lt.ti (v:=?_) hS0 ?_ ?_;rotate_left 1
    ·rintro w ⟨s1,s2,s3⟩;obtain⟨x0,x1,x2,xf⟩:=Et s1;obtain⟨c0,c1⟩:=Af s2;obtain⟨y0,y1⟩:=Af s3;go_simp;first|done|with_reducible rfl
    simp only[gX]
   refine Lt.take (i:=3) (oi:={ dst:=some 93,op:=Op.load 26 (Operand.tmp 16),type:=26,pos := "laws.go:623",after:=#[{ on:=2,ground:=Ground.guard }],guard:=some (2,true) }) (v:=undef) rfl (by kernel_rfl) (by kernel_rfl) (by kernel_rfl) (by kernel_rfl) (fun _ _ _ h=>h) hS0 (Or.inr ⟨by rfl,rfl⟩) ?_;simp only[gX];refine Lt.take (i:=4) (oi:={ dst:=some 94,op:=Op.move (Operand.tmp 6),type:=9,pos := "laws.go:623",after:=#[{ on:=2,ground:=Ground.guard }],guard:=some (2,true) }) (v:=undef) rfl (by kernel_rfl) (by kernel_rfl) (by kernel_rfl) (by kernel_rfl) (fun _ _ _ h=>h) hS0 (Or.inr ⟨by rfl,rfl⟩) ?_;simp only[gX];refine Lt.take (i:=5) (oi:={ dst:=some 95,op:=Op.call { callee:=Callee.value (Operand.func 7),args:=#[Operand.tmp 93,Operand.tmp 94],argTypes:=#[26,9] },type:=38,pos := "laws.go:623",after:=#[{ on:=3,ground:=Ground.data },{ on:=4,ground:=Ground.data },{ on:=2,ground:=Ground.chain },{ on:=2,ground:=Ground.guard }],guard:=some (2,true) }) (v:=undef) rfl (by kernel_rfl) (by kernel_rfl) (by kernel_rfl) (by kernel_rfl) (fun _ _ _ h=>h) hS0 (Or.inr ⟨by rfl,rfl⟩) ?_;simp only[gX];refine Lt.take (i:=6) (oi:={ dst:=some 96,op:=Op.load 38 (Operand.tmp 13),type:=38,pos := "laws.go:623",after:=#[{ on:=2,ground:=Ground.guard }],guard:=some (2,true) }) (v:=undef) rfl (by kernel_rfl) (by kernel_rfl) (by kernel_rfl) (by kernel_rfl) (fun _ _ _ h=>h) hS0 (Or.inr ⟨by rfl,rfl⟩) ?_;simp only[gX];refine Lt.take (i:=7) (oi:={ dst:=some 97,op:=Op.call { callee:=Callee.value (Operand.func 8),args:=#[Operand.tmp 95,Operand.tmp 96],argTypes:=#[38,38] },type:=4,pos := "laws.go:623",after:=#[{ on:=5,ground:=Ground.data },{ on:=6,ground:=Ground.data },{ on:=5,ground:=Ground.chain },{ on:=2,ground:=Ground.guard }],guard:=some (2,true) }) (v:=undef) rfl (by kernel_rfl) (by kernel_rfl) (by kernel_rfl) (by kernel_rfl) (fun _ _ _ h=>h) hS0 (Or.inr ⟨by rfl,rfl⟩) ?_;simp only[gX];refine Lt.take (i:=8) (oi:={ dst:=some 98,op:=Op.unOp UnOp.not 4 (Operand.tmp 97),type:=4,pos := "laws.go:623",after:=#[{ on:=7,ground:=Ground.data },{ on:=2,ground:=Ground.guard }],guard:=some (2,true) }) (v:=undef) rfl (by kernel_rfl) (by kernel_rfl) (by kernel_rfl) (by kernel_rfl) (fun _ _ _ h=>h) hS0 (Or.inr ⟨by rfl,rfl⟩) ?_;simp only[gX];change K 9 _
   iterate 5
    refine Lt.ti (v:=?_) hS0 ?_ ?_;rotate_left 1
    ·rintro w ⟨s1,s2,s3⟩;obtain⟨x0,x1,x2,xf⟩:=Et s1;obtain⟨c0,c1⟩:=Af s2;obtain⟨y0,y1⟩:=Af s3;go_simp;first|done|with_reducible rfl
    simp only[gX]
   refine Lt.take (i:=14) (oi:={ dst:=some 104,op:=Op.load 26 (Operand.tmp 18),type:=26,pos := "laws.go:623",after:=#[{ on:=13,ground:=Ground.guard }],guard:=some (13,true) }) (v:=undef) rfl (by kernel_rfl) (by kernel_rfl) (by kernel_rfl) (by kernel_rfl) (fun _ _ _ h=>h) hS0 (Or.inr ⟨by rfl,rfl⟩) ?_;simp only[gX];refine Lt.take (i:=15) (oi:={ dst:=some 105,op:=Op.move (Operand.tmp 6),type:=9,pos := "laws.go:623",after:=#[{ on:=13,ground:=Ground.guard }],guard:=some (13,true) }) (v:=undef) rfl (by kernel_rfl) (by kernel_rfl) (by kernel_rfl) (by kernel_rfl) (fun _ _ _ h=>h) hS0 (Or.inr ⟨by rfl,rfl⟩) ?_;simp only[gX];refine Lt.take (i:=16) (oi:={ dst:=some 106,op:=Op.call { callee:=Callee.value (Operand.func 7),args:=#[Operand.tmp 104,Operand.tmp 105],argTypes:=#[26,9] },type:=38,pos := "laws.go:623",after:=#[{ on:=14,ground:=Ground.data },{ on:=15,ground:=Ground.data },{ on:=13,ground:=Ground.chain },{ on:=13,ground:=Ground.guard }],guard:=some (13,true) }) (v:=undef) rfl (by kernel_rfl) (by kernel_rfl) (by kernel_rfl) (by kernel_rfl) (fun _ _ _ h=>h) hS0 (Or.inr ⟨by rfl,rfl⟩) ?_;simp only[gX];refine Lt.take (i:=17) (oi:={ dst:=some 107,op:=Op.load 38 (Operand.tmp 13),type:=38,pos := "laws.go:623",after:=#[{ on:=13,ground:=Ground.guard }],guard:=some (13,true) }) (v:=undef) rfl (by kernel_rfl) (by kernel_rfl) (by kernel_rfl) (by kernel_rfl) (fun _ _ _ h=>h) hS0 (Or.inr ⟨by rfl,rfl⟩) ?_;simp only[gX];refine Lt.take (i:=18) (oi:={ dst:=some 108,op:=Op.call { callee:=Callee.value (Operand.func 8),args:=#[Operand.tmp 106,Operand.tmp 107],argTypes:=#[38,38] },type:=4,pos := "laws.go:623",after:=#[{ on:=16,ground:=Ground.data },{ on:=17,ground:=Ground.data },{ on:=16,ground:=Ground.chain },{ on:=13,ground:=Ground.guard }],guard:=some (13,true) }) (v:=undef) rfl (by kernel_rfl) (by kernel_rfl) (by kernel_rfl) (by kernel_rfl) (fun _ _ _ h=>h) hS0 (Or.inr ⟨by rfl,rfl⟩) ?_;simp only[gX];refine Lt.take (i:=19) (oi:={ dst:=some 109,op:=Op.unOp UnOp.not 4 (Operand.tmp 108),type:=4,pos := "laws.go:623",after:=#[{ on:=18,ground:=Ground.data },{ on:=13,ground:=Ground.guard }],guard:=some (13,true) }) (v:=undef) rfl (by kernel_rfl) (by kernel_rfl) (by kernel_rfl) (by kernel_rfl) (fun _ _ _ h=>h) hS0 (Or.inr ⟨by rfl,rfl⟩) ?_;simp only[gX];change K 20 _
   iterate 2
    refine Lt.ti (v:=?_) hS0 ?_ ?_;rotate_left 1
    ·rintro w ⟨s1,s2,s3⟩;obtain⟨x0,x1,x2,xf⟩:=Et s1;obtain⟨c0,c1⟩:=Af s2;obtain⟨y0,y1⟩:=Af s3;go_simp;first|done|with_reducible rfl
    simp only[gX]
   refine Lt.done (by kernel_rfl) ?_ _;go_wp2_with fail;go_ret;exact⟨rfl,HB.o⟩
end Go.Proofs.YtdbjfdhknkfjaaaGreatDoor
