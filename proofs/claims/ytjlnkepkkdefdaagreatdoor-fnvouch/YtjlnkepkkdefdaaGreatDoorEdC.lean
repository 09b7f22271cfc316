import Derived.Test.YtjlnkepkkdefdaaGreatDoorDrF
import Derived.Test.YtjlnkepkkdefdaaGreatDoorDrC
import Derived.Test.YtjlnkepkkdefdaaGreatDoorTNPiece
import Derived.Test.YtjlnkepkkdefdaaGreatDoorEdD
import Derived.Laws.AppendOwnNone
namespace Go.Proofs.YtjlnkepkkdefdaaGreatDoor
set_option maxHeartbeats 4000000
set_option maxRecDepth 100000
open Go.RowKit Go.Deep
set_option linter.unusedVariables false
set_option linter.unusedSimpArgs false
theorem conv_three (W:World) (g:Nat) (u0 u1 u2:UInt8) (h0:W.cell? ⟨g,0,none⟩=some (.int .u8 u0.toNat)) (h1:W.cell? ⟨g,1,none⟩=some (.int .u8 u1.toNat)) (h2:W.cell? ⟨g,2,none⟩=some (.int .u8 u2.toNat)):(convert 22 9 (.slice (some ⟨g,0,none⟩) 3 3)).run Tryz.prog W=.ok (.string ⟨#[u0,u1,u2]⟩) W:=
 run_convert_bytes_back (P:=Tryz.prog) W 22 9 5 ⟨g,0,none⟩ 3 [u0,u1,u2] Tryz.underlying22 Tryz.underlying5 Tryz.underlying9 (fun t ht=>by
  have ht':t<3:=by simpa using ht
  rcases (show t=0\/t=1\/t=2 by omega) with rfl|rfl|rfl
  ·simpa [Addr.add] using h0
  ·simpa [Addr.add] using h1
  ·simpa [Addr.add] using h2)
def dg (k:Nat):UInt8:=UInt8.ofNat (48+k)
def Lp (i:Nat):ByteArray:=(⟨#[116]⟩:ByteArray)++⟨#[dg (i / 100),dg (i / 10 % 10),dg (i % 10)]⟩
theorem Nr (i:Int) (w:World) (h0:0<=i) (h1:i<=1000):Calls Tryz.prog 93 #[.int .i64 i] w fun e w'=>(∃ s:ByteArray,e=.returned (.string s)/\s.size<=10/\s=Lp i.toNat)/\Below w.heap.size w w':=by
 have e0:((dg (i.toNat / 100)).toNat:Int)=48+i / 100:=by unfold dg;rw[UInt8.toNat_ofNat'];omega
 have e1:((dg (i.toNat / 10 % 10)).toNat:Int)=48+i / 10 % 10:=by unfold dg;rw[UInt8.toNat_ofNat'];omega
 have e2:((dg (i.toNat % 10)).toNat:Int)=48+i % 10:=by unfold dg;rw[UInt8.toNat_ofNat'];omega
 have hcv:=conv_three (w.alloc (.cells #[.int .u8 (48+i / 100),.int .u8 (48+i / 10 % 10),.int .u8 (48+i % 10)] 5)) w.heap.size (dg (i.toNat / 100)) (dg (i.toNat / 10 % 10)) (dg (i.toNat % 10)) (by rw[e0];simp[go_sem]) (by rw[e1];simp[go_sem]) (by rw[e2];simp[go_sem])
 clear e0 e1 e2
 go_enter Tryz.func93,Tryz.ntmps93
 go_wp2
 go_ret
 exact⟨⟨_,rfl,by rw[ByteArray.size_append];show 1+3<=10;omega,rfl⟩,aN _ _⟩
theorem Yu (i:Int) (w:World) (h0:0<=i) (h1:i<=1000):Calls Tryz.prog 93 #[.int .i64 i] w fun e w'=>(∃ s:ByteArray,e=.returned (.string s)/\s.size<=10)/\Below w.heap.size w w':=
 (Nr i w h0 h1).mono fun e w' h=>⟨by obtain⟨s,h1,h2,_⟩:=h.1;exact⟨s,h1,h2⟩,h.2⟩
theorem Jw {W:World} {d n:Nat} {cs:Array Value} {is:List I3} {lo:Nat} (h:W.heap[d]?=some (.cells cs 106 (0,0))) (hl:lo<=d) (hc:cs.toList=Di is) (hn:n=is.length) (hs:n<=1000):W.ownsRow lo 106 3 (.slice (some ⟨d,0,none⟩) n n) n (Di is):=by
 have e:cs.size=n*3:=by rw[<- Array.length_toList,hc,Bu,hn]
 refine⟨by rw[Bu,hn],Or.inr ⟨d,n,cs,rfl,hl,h,Nat.le_refl _,by unfold maxLen;omega,e,?_⟩⟩
 rw[hc,List.take_of_length_le (by rw[Bu];omega)]
def Tq (n:Nat) (e:ByteArray) (i:Nat):T2:=⟨Lp i,[⟨1,if i+1=n then e else Lp (i+1),0⟩,⟨12,⟨#[]⟩,0⟩,⟨15,⟨#[]⟩,0⟩]⟩
theorem ch_snoc {l2:List TC} {n:Nat} {e nm x:ByteArray} {c:Value} (h:l2.map (·.t)=(List.range l2.length).map (Tq n e)) (hn:nm=Lp l2.length) (hx:x=if l2.length+1=n then e else Lp (l2.length+1)):(l2++[(⟨⟨nm,[⟨1,x,0⟩,⟨12,⟨#[]⟩,0⟩,⟨15,⟨#[]⟩,0⟩]⟩,c⟩:TC)]).map (·.t)=(List.range (l2.length+1)).map (Tq n e):=by
 rw[List.map_append,h,List.range_succ,List.map_append]
 subst hn;subst hx
 rfl
theorem ch_len {l2:List TC} {n k:Nat} {e:ByteArray} (h:l2.map (·.t)=(List.range k).map (Tq n e)):∀ a∈l2,a.t.code.length=3:=fun a ha=>by
 have:a.t∈l2.map (·.t):=List.mem_map_of_mem ha
 rw[h] at this
 obtain⟨i,_,e⟩:=List.mem_map.mp this
 rw[<- e]
 rfl
theorem Qv (n:Nat) (end_:ByteArray) (w:World) (hn:n<=100) (he:end_.size<=50000) :
  Calls Tryz.prog 61 #[.int .i64 n,.string end_] w fun e w'=>Below w.heap.size w w'/\∃ v1 v2 l1 l2,e=.returned (.agg #[v1,v2])/\Dw w' w.heap.size v1 v2 l1 l2/\Tm l1 l2/\l2.length=n/\l1.length<=10/\(∀ a∈l2,a.t.code.length=3)/\l2.map (·.t)=(List.range n).map (Tq n end_):=by
 obtain⟨w3,e3⟩:∃ y,((w.alloc (.cells #[.slice none 0 0,.slice none 0 0] 26)).alloc (.cells #[.string ⟨#[97]⟩,.string ⟨#[103,114,111,117,110,100]⟩] 98)).alloc (.cells #[.slice (some ⟨w.heap.size+1,0,none⟩) 1 1,.slice none 0 0] 26)=y:=⟨_,rfl⟩
 have hb3:Below w.heap.size w w3:=by rw[<- e3];exact((aN _ _).alloc (by simp) _).alloc (by simp;omega) _
 have q0:w3.heap[w.heap.size]?=some (.cells #[.slice none 0 0,.slice none 0 0] 26 (0,0)):=by rw[<- e3,Lib.alloc_old _ _ _ (by simp;omega),Lib.alloc_old _ _ _ (by simp)];exact Al _ _
 have q1:w3.heap[w.heap.size+1]?=some (.cells #[.string ⟨#[97]⟩,.string ⟨#[103,114,111,117,110,100]⟩] 98 (0,0)):=by
  rw[<- e3,Lib.alloc_old _ _ _ (by simp)];have h:=Al (w.alloc (.cells #[.slice none 0 0,.slice none 0 0] 26)) (.cells #[.string ⟨#[97]⟩,.string ⟨#[103,114,111,117,110,100]⟩] 98);rw[show (w.alloc (.cells #[.slice none 0 0,.slice none 0 0] 26)).heap.size=w.heap.size+1 from by simp] at h;exact h
 have q2:w3.heap[w.heap.size+2]?=some (.cells #[.slice (some ⟨w.heap.size+1,0,none⟩) 1 1,.slice none 0 0] 26 (0,0)):=by
  have h:=Al ((w.alloc (.cells #[.slice none 0 0,.slice none 0 0] 26)).alloc (.cells #[.string ⟨#[97]⟩,.string ⟨#[103,114,111,117,110,100]⟩] 98)) (.cells #[.slice (some ⟨w.heap.size+1,0,none⟩) 1 1,.slice none 0 0] 26);rw[show ((w.alloc (.cells #[.slice none 0 0,.slice none 0 0] 26)).alloc (.cells #[.string ⟨#[97]⟩,.string ⟨#[103,114,111,117,110,100]⟩] 98)).heap.size=w.heap.size+2 from by simp,e3] at h;exact h
 have HS3:Hd (Sw w3 (w.heap.size+2) w.heap.size (.slice (some ⟨w.heap.size+1,0,none⟩) 1 1) (.slice none 0 0) [(⟨⟨#[97]⟩,⟨#[103,114,111,117,110,100]⟩⟩:S2)] []):=by
  refine⟨q2,⟨⟨rfl,Or.inr ⟨w.heap.size+1,1,_,rfl,Nat.le_succ _,q1,Nat.le_refl _,by unfold maxLen;omega,rfl,rfl⟩⟩,World.ownsRow_nil _ _ _ _,fun a ha=>by cases ha⟩,Tm.nil.putS (by simp) ⟨by decide,by decide⟩,by omega⟩
 have HQ3:Hd (w3.heap[w.heap.size]?=some (.cells #[.slice none 0 0,.slice none 0 0] 26 (0,0))):=q0
 have HE:Hd (end_.size<=50000):=he
 have E3:Hd (((w.alloc (.cells #[.slice none 0 0,.slice none 0 0] 26)).alloc (.cells #[.string ⟨#[97]⟩,.string ⟨#[103,114,111,117,110,100]⟩] 98)).alloc (.cells #[.slice (some ⟨w.heap.size+1,0,none⟩) 1 1,.slice none 0 0] 26)=w3):=e3
 clear q0 q1 q2 he e3
 obtain⟨P,eP⟩:∃ P,w.heap.size+2=P:=⟨_,rfl⟩
 have hPw:w.heap.size<=P:=by omega
 have hPn:w.heap.size≠P:=by omega
 rw[eP] at HS3
 go_enter Tryz.func61,Tryz.ntmps61
 go_wp2_with fail
 rw[E3.o]
 clear E3 eP
 go_loopw [6] (fun i wr=>∃(k:Nat) (v2:Value) (l2:List TC),k<=n/\i=.int .i64 k/\l2.length=k/\Hd (Sw wr P w.heap.size (.slice (some ⟨w.heap.size+1,0,none⟩) 1 1) v2 [(⟨⟨#[97]⟩,⟨#[103,114,111,117,110,100]⟩⟩:S2)] l2)/\Hd (Below w.heap.size w wr)/\Hd (wr.heap[w.heap.size]?=some (.cells #[.slice none 0 0,.slice none 0 0] 26 (0,0)))/\Hd (l2.map (·.t)=(List.range k).map (Tq n end_))) (fun i _=>n-(intOf i).toNat)
 case atStart=>exact⟨0,_,[],Nat.zero_le _,rfl,rfl,HS3,hb3,HQ3,(rfl:([]:List TC).map (·.t)=(List.range 0).map (Tq n end_))⟩
 case round=>
  obtain⟨k,v2,l2,hk,rfl,hl2,HS,HB,HQ,HC⟩:=hrel;subst hl2;clear HS3 HQ3 hb3
  by_cases hlt:l2.length<n
  ·have hkI:(l2.length:Int)<(n:Int):=by omega
   go_wp2_with fail;refine(Nr ((l2.length:Int)+1) wr (by omega) (by omega)).mono ?_;rintro e wl ⟨⟨s0,rfl,hs0,hsx⟩,hbl⟩;have HSX:Hd (s0=Lp (l2.length+1)):=hsx;clear hsx;replace HS:=hid (HS.o.bl hbl);replace HB:=hid (bt HB.o hbl);replace HQ:=hid (Aa HQ.o hbl);clear hbl;replace hs0:s0.size<=50000:=by omega
   obtain⟨bq,hend⟩:∃ b,((l2.length:Int) == (n:Int)-1)=b:=⟨_,rfl⟩;cases bq
   all_goals
    go_wp2_with fail;have HEND:=hid hend;clear hend;refine Lt.begin 14 (fun w'=>w'.heap[P]?=some (.cells #[.slice (some ⟨w.heap.size+1,0,none⟩) 1 1,v2] 26 (0,0))) (by kernel_rfl) ?_;obtain⟨wD,eD⟩:∃ y,wl.drew=y:=⟨_,rfl⟩;rw[eD];(have hbD:Below wl.heap.size wl wD:=by rw[<- eD];exact(Below.refl _ _).drew);clear eD;replace HS:=hid (HS.o.bl hbD);replace HB:=hid (bt HB.o hbD);replace HQ:=hid (Aa HQ.o hbD);have hS0:(fun w'=>w'.heap[P]?=some (.cells #[.slice (some ⟨w.heap.size+1,0,none⟩) 1 1,v2] 26 (0,0))) wD:=HS.o.blk;change K 0 _
    iterate 3
     refine Lt.ti (v:=?_) hS0 ?_ ?_;rotate_left 1
     ·rintro w hSw;obtain⟨c0,c1⟩:=Am hSw;go_simp;first|done|with_reducible rfl
     simp only[gX]
    refine Lt.ti (i:=4) (v:=?_) hS0 ?_ ?_;rotate_left 1
    ·rintro w hSw;obtain⟨c0,c1⟩:=Am hSw;go_simp;first|done|with_reducible rfl
    simp only[gX];refine Lt.sp (i:=3) (fun K hK=>?_);go_simp;refine(Nr (l2.length:Int) _ (by omega) (by omega)).mono ?_;rintro e wA ⟨⟨nm,rfl,hnm,hnx⟩,hbA⟩;have HNX:Hd (nm=Lp l2.length):=hnx;clear hnx;replace HS:=hid (HS.o.bl hbA);replace HB:=hid (bt HB.o hbA);replace HQ:=hid (Aa HQ.o hbA);have hS1:(fun w'=>w'.heap[P]?=some (.cells #[.slice (some ⟨w.heap.size+1,0,none⟩) 1 1,v2] 26 (0,0))) wA:=HS.o.blk;refine hK.out _ _ (fun _=>hS1) (fun _=>?_);clear hK K hbA
    try simp only[gX]
    refine Lt.sp (i:=5) (fun K hK=>?_);go_simp;refine(Ax _ _).mono ?_;rintro e wB ⟨rfl,hbB⟩;replace HS:=hid (HS.o.bl hbB);replace HB:=hid (bt HB.o hbB);replace HQ:=hid (Aa HQ.o hbB);have hS2:(fun w'=>w'.heap[P]?=some (.cells #[.slice (some ⟨w.heap.size+1,0,none⟩) 1 1,v2] 26 (0,0))) wB:=HS.o.blk;refine hK.out _ _ (fun _=>hS2) (fun _=>?_);clear hK K hbB
    try simp only[gX]
    refine Lt.sp (i:=6) (fun K hK=>?_);go_simp;refine(Au _ _).mono ?_;rintro e wC ⟨rfl,hbC⟩;replace HS:=hid (HS.o.bl hbC);replace HB:=hid (bt HB.o hbC);replace HQ:=hid (Aa HQ.o hbC);have hS3:(fun w'=>w'.heap[P]?=some (.cells #[.slice (some ⟨w.heap.size+1,0,none⟩) 1 1,v2] 26 (0,0))) wC:=HS.o.blk;refine hK.out _ _ (fun _=>hS3) (fun _=>?_);clear hK K hbC
    try simp only[gX]
    refine Lt.sp (i:=7) (fun K hK=>?_);go_simp;refine(Au _ _).mono ?_;rintro e wE ⟨rfl,hbE⟩;replace HS:=hid (HS.o.bl hbE);replace HB:=hid (bt HB.o hbE);replace HQ:=hid (Aa HQ.o hbE);have hS4:(fun w'=>w'.heap[P]?=some (.cells #[.slice (some ⟨w.heap.size+1,0,none⟩) 1 1,v2] 26 (0,0))) wE:=HS.o.blk;refine hK.out _ _ (fun _=>hS4) (fun _=>?_);clear hK K hbE
    try simp only[gX]
    have hsE:w.heap.size<=wE.heap.size:=HB.o.size;refine Lt.sp (i:=8) (fun K hK=>?_);go_simp;refine Bz (Q:=fun x=>K _ x) ?_;intro wF hbwF HF
    try dsimp only
    replace HS:=hid (HS.o.bl hbwF);replace HB:=hid (bt HB.o hbwF);replace HQ:=hid (Aa HQ.o hbwF);have hS5:(fun w'=>w'.heap[P]?=some (.cells #[.slice (some ⟨w.heap.size+1,0,none⟩) 1 1,v2] 26 (0,0))) wF:=HS.o.blk;refine hK.out _ _ (fun _=>hS5) (fun _=>?_);clear hK K hbwF
    try simp only[gX]
    change K 9 _
    iterate 2
     refine Lt.ti (v:=?_) hS5 ?_ ?_;rotate_left 1
     ·rintro w hSw;obtain⟨c0,c1⟩:=Am hSw;go_simp;first|done|with_reducible rfl
     simp only[gX]
    refine Lt.sp (i:=11) (fun K hK=>?_);go_simp;refine Bz (Q:=fun x=>K _ x) ?_;intro wG hbwG HG
    try dsimp only
    replace HS:=hid (HS.o.bl hbwG);replace HB:=hid (bt HB.o hbwG);replace HQ:=hid (Aa HQ.o hbwG);replace HF:=hid (Aa HF.o hbwG);have hS6:(fun w'=>w'.heap[P]?=some (.cells #[.slice (some ⟨w.heap.size+1,0,none⟩) 1 1,v2] 26 (0,0))) wG:=HS.o.blk;refine hK.out _ _ (fun _=>hS6) (fun _=>?_);clear hK K hbwG
    try simp only[gX]
    refine Lt.sp (i:=12) (fun K hK=>?_);refine Et rfl (by rfl) w.heap.size v2 _ (Ha l2) (by rfl) HS.o.dw.t wF.heap.size _ _ rfl (by rfl) HG.o HB.o.size (by omega) ?_;intro g' cap' w7 hown7 hgrow;have HN:=hid (HS.o.putT (s:=⟨nm,[⟨1,_,0⟩,⟨12,⟨#[]⟩,0⟩,⟨15,⟨#[]⟩,0⟩]⟩) (Jw HF.o hsE rfl rfl (by show 3<=1000;omega)) hgrow hown7 (by omega) ⟨by show nm.size<=50000;omega,by simp,short3 (by first|exact hs0|exact HE.o) (Nat.zero_le _) (Nat.zero_le _)⟩);have hrow:∀ j,v2.ownBlock=some j->w.heap.size<=j:=fun j hj=>(HS.o.dw.t.lt j hj).1;have HP7:=hid (HS.o.app hgrow (Or.inr rfl));have HB7:=hid ((HB.o.grown hgrow HB.o.size (fun j hj=>hrow j hj)).setCell (p:=⟨P,1,none⟩) hPw (.slice (some ⟨g',0,none⟩) (l2.length+1) cap'));have HQ7:=hid (Bp (Cj HQ.o hgrow (Cx.ne ⟨_,HQ.o⟩ HS.o.dw.t (by decide))) (by omega) (c:=P) (j:=1) (.slice (some ⟨g',0,none⟩) (l2.length+1) cap'));obtain⟨c0,c1⟩:=Am HP7.o;have fz:=fun j=>fH HP7.o j;refine hK.out _ _ (fun _=>HP7.o) (fun _=>?_);clear hK K hgrow hown7 hrow;simp only[gX];refine Lt.ti (i:=13) (v:=?_) HP7.o ?_ ?_;rotate_left 1
    ·rintro w hSw;obtain⟨c0,c1⟩:=Am hSw;go_simp;first|done|with_reducible rfl
    simp only[gX];refine Lt.sp (i:=14) (fun K hK=>?_);go_simp;refine hK.out _ _ (fun h=>absurd rfl h) (fun _=>?_);clear hK K;refine Lt.done (by kernel_rfl) ?_ _;go_wp2;go_roundw
    case rel=>exact⟨l2.length+1,_,_,by omega,by go_num,by simp,HN,HB7,HQ7,hid (ch_snoc HC.o HNX.o (by have h:=HEND.o;simp at h;first|(rw[if_pos (by omega)])|(rw[if_neg (by omega)];exact HSX.o)))⟩
    case measure=>simp[intOf];omega
  ·have ek:l2.length=n:=by omega
   subst ek;obtain⟨d0,d1,_⟩:=HS.o.c;obtain⟨r0,r1⟩:=Am HQ.o;have fr:=fun j=>fH HQ.o j;obtain⟨a2,p2,rfl⟩:=HS.o.dw.s2;go_wp2;exact bR (v:=.agg #[.slice (some ⟨w.heap.size+1,0,none⟩) 1 1,.slice a2 l2.length p2]) (by simp[results,Tryz.results61,go_sem,r0,r1]) rfl ⟨Nv HB.o (Nat.le_refl _) _ _,_,_,_,l2,rfl,HS.o.dw.ret HQ.o,HS.o.bd,rfl,by simp,ch_len HC.o,HC.o⟩
theorem Lx {w:World} {B e sz n:Nat} {v:Value} {xs:List Value} (h:w.ownsRow B e sz v n xs) (hne:v≠.slice none 0 0):∃ g cp,v=.slice (some ⟨g,0,none⟩) n cp:=by
 rcases h.2 with ⟨q,_⟩|⟨g,cap,cur,q,_⟩
 ·exact absurd q hne
 ·exact⟨g,cap,q⟩
theorem Pi {is:List I3} {ys:List Value} (h:Fw is is.length ys) (hl:ys.length=is.length*3):ys=Di is:=by
 refine List.ext_getElem? fun j=>?_
 rcases Nat.lt_or_ge j (is.length*3) with q|q
 ·have h1:=h (j / 3) (by omega);have h2:=Ia is (j / 3) (j % 3) (by omega) (by omega);rw[show j / 3*3+j % 3=j by omega] at h2;rw[h2]
  rcases (show j % 3=0\/j % 3=1\/j % 3=2 by omega) with r|r|r
  ·rw[r];rw[show j / 3*3=j by omega] at h1;exact h1.1
  ·rw[r];rw[show j / 3*3+1=j by omega] at h1;exact h1.2.1
  ·rw[r];rw[show j / 3*3+2=j by omega] at h1;exact h1.2.2
 ·rw[List.getElem?_eq_none (by omega),List.getElem?_eq_none (by rw[Bu];omega)]
theorem insV_eq (is:List I3):Hz is=Di is:=Pi (Mb is) (Ka is)
theorem Sh (b off:Nat) (cap:Nat) (is:List I3) (w:World) (hc:Dr w (some ⟨b,off,none⟩) is) (hl:is.length<=1048576) :
  Calls Tryz.prog 97 #[.agg #[.slice (some ⟨b,off,none⟩) is.length cap]] w fun e w'=>Below w.heap.size w w'/\∃ g cp,e=.returned (.agg #[.slice (some ⟨g,0,none⟩) is.length cp])/\w'.ownsRow w.heap.size 106 3 (.slice (some ⟨g,0,none⟩) is.length cp) is.length (Hz is):=by
 obtain⟨i0,hi,hz0,hz1,hz2⟩:=info_parts Tryz.info165b
 have hb0:Below w.heap.size w ((w.alloc (.cells #[.slice (some ⟨b,off,none⟩) is.length cap] 37)).alloc (.cells #[.slice none 0 0] 37)):=(aN _ _).alloc (by simp) _
 have hb1:Below w.heap.size w (((w.alloc (.cells #[.slice (some ⟨b,off,none⟩) is.length cap] 37)).alloc (.cells #[.slice none 0 0] 37)).alloc (.cells #[] 106)):=hb0.alloc (by simp;omega) _
 have hown0:(((w.alloc (.cells #[.slice (some ⟨b,off,none⟩) is.length cap] 37)).alloc (.cells #[.slice none 0 0] 37)).alloc (.cells #[] 106)).ownsRow (w.heap.size+1+1) 106 3 (.slice (some ⟨w.heap.size+1+1,0,none⟩) 0 0) 0 []:=by
  have h:=World.ownsRow_lit (base:=w.heap.size+1+1) (e:=106) (size:=3) ((w.alloc (.cells #[.slice (some ⟨b,off,none⟩) is.length cap] 37)).alloc (.cells #[.slice none 0 0] 37)) #[] 0 (by simp) (by unfold maxLen;omega) (by simp);rw[show ((w.alloc (.cells #[.slice (some ⟨b,off,none⟩) is.length cap] 37)).alloc (.cells #[.slice none 0 0] 37)).heap.size=w.heap.size+1+1 from by simp] at h;exact h
 have hn:=Uy (hc.bl hb1)
 have HL:Hd ((Hz is).length=is.length*3):=Ka is
 have HO:Hd (∀ u∈Hz is,u.oneCell'=true):=Zh is
 generalize Hz is=xs at *
 clear hc hb0
 go_enter Tryz.func97,Tryz.ntmps97
 go_wp2_with (at_builtin;refine wpList_append_own _ rfl (.tmp 3) (.tmp 5) 35 rfl (w.heap.size+1+1) 106 i0 (.agg #[.int .i64 0,.string ⟨#[]⟩,.int .i64 0]) 3 32 Tryz.underlying35 hi hz0 hz1 hz2 rfl (by decide) _ 0 [] rfl hown0 ⟨b,off,none⟩ is.length cap xs rfl HL.o hn HO.o (by unfold maxLen;omega) (by omega) (by simp) ?_;intro v' w2 hown' hgrow hnil;have hn1:∃ g cp,v'=.slice (some ⟨g,0,none⟩) (0+is.length) cp:=Lx hown' (fun e=>by cases (hnil.1 e).1);clear hnil;have hbB:Below (w.heap.size+1+1) (((w.alloc (.cells #[.slice (some ⟨b,off,none⟩) is.length cap] 37)).alloc (.cells #[.slice none 0 0] 37)).alloc (.cells #[] 106)) w2:=(Below.refl _ _).grown hgrow (by simp) (fun k hk=>(hown0.lt k hk).1);have c1:w2.cell? ⟨w.heap.size+1,0,none⟩=some (.slice none 0 0):=(by rw[hbB.cell (p:=⟨w.heap.size+1,0,none⟩) (by simp)];simp[go_sem]);have f1:w2.frozen? ⟨w.heap.size+1,0,none⟩=false:=(by rw[hbB.frozen (p:=⟨w.heap.size+1,0,none⟩) (by simp)];simp[go_sem]);have hB:Below w.heap.size w w2:=hb1.trans (hbB.mono (by omega));rw[Nat.zero_add,List.nil_append] at hown';rw[Nat.zero_add] at hn1;obtain⟨g,cp,rfl⟩:=hn1;have hg:=(hown'.lt g rfl).1;have HOW:Hd (w2.ownsRow w.heap.size 106 3 (.slice (some ⟨g,0,none⟩) is.length cp) is.length xs):=Co hown' (by omega);clear hgrow hown0 hn hbB hown' hb1)
 exact bR (v:=.agg #[.slice (some ⟨g,0,none⟩) is.length cp]) (by simp[results,Tryz.results97,go_sem,c1]) rfl ⟨hB.setCell (p:=⟨w.heap.size+1,0,none⟩) (by simp) _,g,cp,rfl,Yf HOW.o (by omega) _⟩
theorem Si (w:World) :
  Calls Tryz.prog 97 #[.agg #[.slice none 0 0]] w fun e w'=>Below w.heap.size w w'/\∃ g cp,e=.returned (.agg #[.slice (some ⟨g,0,none⟩) 0 cp])/\w'.ownsRow w.heap.size 106 3 (.slice (some ⟨g,0,none⟩) 0 cp) 0 []:=by
 obtain⟨i0,hi,hz0,hz1,hz2⟩:=info_parts Tryz.info165b
 have hb0:Below w.heap.size w ((w.alloc (.cells #[.slice none 0 0] 37)).alloc (.cells #[.slice none 0 0] 37)):=(aN _ _).alloc (by simp) _
 have hb1:Below w.heap.size w (((w.alloc (.cells #[.slice none 0 0] 37)).alloc (.cells #[.slice none 0 0] 37)).alloc (.cells #[] 106)):=hb0.alloc (by simp;omega) _
 have hown0:(((w.alloc (.cells #[.slice none 0 0] 37)).alloc (.cells #[.slice none 0 0] 37)).alloc (.cells #[] 106)).ownsRow (w.heap.size+1+1) 106 3 (.slice (some ⟨w.heap.size+1+1,0,none⟩) 0 0) 0 []:=by
  have h:=World.ownsRow_lit (base:=w.heap.size+1+1) (e:=106) (size:=3) ((w.alloc (.cells #[.slice none 0 0] 37)).alloc (.cells #[.slice none 0 0] 37)) #[] 0 (by simp) (by unfold maxLen;omega) (by simp);rw[show ((w.alloc (.cells #[.slice none 0 0] 37)).alloc (.cells #[.slice none 0 0] 37)).heap.size=w.heap.size+1+1 from by simp] at h;exact h
 clear hb0
 go_enter Tryz.func97,Tryz.ntmps97
 go_wp2_with (at_builtin;refine wpList_append_own_none rfl (.tmp 3) (.tmp 5) 35 rfl (w.heap.size+1+1) 106 i0 3 Tryz.underlying35 hi _ 0 [] rfl hown0 rfl ?_)
 have h2:=World.ownsRow_lit (base:=w.heap.size+1+1) (e:=106) (size:=3) ((w.alloc (.cells #[.slice none 0 0] 37)).alloc (.cells #[.slice (some ⟨w.heap.size+1+1,0,none⟩) 0 0] 37)) #[] 0 (by simp) (by unfold maxLen;omega) (by simp)
 rw[show ((w.alloc (.cells #[.slice none 0 0] 37)).alloc (.cells #[.slice (some ⟨w.heap.size+1+1,0,none⟩) 0 0] 37)).heap.size=w.heap.size+1+1 from by simp] at h2
 exact bR (v:=.agg #[.slice (some ⟨w.heap.size+1+1,0,none⟩) 0 0]) (by simp[results,Tryz.results97,go_sem]) rfl ⟨((aN _ _).alloc (by simp) _).alloc (by simp;omega) _,_,_,rfl,Co h2 (by omega)⟩
theorem Nd {w:World} {B:Nat} {c:Value} {is:List I3} (h:w.ownsRow B 106 3 c is.length (Di is)) (hl:is.length<=1048576):∃ a cap,c=.slice a is.length cap/\∀ W:World,Below w.heap.size w W->CopyP a cap is W:=by
 obtain⟨a,cap,rfl,r3⟩:=Ej rfl h
 refine⟨a,cap,rfl,fun W hW=>?_⟩
 rcases h.2 with ⟨q,q'⟩|⟨g,cap',cur,q,_⟩
 ·obtain rfl:is=[]:=List.eq_nil_of_length_eq_zero q';cases q;unfold CopyP;refine(Si W).mono ?_;rintro e w' ⟨h1,g,cp,rfl,h2⟩;exact⟨h1,g,cp,rfl,h2⟩
 ·cases q;exact Sh g 0 _ is W (r3.bl hW) hl
theorem Dw.rowC {w:World} {lo:Nat} {v1 v2:Value} {l1:List S2} {l2:List TC} (h:Dw w lo v1 v2 l1 l2) (hb:Tm l1 l2):∃ sa c1 ta c2,v1=.slice sa l1.length c1/\v2=.slice ta (l2.map (·.t)).length c2/\Iz w sa l1/\RowC w ta (l2.map (·.t)):=by
 obtain⟨sa,c1,ta,c2,e1,e2,r1,_⟩:=h.rows
 refine⟨sa,c1,ta,c2,e1,by rw[List.length_map];exact e2,r1,fun i hi=>?_⟩
 rw[List.length_map] at hi
 obtain⟨g,cap,e,_,q1,q2,_⟩:=h.tc i hi
 rw[e2] at e
 cases e
 obtain⟨a',cap',e3,r3⟩:=Nd (h.c _ (Dq hi)) (by have:=(hb.t _ (Dq hi)).2.1;omega)
 rw[Vl l2 i hi]
 exact⟨g,0,rfl,by rw[Nat.zero_add];exact q1,a',cap',by rw[Nat.zero_add,q2,e3],r3⟩
theorem Dw.of_own {w:World} {lo hi:Nat} {v1 v2:Value} {ss:List S2} {ts:List T2} (h1:Lr w lo hi v1 ss) (h2:Lf w lo hi v2 ts):∃ l2:List TC,l2.map (·.t)=ts/\Dw w lo v1 v2 ss l2:=by
 obtain⟨l,e,h3,h4⟩:=h2.toC
 have hl:ts.length=l.length:=by rw[<- e,List.length_map]
 refine⟨l,e,⟨h1.v.own,by have:=h3.own;rw[hl] at this;exact this,fun a ha=>?_⟩⟩
 obtain⟨ys,h5,h6⟩:=h4.code a ha
 rw[<- Pi h6 h5.own.1]
 exact h5.own
theorem fltS_sub (t:ByteArray) (ss:List S2):∀ x∈Hs t ss,x∈ss:=fun x hx=>(List.mem_filter.1 hx).1
theorem fltT_sub (t:ByteArray) (ss:List T2):∀ x∈Iv t ss,x∈ss:=fun x hx=>(List.mem_filter.1 hx).1
theorem Wd {w:World} {lo:Nat} {v1 v2:Value} {l1:List S2} {l2:List TC} (t:ByteArray) (h:Dw w lo v1 v2 l1 l2) (hb:Tm l1 l2) :
  Calls Tryz.prog 99 #[.agg #[v1,v2],.string t] w fun e w'=>Below w.heap.size w w'/\∃ u1 u2 m1 m2,e=.returned (.agg #[u1,u2])/\Dw w' w.heap.size u1 u2 m1 m2/\Tm m1 m2/\m1.length<=l1.length/\m2.length<=l2.length/\∀ x∈m2,∃ y∈l2,y.t=x.t:=by
 obtain⟨sa,c1,ta,c2,e1,e2,r1,r2⟩:=h.rowC hb
 have n1:=hb.n1
 have n2:(l2.map (·.t)).length<=202:=by rw[List.length_map];exact hb.n2
 obtain⟨ts,ets⟩:∃ ts,l2.map (·.t)=ts:=⟨_,rfl⟩
 rw[ets] at e2 r2 n2
 rw[e1,e2]
 refine(Ua sa ta c1 c2 l1 ts t w r1 r2 (by omega) (by omega)).mono ?_
 rintro e w' ⟨hbl,u1,u2,rfl,o1,o2⟩
 obtain⟨m2,em,hd⟩:=Dw.of_own o1 o2
 have hsub:∀ x∈m2,∃ y∈l2,y.t=x.t:=fun x hx=>by
  have h1:x.t∈m2.map (·.t):=List.mem_map.2 ⟨x,hx,rfl⟩;rw[em] at h1;have h2:=fltT_sub _ _ _ h1;rw[<- ets] at h2;obtain⟨y,hy,e⟩:=List.mem_map.1 h2;exact⟨y,hy,e⟩
 have h4:=Zp t l1
 have h5:=Zo t ts
 have h6:ts.length=l2.length:=by rw[<- ets,List.length_map]
 rw[<- em,List.length_map] at h5
 refine⟨hbl,u1,u2,_,m2,rfl,hd,⟨by omega,by omega,fun x hx=>hb.s x (fltS_sub _ _ x hx),fun x hx=>?_⟩,h4,by omega,hsub⟩
 obtain⟨y,hy,e⟩:=hsub x hx
 rw[<- e]
 exact hb.t y hy
theorem Bd.prog {B R:Nat} {a:Option Addr} {len cap p K:Nat} {w0 w:World} (h:Bd B R a len cap p K w0 w) (hB:B<=w0.heap.size) (hp:p+K<=60000) :
  Calls Tryz.prog 96 #[.pointer (some ⟨R,0,none⟩)] w fun e w'=>∃(g n c:Nat) (is:List I3),e=.returned (.agg #[.slice (some ⟨g,0,none⟩) n c])/\Ow w w' g n c is/\0<n/\n<=400/\Bd B R a len cap p (K+1300) w0 w'/\w.grownBy w' (some R):=by
 obtain⟨h1,p',h2,h3⟩:=h
 refine(Pa B R a len cap p' w h3 (Nat.le_trans hB h1.size) (by omega)).mono ?_
 rintro e w' ⟨g,n,c,is,rfl,ho,h0,hL,hk⟩
 exact⟨g,n,c,is,rfl,ho,h0,hL,Bd.then h1 h2 hk,hk.1⟩
def PB (W:World) (pb lo:Nat):Prop:=∃(c:Value) (is:List I3),W.heap[pb]?=some (.cells #[c] 37 (0,0))/\W.ownsRow lo 106 3 c is.length (Di is)/\0<is.length/\is.length<=400/\∀ x∈is,x.text.size<=50000
theorem PB.bl {W W':World} {pb lo:Nat} (h:PB W pb lo) (hb:Below W.heap.size W W'):PB W' pb lo:=by
 obtain⟨c,is,h1,h2,h3⟩:=h
 exact⟨c,is,Aa h1 hb,Cg h2 hb,h3⟩
theorem PB.gb {W W':World} {pb lo R:Nat} (h:PB W pb lo) (hg:W.grownBy W' (some R)) (hR:R<lo) (hl:lo<=pb):PB W' pb lo:=by
 obtain⟨c,is,h1,h2,h3⟩:=h
 exact⟨c,is,Br h1 hg (by omega),own_gb h2 hg hR,h3⟩
theorem PB.put {W:World} {pb lo:Nat} {c:Value} {is:List I3} (h:PB W pb lo) (h2:W.ownsRow lo 106 3 c is.length (Di is)) (h3:0<is.length) (h4:is.length<=400) (h5:∀ x∈is,x.text.size<=50000):PB (W.setCell ⟨pb,0,none⟩ c) pb lo:=by
 obtain⟨c',is',h1,_⟩:=h
 exact⟨c,is,by rw[jB h1];rfl,Fk h2 ⟨_,h1⟩ (by decide) c,h3,h4,h5⟩
theorem PB.t {W:World} {pb lo:Nat} (h:PB W pb lo):Cx W pb 37:=by
 obtain⟨c,is,h1,_⟩:=h
 exact⟨_,h1⟩
theorem PB.new {w0 w W:World} {g n c lo:Nat} {is:List I3} (ho:Ow w0 w g n c is) (hl:lo<=w0.heap.size) (h0:0<n) (hL:n<=400) (eW:w.alloc (.cells #[.slice (some ⟨g,0,none⟩) n c] 37)=W):PB W w.heap.size lo:=by
 subst eW
 have e:=ho.ln
 subst e
 exact⟨_,is,Al _ _,Cg (Co ho.row hl) (aN _ _),h0,hL,ho.tx⟩
theorem short6 {x y z u v t:I3} (h1:x.text.size<=50000) (h2:y.text.size<=50000) (h3:z.text.size<=50000) (h4:u.text.size<=50000) (h5:v.text.size<=50000) (h6:t.text.size<=50000):∀ a∈[x,y,z,u,v,t],a.text.size<=50000:=fun a ha=>by
 simp at ha
 rcases ha with rfl|rfl|rfl|rfl|rfl|rfl<;>assumption
theorem ext_small (s:ByteArray) (i j:Nat) (h:s.size<=10):(s.extract i j).size<=50000:=by rw[ByteArray.size_extract];omega
theorem Ot {w:World} {lo:Nat} {v2:Value} {l2:List TC} (h:w.ownsRow lo 62 2 v2 l2.length (Ha l2)) (i:Nat) (hi:i<l2.length) {g cp:Nat} (e:v2=.slice (some ⟨g,0,none⟩) l2.length cp):w.cell? ⟨g,i*2,none⟩=some (.string (cx l2 i).t.name)/\w.cell? ⟨g,i*2+1,none⟩=some (cx l2 i).c:=by
 subst e
 exact⟨by rw[h.cellAt (i*2) (by omega)];exact(Rh l2 i hi).1,by rw[h.cellAt (i*2+1) (by omega)];exact(Rh l2 i hi).2⟩
end Go.Proofs.YtjlnkepkkdefdaaGreatDoor
