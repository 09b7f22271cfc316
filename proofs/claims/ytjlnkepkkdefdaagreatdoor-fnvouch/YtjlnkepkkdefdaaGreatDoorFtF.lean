import Derived.Test.YtjlnkepkkdefdaaGreatDoorTClP
import Derived.Test.YtjlnkepkkdefdaaGreatDoorTMkT
import Derived.Test.YtjlnkepkkdefdaaGreatDoorTOrd
import Derived.Test.YtjlnkepkkdefdaaGreatDoorTClR
import Derived.Test.YtjlnkepkkdefdaaGreatDoorEdK
import Derived.Test.YtjlnkepkkdefdaaGreatDoorEdI
namespace Go.Proofs.YtjlnkepkkdefdaaGreatDoor
set_option maxHeartbeats 16000000
set_option maxRecDepth 100000
open Go.RowKit Go.Deep
set_option linter.unusedVariables false
set_option linter.unusedSimpArgs false
theorem CleanP.len {ss:List S2} {ts:List T2} {nm:ByteArray} {c:Int} {t:ByteArray} {ch:List ByteArray} (h:CleanP ss ts nm c t ch):ch.length<=60:=by
 rcases h with ⟨_,_,_,rfl⟩|⟨_,_,ms,a,hd,k⟩
 ·simp
 ·cases a with
  | ok d=>obtain⟨_,_,rfl⟩:=k;simp
  | circle l=>obtain⟨_,_,rfl⟩:=k;exact(hd.circle_len (by simp) _ rfl).2
  | deep x=>obtain⟨_,_,rfl⟩:=k;simp
section
open Go.Deep
theorem Dh.len {w:World} {sa ta:Option Addr} {ss:List S2} {ts:List T2} (ho:Mx w sa ss ta ts) {nm:ByteArray} {ls:List G3} {c:Int} {t:ByteArray} {ch:List ByteArray} (h:Dh ss ts nm ls c t ch):ls.length<=200/\ch.length<=60:=by
 refine⟨?_,h.clean.len⟩
 rcases h with ⟨_,rfl,_⟩|⟨hc,hnb,ms,a,hd,k⟩
 ·simp
 ·have hE:=Qh ho hc;have hnk:Aq nm:=by unfold Cu at hnb;simpa using hnb
  cases a with
  | ok d=>
   obtain⟨rfl,_⟩:=k;obtain⟨i1,_,i3⟩:=Av.inv hE.v hd (Ja.nil ss ts) hnk trivial d rfl;exact(i1.done nm d i3).ls
  | circle l=>obtain⟨rfl,_⟩:=k;simp
  | deep x=>obtain⟨rfl,_⟩:=k;simp
theorem Dh.uniq {w:World} {sa ta:Option Addr} {ss:List S2} {ts:List T2} (ho:Mx w sa ss ta ts) {nm:ByteArray} {ls ls':List G3} {c c':Int} {t t':ByteArray} {ch ch':List ByteArray} (h:Dh ss ts nm ls c t ch) (h':Dh ss ts nm ls' c' t' ch'):ls'=ls/\c'=c/\t'=t/\ch'=ch:=by
 by_cases hc:Iw ss ts=0
 ·have hv:=(Qh ho hc).v;exact Dh.unique hv.ascS hv.ascT h h'
 ·rcases h with ⟨_,rfl,rfl,rfl,rfl⟩|⟨q,_⟩
  ·rcases h' with ⟨_,rfl,rfl,rfl,rfl⟩|⟨q,_⟩
   ·exact⟨rfl,rfl,rfl,rfl⟩
   ·exact absurd q hc
  ·exact absurd q hc
end
section
open Go.Deep
end
def DrC (w:World) (e:Ending) (w':World):Prop:=Below w.heap.size w w'/\∃ v1 v2 l1 l2,∃ nm:ByteArray,e=.returned (.tuple #[.agg #[v1,v2],.string nm])/\Dw w' w.heap.size v1 v2 l1 l2/\Tm l1 l2/\nm.size<=50000/\Pm (l2.map (·.t))
theorem DrC.mk' {w w2 W:World} {v1 v2 x y:Value} {l1:List S2} {l2:List TC} {nm:ByteArray} {R:Nat} (hb:Below w.heap.size w w2) (hg:w2.grownBy W (some R)) (hR:w.heap.size<R) (hd:Dw W w.heap.size v1 v2 l1 l2) (hbd:Tm l1 l2) (hq:W.heap[w.heap.size]?=some (.cells #[x,y] 26 (0,0))) (h1:nm.size<=50000) (h2:Pm (l2.map (·.t))) :
  DrC w (.returned (.tuple #[.agg #[v1,v2],.string nm])) ((W.setCell ⟨w.heap.size,0,none⟩ v1).setCell ⟨w.heap.size,1,none⟩ v2):=by
 have hbW:Below w.heap.size w W:=hb.grown hg hb.size (fun k hk=>by cases hk;omega)
 exact⟨Nv hbW (Nat.le_refl _) _ _,v1,v2,l1,l2,nm,rfl,hd.ret hq,hbd,h1,h2⟩
theorem Uh (w:World) (a:Option Addr) (len cap:Nat) (h:Tl w a len) (hlc:len<=cap) (hl:len<=1048576) :
  Calls Tryz.prog 16 #[.slice a len cap] w fun e w'=>DrC w e w':=by
 obtain⟨w1,e1⟩:∃ y,w.alloc (.cells #[.slice none 0 0,.slice none 0 0] 26)=y:=⟨_,rfl⟩
 have hb1:Below w.heap.size w w1:=by rw[<- e1];exact aN _ _
 have hs1:w1.heap.size=w.heap.size+1:=by rw[<- e1];simp
 have HQ:Hd (w1.heap[w.heap.size]?=some (.cells #[.slice none 0 0,.slice none 0 0] 26 (0,0))):=by show _=_;rw[<- e1];exact Al _ _
 have hby:Tl w1 a len:=fun i hi=>by obtain⟨b,off,v,h1,h2,h3⟩:=h i hi;exact⟨b,off,v,h1,Ab hb1 h2,h3⟩
 have HO:=hid (l1Open_any w1 a len cap hby hlc hl)
 obtain⟨R,eR⟩:∃ y,w1.heap.size=y:=⟨_,rfl⟩
 rw[eR] at HO
 have hRw:w.heap.size<R:=by omega
 have HER:=hid eR
 have HB1:=hid hb1
 clear hby h hlc hs1 eR hb1
 go_enter Tryz.func16,Tryz.ntmps16
 go_wp2_with fail
 clear e1
 refine HO.o.mono ?_
 rintro e w2 ⟨len',rfl,hr,hsz,hb2⟩
 clear HO
 have hR2:R<w2.heap.size:=by omega
 have hBw:R+1<=w2.heap.size:=by omega
 have HB:Hd (Below w.heap.size w w2):=HB1.o.trans (hb2.mono (by have:=HER.o;omega))
 replace HQ:=hid (Aa HQ.o (by rw[HER.o];exact hb2))
 have HR0:=hid hr
 clear hr hsz hb2 HER HB1
 go_wp2_with fail
 refine(l3Any_any (R+1) R a len' cap 0 w2 HR0.o hBw (by omega)).mono ?_
 unfold SpS
 rintro e w3 ⟨v1,v2,l1,l2,rfl,hd,hbd,hk,hsh⟩
 replace HQ:=hid (Br HQ.o hk.1 (by omega))
 clear HR0
 have HR:=hid hk
 have HSH:=hid hsh
 obtain⟨a1,p1,rfl⟩:=hd.s1
 obtain⟨a2,p2,rfl⟩:=hd.s2
 obtain⟨w4,e4⟩:∃ y,w3.alloc (.cells #[.slice a1 l1.length p1,.slice a2 l2.length p2] 26)=y:=⟨_,rfl⟩
 have hb4:Below w3.heap.size w3 w4:=by rw[<- e4];exact aN _ _
 obtain⟨P,eP⟩:∃ P,w3.heap.size=P:=⟨_,rfl⟩
 have HP:Hd (w4.heap[P]?=some (.cells #[.slice a1 l1.length p1,.slice a2 l2.length p2] 26 (0,0))):=by show _=_;rw[<- e4,<- eP];exact Al _ _
 have hPR:R<P:=by have:=hk.size;omega
 have hPQ:w.heap.size<P:=by omega
 have HD:=hid (hd.bl hb4)
 have HBD:=hid hbd
 replace HQ:=hid (Aa HQ.o hb4)
 replace HR:=hid (HR.o.bl hBw hb4)
 clear hd hbd hk hb4 hsh
 go_wp2_with fail
 clear e4 eP
 refine Lt.begin 5 (fun w'=>w'.heap[P]?=some (.cells #[.slice a1 l1.length p1,.slice a2 l2.length p2] 26 (0,0))) (by kernel_rfl) ?_
 obtain⟨wD,eD⟩:∃ y,w4.drew=y:=⟨_,rfl⟩
 rw[eD]
 have hbD:Below w4.heap.size w4 wD:=by rw[<- eD];exact(Below.refl _ _).drew
 clear eD
 replace HP:=hid (Aa HP.o hbD)
 replace HQ:=hid (Aa HQ.o hbD)
 replace HD:=hid (HD.o.bl hbD)
 replace HR:=hid (HR.o.bl hBw hbD)
 have hS0:(fun w'=>w'.heap[P]?=some (.cells #[.slice a1 l1.length p1,.slice a2 l2.length p2] 26 (0,0))) wD:=HP.o
 change K 0 _
 iterate 3
  refine Lt.ti (v:=?_) hS0 ?_ ?_;rotate_left 1
  ·rintro w hSw;obtain⟨c0,c1⟩:=Am hSw;go_simp;first|done|with_reducible rfl
  simp only[gX]
 refine Lt.sp (i:=3) (fun K hK=>?_)
 go_simp
 obtain⟨k1,p5,k2,k3⟩:=HR.o
 refine(Yw (R+1) R a len' cap p5 wD k3 (Nat.le_trans hBw k1.size) (by omega) HD.o HBD.o hR2).mono ?_
 rintro e wT ⟨nm,rfl,hnm,hk⟩
 have hg1:=hk.1
 have hr1:=Bd.then k1 k2 hk
 clear hk k1 k2 k3
 replace HP:=hid (Br HP.o hg1 (by omega))
 replace HQ:=hid (Br HQ.o hg1 (by omega))
 replace HD:=hid (HD.o.gb hg1 hR2)
 replace HR:=hid hr1
 have hS1:(fun w'=>w'.heap[P]?=some (.cells #[.slice a1 l1.length p1,.slice a2 l2.length p2] 26 (0,0))) wT:=HP.o
 refine hK.out _ _ (fun _=>hS1) (fun _=>?_)
 clear hK K hg1 hr1
 try simp only[gX]
 obtain⟨r0,r1⟩:=Am HQ.o
 have fr:=fun j=>fH HQ.o j
 refine Lt.sp (i:=4) (fun K hK=>?_)
 go_simp
 have hS8:(fun w'=>w'.heap[P]?=some (.cells #[.slice a1 l1.length p1,.slice a2 l2.length p2] 26 (0,0))) ((wT.setCell ⟨w.heap.size,0,none⟩ (.slice a1 l1.length p1)).setCell ⟨w.heap.size,1,none⟩ (.slice a2 l2.length p2)):=Bp (Bp HP.o (by omega) _) (by omega) _
 refine hK.out _ _ (fun _=>hS8) (fun _=>?_)
 clear hK K hS8
 try simp only[gX]
 refine Lt.sp (i:=5) (fun K hK=>?_)
 go_simp
 refine hK.out _ _ (fun h=>absurd rfl h) (fun _=>?_)
 clear hK K
 refine Lt.done (by kernel_rfl) ?_ _
 go_wp2
 refine bR (v:=.tuple #[.agg #[.slice a1 l1.length p1,.slice a2 l2.length p2],.string nm]) (by simp[results,Tryz.results16,go_sem,r0,r1]) rfl ?_
 exact DrC.mk' HB.o HR.o.1 hRw (HD.o.base (by omega)) HBD.o HQ.o hnm HSH.o
theorem Ug (w:World) (a:Option Addr) (len cap:Nat) (h:Tl w a len) (hlc:len<=cap) (hl:len<=1048576) :
  Calls Tryz.prog 4 #[.slice a len cap] w fun e w'=>DrC w e w':=by
 obtain⟨w1,e1⟩:∃ y,w.alloc (.cells #[.slice none 0 0,.slice none 0 0] 26)=y:=⟨_,rfl⟩
 have hb1:Below w.heap.size w w1:=by rw[<- e1];exact aN _ _
 have hs1:w.heap.size<w1.heap.size:=by rw[<- e1];simp
 have HQ:Hd (w1.heap[w.heap.size]?=some (.cells #[.slice none 0 0,.slice none 0 0] 26 (0,0))):=by show _=_;rw[<- e1];exact Al _ _
 have hby:Tl w1 a len:=fun i hi=>by obtain⟨b,off,v,h1,h2,h3⟩:=h i hi;exact⟨b,off,v,h1,Ab hb1 h2,h3⟩
 have HO:=hid (Uh w1 a len cap hby hlc hl)
 have HB1:=hid hb1
 clear hby h hb1
 go_enter Tryz.func4,Tryz.ntmps4
 go_wp2_with fail
 clear e1
 refine HO.o.mono ?_
 rintro e w2 ⟨hb2,v1,v2,l1,l2,nm,rfl,hd,hbd,hnm,hsh⟩
 replace HQ:=hid (Aa HQ.o hb2)
 obtain⟨a1,p1,rfl⟩:=hd.s1
 obtain⟨a2,p2,rfl⟩:=hd.s2
 obtain⟨r0,r1⟩:=Am HQ.o
 have fr:=fun j=>fH HQ.o j
 have HD:=hid (hd.base (Nat.le_of_lt hs1))
 have HBW:=hid (bt HB1.o hb2)
 clear hd hb2
 go_wp2
 refine bR (v:=.tuple #[.agg #[.slice a1 l1.length p1,.slice a2 l2.length p2],.string nm]) (by simp[results,Tryz.results4,go_sem,r0,r1]) rfl ?_
 exact⟨Nv HBW.o (Nat.le_refl _) _ _,_,_,l1,l2,nm,rfl,HD.o.ret HQ.o,hbd,hnm,hsh⟩
theorem strEq {s t:ByteArray} (h:s=t):(s.toList == t.toList)=true:=by rw[h];simp
theorem wList_same (a a':Option Addr) (cap cap' n:Nat) (ss:List ByteArray) (w:World) (hn:n=ss.length) (hc:Cp w a ss) (hc':Cp w a' ss) (hl:n<=1048576) :
  Calls Tryz.prog 23 #[.slice a n cap,.slice a' n cap'] w fun e w'=>e=.returned (.bool true)/\Below w.heap.size w w':=by
 have HN:Hd (n=ss.length):=hn
 clear hn
 go_enter Tryz.func23,Tryz.ntmps23
 go_wp2
 go_loopw [5] (fun i wr=>∃ k:Nat,k<=n/\i=.int .i64 k/\Below w.heap.size w wr) (fun i _=>n-(intOf i).toNat)
 case atStart=>exact⟨0,Nat.zero_le _,rfl,Below.refl _ _⟩
 case round=>
  obtain⟨k,hk,rfl,hB⟩:=hrel
  by_cases hlt:k<n
  ·obtain⟨b,off,rfl,e1⟩:=(hc.bl hB) k (by have:=HN.o;omega);obtain⟨b',off',rfl,f1⟩:=(hc'.bl hB) k (by have:=HN.o;omega);have hkI:(k:Int)<(n:Int):=by omega
   have hk0:(0:Int)<=(k:Int):=by omega
   generalize ss.getD k ByteArray.empty=tx at *;go_wp2_with fail
   go_region_held3 (fun w'=>w'.cell? ⟨b,off+k,none⟩=some (.string tx)/\w'.cell? ⟨b',off'+k,none⟩=some (.string tx))
    (first|assumption|(simp[*];done)) (fail)
   all_goals
    go_wp2;exact⟨⟨k+1,by omega,by go_num,hB.drew⟩,by simp[intOf];omega⟩
  ·have ek:k=n:=by omega
   subst ek;go_wp2;go_ret;exact⟨rfl,hB⟩
theorem wResult_eq (c:Int) (t:ByteArray) (a a':Option Addr) (cap cap' n:Nat) (ss:List ByteArray) (w:World) (hn:n=ss.length) (hc:Cp w a ss) (hc':Cp w a' ss) (hl:n<=1048576):Calls Tryz.prog 8 #[.agg #[.int .i64 c,.string t,.slice a n cap],.agg #[.int .i64 c,.string t,.slice a' n cap']] w fun e w'=>e=.returned (.bool true)/\Below w.heap.size w w':=by
 have heq:=strEq (rfl:t=t)
 obtain⟨W,eW⟩:∃ W,(w.alloc (.cells #[.int .i64 c,.string t,.slice a n cap] 32)).alloc (.cells #[.int .i64 c,.string t,.slice a' n cap'] 32)=W:=⟨_,rfl⟩
 have hbW:Below w.heap.size w W:=eW▸(aN _ _).alloc (by simp) _
 have x0:W.cell? ⟨w.heap.size,0,none⟩=some (.int .i64 c):=by rw[<- eW];simp[go_sem]
 have x1:W.cell? ⟨w.heap.size,1,none⟩=some (.string t):=by rw[<- eW];simp[go_sem]
 have x2:W.cell? ⟨w.heap.size,2,none⟩=some (.slice a n cap):=by rw[<- eW];simp[go_sem]
 have y0:W.cell? ⟨w.heap.size+1,0,none⟩=some (.int .i64 c):=by rw[<- eW];simp[go_sem]
 have y1:W.cell? ⟨w.heap.size+1,1,none⟩=some (.string t):=by rw[<- eW];simp[go_sem]
 have y2:W.cell? ⟨w.heap.size+1,2,none⟩=some (.slice a' n cap'):=by rw[<- eW];simp[go_sem]
 have HW:=hid (wList_same a a' cap cap' n ss W hn (hc.bl hbW) (hc'.bl hbW) hl)
 clear hn hc hc'
 go_enter Tryz.func8,Tryz.ntmps8
 go_wp2_with fail
 refine HW.o.mono ?_
 rintro e w2 ⟨rfl,hb2⟩
 have hB2:=bN hbW hb2
 clear hb2 x0 x1 x2 y0 y1 y2 hbW eW
 go_wp2
 go_ret
 exact⟨rfl,hB2⟩
theorem own_strs {w:World} {B n cap:Nat} {a:Option Addr} {ss:List ByteArray} (h:w.ownsRow B 9 1 (.slice a n cap) ss.length (Bf ss)):n=ss.length/\Cp w a ss:=by
 rcases h.2 with ⟨hv,h0⟩|⟨g,c,cur,hv,_⟩
 ·cases hv;exact⟨h0.symm,fun i hi=>by omega⟩
 ·cases hv;exact⟨rfl,Xg h⟩
end Go.Proofs.YtjlnkepkkdefdaaGreatDoor
