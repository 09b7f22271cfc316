import Derived.Test.YtjlnkepkkdefdaaGreatDoorTNRun
import Derived.Test.YtjlnkepkkdefdaaGreatDoorTNSmall
import Derived.Test.YtjlnkepkkdefdaaGreatDoorTNPiece
namespace Go.Proofs.YtjlnkepkkdefdaaGreatDoor
open Go.RowKit
set_option linter.unusedVariables false
set_option maxHeartbeats 8000000
set_option maxRecDepth 100000
set_option linter.unusedSimpArgs false
theorem KB.setB {B m b:Nat} {w w':World} (h:KB B m w w') (j:Nat) (hb:w.heap.size<=b) (hB:B<=b) (v:Value):KB B m w (w'.setCell ⟨b,j,none⟩ v):=⟨h.bl.setCell (p:=⟨b,j,none⟩) hB _,fun b' cs T h1 h2 h3=>by rw[hC w' ⟨b,j,none⟩ _ b' (by have:=Af h3;simp;omega)];exact h.keep b' cs T h1 h2 h3,fun hm b' cs T h1 h2 h3=>⟨by rw[hC w' ⟨b,j,none⟩ _ b' (by have:=Af h3;simp;omega)];exact(h.own hm b' cs T h1 h2 h3).1,fun u hu=>(h.own hm b' cs T h1 h2 h3).2 u (by rw[World.cell?_setCell_far _ _ _ _ (by simp;omega)] at hu;exact hu)⟩⟩
def Tf (is:List I3) (s:St) (B m:Nat) (cd:Value) (e:Ending) (w':World):Prop:=
 (∃ c t n,My is s (.over c t n)/\e=.returned (Ao true c t false ⟨#[]⟩ n))\/(∃ ask nm s',My is s (.look ask nm s')/\e=.returned (Ao false 0 ⟨#[]⟩ ask nm s'.steps)/\Ec is s'/\Bx B w' m s'.stack cd s'.pl s'.steps s'.looks)
def AnsPost (is:List I3) (ask:Bool) (nm:ByteArray) (y:R3) (s:St) (B m:Nat) (cd:Value) (w:World) (e:Ending) (w':World):Prop:=
 KB B m w w'/\((∃ c t n,Dy ask nm y s=.over c t n/\e=.returned (Ao true c t false ⟨#[]⟩ n))\/(∃ s'',Dy ask nm y s=.go s''/\Tf is s'' B m cd e w'))
theorem Kg {is:List I3} {s:St} (hs:Ec is s) (hl:is.length<=200) (hp:s.pl<is.length) (h50:s.stack.length<50) {x:ByteArray} (hx:x.size<=2000):Ec is ⟨s.pl+1,s.stack++[x],s.steps,s.looks⟩:=by
 refine⟨?_,?_,?_,hs.steps,hs.looks⟩
 ·show s.pl+1<=200;omega
 ·show (s.stack++[x]).length<=50;rw[List.length_append,List.length_singleton];omega
 ·intro z hz
  rcases List.mem_append.mp hz with hz|hz
  ·exact hs.size z hz
  ·obtain rfl:z=x:=by simpa using hz
   exact hx
theorem answer_any (B m:Nat) (is:List I3) (a:Option Addr) (cap:Nat) (ask:Bool) (nm:ByteArray) (y:R3) (s:St) (w:World) (hM:Bx B w m s.stack (.slice a is.length cap) s.pl s.steps s.looks) (hB:B<=w.heap.size) (hB1:1<B) (hcode:Ni B w a is) (hT:Jr w) (hP:Ld w) (hv:Ah is=true) (hs:Ec is s) (hpl:s.pl<is.length) (h50:s.stack.length<50) (hy:y.text.size<=2000) :
  Calls Tryz.prog 90 #[.pointer (some ⟨m,0,none⟩),Ao false 0 ⟨#[]⟩ ask nm s.steps,.agg #[.bool y.has,.int .i64 y.code,.string y.text]] w fun e w'=>AnsPost is ask nm y s B m (.slice a is.length cap) w e w':=by
 have hlen:=Ed hv
 have hp200:=hs.pl
 have HV:Hd (Ah is=true):=hv
 have HC:Hd (Ni B w a is):=hcode
 have HT:Hd (Jr w):=hT
 have HP:Hd (Ld w):=hP
 have HS:Hd (Ec is s):=hs
 obtain⟨_,_,_,_,_,_,_,_,hmw,hBm,_⟩:=hM.all
 have hb0:Below w.heap.size w (((w.alloc (.cells #[.bool false,.int .i64 0,.string ⟨#[]⟩,.bool ask,.string nm,.int .i64 s.steps] 115)).alloc (.cells #[.bool y.has,.int .i64 y.code,.string y.text] 122)).alloc (.cells #[.bool false,.int .i64 0,.string ⟨#[]⟩,.bool false,.string ⟨#[]⟩,.int .i64 0] 115)):=((aN _ _).alloc (by simp) _).alloc (by simp;omega) _
 obtain⟨W,eW⟩:∃ W,(((w.alloc (.cells #[.bool false,.int .i64 0,.string ⟨#[]⟩,.bool ask,.string nm,.int .i64 s.steps] 115)).alloc (.cells #[.bool y.has,.int .i64 y.code,.string y.text] 122)).alloc (.cells #[.bool false,.int .i64 0,.string ⟨#[]⟩,.bool false,.string ⟨#[]⟩,.int .i64 0] 115))=W:=⟨_,rfl⟩
 rw[eW] at hb0
 have HM1:Hd (Bx B W m s.stack (.slice a is.length cap) s.pl s.steps s.looks):=hM.bl hb0
 have HK1:Hd (KB B m w W):=KB.old hb0 hB
 have HR1:Hd (W.heap[w.heap.size+1+1]?=some (.cells #[.bool false,.int .i64 0,.string ⟨#[]⟩,.bool false,.string ⟨#[]⟩,.int .i64 0] 115 (0,0))):=by
  rw[<- eW];have h:=Aj ((w.alloc (.cells #[.bool false,.int .i64 0,.string ⟨#[]⟩,.bool ask,.string nm,.int .i64 s.steps] 115)).alloc (.cells #[.bool y.has,.int .i64 y.code,.string y.text] 122)) (.cells #[.bool false,.int .i64 0,.string ⟨#[]⟩,.bool false,.string ⟨#[]⟩,.int .i64 0] 115);rw[show ((w.alloc (.cells #[.bool false,.int .i64 0,.string ⟨#[]⟩,.bool ask,.string nm,.int .i64 s.steps] 115)).alloc (.cells #[.bool y.has,.int .i64 y.code,.string y.text] 122)).heap.size=w.heap.size+1+1 from by simp] at h;exact h
 have hB1':B<=W.heap.size:=Nat.le_trans hB hb0.size
 have hRw:w.heap.size<=w.heap.size+1+1:=by omega
 have hRB:B<=w.heap.size+1+1:=by omega
 have r0:W.cell? ⟨w.heap.size,3,none⟩=some (.bool ask):=by rw[<- eW];simp[go_sem]
 have r1:W.cell? ⟨w.heap.size,4,none⟩=some (.string nm):=by rw[<- eW];simp[go_sem]
 have r2:W.cell? ⟨w.heap.size+1,0,none⟩=some (.bool y.has):=by rw[<- eW];simp[go_sem]
 have r3:W.cell? ⟨w.heap.size+1,1,none⟩=some (.int .i64 y.code):=by rw[<- eW];simp[go_sem]
 have r4:W.cell? ⟨w.heap.size+1,2,none⟩=some (.string y.text):=by rw[<- eW];simp[go_sem]
 have hfl:(Cw y.has).size<=2000:=by rw[Ht];omega
 clear hv hcode hT hP hs hM hb0
 unfold Ao
 cases ask
 ·go_enter Tryz.func90,Tryz.ntmps90
  go_wp2_with (go_at_call 91;refine(Km _ _).mono ?_;rintro e w9 ⟨rfl,rfl⟩)
  clear eW;refine(Gl B m s.stack _ s.pl s.steps s.looks (Cw y.has) _ HM1.o hB1' hfl h50).mono ?_;rintro e w1 ⟨rfl,hb1,hM1⟩;have HMp:Hd (Bx B (w1.setCell ⟨m,2,none⟩ (.int .i64 ((s.pl:Int)+1))) m (s.stack++[Cw y.has]) (.slice a is.length cap) ((s.pl:Int)+1) s.steps s.looks):=hM1.place _;obtain⟨c2,f2,_,_⟩:=hM1.cell2;have HKp:Hd (KB B m w (w1.setCell ⟨m,2,none⟩ (.int .i64 ((s.pl:Int)+1)))):=(HK1.o.trans hb1).setM 2 hBm _
  have HRp:Hd ((w1.setCell ⟨m,2,none⟩ (.int .i64 ((s.pl:Int)+1))).heap[w.heap.size+1+1]?=some (.cells #[.bool false,.int .i64 0,.string ⟨#[]⟩,.bool false,.string ⟨#[]⟩,.int .i64 0] 115 (0,0))):=by
   rw[hC w1 ⟨m,2,none⟩ _ _ (by simp;omega)];exact hb1.keep _ _ 115 (by decide) (by omega) HR1.o
  clear hM1 hb1 HM1 HK1 HR1 r0 r1 r2 r3 r4;go_wp2_with fail;refine(Vw B m is a cap ⟨s.pl+1,s.stack++[Cw y.has],s.steps,s.looks⟩ _ HMp.o (Nat.le_trans hB HKp.o.size) hB1 (HC.o.belowB HKp.o.bl) (HT.o.belowB HKp.o.bl (by omega)) (HP.o.belowB HKp.o.bl hB1) HV.o (Kg HS.o hlen.2 hpl h50 hfl)).mono ?_;rintro e w2 ⟨hk2,hpost⟩;have HK2:Hd (KB B m w w2):=HKp.o.trans hk2;have HR2:Hd (w2.heap[w.heap.size+1+1]?=some (.cells #[.bool false,.int .i64 0,.string ⟨#[]⟩,.bool false,.string ⟨#[]⟩,.int .i64 0] 115 (0,0))):=hk2.keep _ _ 115 (by decide) (by omega) HRp.o;have HG:Hd (Dy false nm y s=.go ⟨s.pl+1,s.stack++[Cw y.has],s.steps,s.looks⟩):=show Dy false nm y s=.go ⟨s.pl+1,s.stack++[Cw y.has],s.steps,s.looks⟩ from by simp[Dy]
  clear c2 f2 hk2
  rcases hpost with ⟨c,t,n,hru,rfl⟩|⟨ask',nm',s',hru,rfl,hso,hM2⟩
  ·have HRU:Hd (My is ⟨s.pl+1,s.stack++[Cw y.has],s.steps,s.looks⟩ (.over c t n)):=hru;clear hru;have hblk:w2.heap[w.heap.size+1+1]?=some (.cells #[.bool false,.int .i64 0,.string ⟨#[]⟩,.bool false,.string ⟨#[]⟩,.int .i64 0] 115 (0,0)):=HR2.o;have k0:=cH hblk 0;have k1:=cH hblk 1;have k2:=cH hblk 2;have k3:=cH hblk 3;have k4:=cH hblk 4;have k5:=cH hblk 5;simp only[gA,gB,gC] at k0 k1 k2 k3 k4 k5;have f0:∀ j,w2.frozen? ⟨w.heap.size+1+1,j,none⟩=false:=fun j=>fH hblk j;clear hblk;unfold Ao;go_wp2;exact bR (v:=Ao true c t false ⟨#[]⟩ n) (by simp[results,Tryz.results90,go_sem,Ao,k0,k1,k2,k3,k4,k5]) rfl ⟨((((((HK2.o).setB 0 hRw hRB _).setB 1 hRw hRB _).setB 2 hRw hRB _).setB 3 hRw hRB _).setB 4 hRw hRB _).setB 5 hRw hRB _,Or.inr ⟨_,HG.o,Or.inl ⟨c,t,n,HRU.o,rfl⟩⟩⟩
  ·have HRU:Hd (My is ⟨s.pl+1,s.stack++[Cw y.has],s.steps,s.looks⟩ (.look ask' nm' s')):=hru;have HSO:Hd (Ec is s'):=hso;have HM2:Hd (Bx B w2 m s'.stack (.slice a is.length cap) s'.pl s'.steps s'.looks):=hM2;clear hru hso hM2;have hblk:w2.heap[w.heap.size+1+1]?=some (.cells #[.bool false,.int .i64 0,.string ⟨#[]⟩,.bool false,.string ⟨#[]⟩,.int .i64 0] 115 (0,0)):=HR2.o;have k0:=cH hblk 0;have k1:=cH hblk 1;have k2:=cH hblk 2;have k3:=cH hblk 3;have k4:=cH hblk 4;have k5:=cH hblk 5;simp only[gA,gB,gC] at k0 k1 k2 k3 k4 k5;have f0:∀ j,w2.frozen? ⟨w.heap.size+1+1,j,none⟩=false:=fun j=>fH hblk j;clear hblk;unfold Ao;go_wp2;exact bR (v:=Ao false 0 ⟨#[]⟩ ask' nm' s'.steps) (by simp[results,Tryz.results90,go_sem,Ao,k0,k1,k2,k3,k4,k5]) rfl ⟨((((((HK2.o).setB 0 hRw hRB _).setB 1 hRw hRB _).setB 2 hRw hRB _).setB 3 hRw hRB _).setB 4 hRw hRB _).setB 5 hRw hRB _,Or.inr ⟨_,HG.o,Or.inr ⟨ask',nm',s',HRU.o,rfl,HSO.o,(Bx.turn (Bx.turn (Bx.turn (Bx.turn (Bx.turn (Bx.turn ⟨HM2.o,_,HR2.o⟩ 0 _) 1 _) 2 _) 3 _) 4 _) 5 _).1⟩⟩⟩
 ·by_cases hh:y.has=true
  ·have HY1:Hd (y.has=true):=hh;rw[hh] at r2 eW;rw[hh]
   by_cases hc:y.code=0
   ·have HY2:Hd (y.code=0):=hc;rw[hc] at r3 eW;rw[hc];go_enter Tryz.func90,Tryz.ntmps90;go_wp2_with fail;clear eW;refine(Gl B m s.stack _ s.pl s.steps s.looks (y.text) _ HM1.o hB1' hy h50).mono ?_;rintro e w1 ⟨rfl,hb1,hM1⟩;have HMp:Hd (Bx B (w1.setCell ⟨m,2,none⟩ (.int .i64 ((s.pl:Int)+1))) m (s.stack++[y.text]) (.slice a is.length cap) ((s.pl:Int)+1) s.steps s.looks):=hM1.place _;obtain⟨c2,f2,_,_⟩:=hM1.cell2;have HKp:Hd (KB B m w (w1.setCell ⟨m,2,none⟩ (.int .i64 ((s.pl:Int)+1)))):=(HK1.o.trans hb1).setM 2 hBm _
    have HRp:Hd ((w1.setCell ⟨m,2,none⟩ (.int .i64 ((s.pl:Int)+1))).heap[w.heap.size+1+1]?=some (.cells #[.bool false,.int .i64 0,.string ⟨#[]⟩,.bool false,.string ⟨#[]⟩,.int .i64 0] 115 (0,0))):=by
     rw[hC w1 ⟨m,2,none⟩ _ _ (by simp;omega)];exact hb1.keep _ _ 115 (by decide) (by omega) HR1.o
    clear hM1 hb1 HM1 HK1 HR1 r0 r1 r2 r3 r4;go_wp2_with fail;refine(Vw B m is a cap ⟨s.pl+1,s.stack++[y.text],s.steps,s.looks⟩ _ HMp.o (Nat.le_trans hB HKp.o.size) hB1 (HC.o.belowB HKp.o.bl) (HT.o.belowB HKp.o.bl (by omega)) (HP.o.belowB HKp.o.bl hB1) HV.o (Kg HS.o hlen.2 hpl h50 hy)).mono ?_;rintro e w2 ⟨hk2,hpost⟩;have HK2:Hd (KB B m w w2):=HKp.o.trans hk2;have HR2:Hd (w2.heap[w.heap.size+1+1]?=some (.cells #[.bool false,.int .i64 0,.string ⟨#[]⟩,.bool false,.string ⟨#[]⟩,.int .i64 0] 115 (0,0))):=hk2.keep _ _ 115 (by decide) (by omega) HRp.o;(have HG:Hd (Dy true nm y s=.go ⟨s.pl+1,s.stack++[y.text],s.steps,s.looks⟩):=show Dy true nm y s=.go ⟨s.pl+1,s.stack++[y.text],s.steps,s.looks⟩ from by simp[Dy,HY1.o,HY2.o]);clear c2 f2 hk2
    rcases hpost with ⟨c,t,n,hru,rfl⟩|⟨ask',nm',s',hru,rfl,hso,hM2⟩
    ·have HRU:Hd (My is ⟨s.pl+1,s.stack++[y.text],s.steps,s.looks⟩ (.over c t n)):=hru;clear hru;have hblk:w2.heap[w.heap.size+1+1]?=some (.cells #[.bool false,.int .i64 0,.string ⟨#[]⟩,.bool false,.string ⟨#[]⟩,.int .i64 0] 115 (0,0)):=HR2.o;have k0:=cH hblk 0;have k1:=cH hblk 1;have k2:=cH hblk 2;have k3:=cH hblk 3;have k4:=cH hblk 4;have k5:=cH hblk 5;simp only[gA,gB,gC] at k0 k1 k2 k3 k4 k5;have f0:∀ j,w2.frozen? ⟨w.heap.size+1+1,j,none⟩=false:=fun j=>fH hblk j;clear hblk;unfold Ao;go_wp2;exact bR (v:=Ao true c t false ⟨#[]⟩ n) (by simp[results,Tryz.results90,go_sem,Ao,k0,k1,k2,k3,k4,k5]) rfl ⟨((((((HK2.o).setB 0 hRw hRB _).setB 1 hRw hRB _).setB 2 hRw hRB _).setB 3 hRw hRB _).setB 4 hRw hRB _).setB 5 hRw hRB _,Or.inr ⟨_,HG.o,Or.inl ⟨c,t,n,HRU.o,rfl⟩⟩⟩
    ·have HRU:Hd (My is ⟨s.pl+1,s.stack++[y.text],s.steps,s.looks⟩ (.look ask' nm' s')):=hru;have HSO:Hd (Ec is s'):=hso;have HM2:Hd (Bx B w2 m s'.stack (.slice a is.length cap) s'.pl s'.steps s'.looks):=hM2;clear hru hso hM2;have hblk:w2.heap[w.heap.size+1+1]?=some (.cells #[.bool false,.int .i64 0,.string ⟨#[]⟩,.bool false,.string ⟨#[]⟩,.int .i64 0] 115 (0,0)):=HR2.o;have k0:=cH hblk 0;have k1:=cH hblk 1;have k2:=cH hblk 2;have k3:=cH hblk 3;have k4:=cH hblk 4;have k5:=cH hblk 5;simp only[gA,gB,gC] at k0 k1 k2 k3 k4 k5;have f0:∀ j,w2.frozen? ⟨w.heap.size+1+1,j,none⟩=false:=fun j=>fH hblk j;clear hblk;unfold Ao;go_wp2;exact bR (v:=Ao false 0 ⟨#[]⟩ ask' nm' s'.steps) (by simp[results,Tryz.results90,go_sem,Ao,k0,k1,k2,k3,k4,k5]) rfl ⟨((((((HK2.o).setB 0 hRw hRB _).setB 1 hRw hRB _).setB 2 hRw hRB _).setB 3 hRw hRB _).setB 4 hRw hRB _).setB 5 hRw hRB _,Or.inr ⟨_,HG.o,Or.inr ⟨ask',nm',s',HRU.o,rfl,HSO.o,(Bx.turn (Bx.turn (Bx.turn (Bx.turn (Bx.turn (Bx.turn ⟨HM2.o,_,HR2.o⟩ 0 _) 1 _) 2 _) 3 _) 4 _) 5 _).1⟩⟩⟩
   ·(have hcb:(y.code == 0)=false:=by simpa using hc);(have HA:Hd (Dy true nm y s=.over 5 nm s.steps):=show Dy true nm y s=.over 5 nm s.steps from by simp[Dy,HY1.o,hc]);obtain⟨z0,zp,_,_,_,_,_,_,_,_,gm⟩:=HM1.o.all;have HG:Hd (Fd W m _ _ s.pl s.steps s.looks):=gm;clear gm;go_enter Tryz.func90,Tryz.ntmps90;go_wp2_with fail;clear eW;refine(Jg m _ _ s.pl s.steps s.looks 5 nm _ HG.o).mono ?_;rintro e w2 ⟨rfl,hb2⟩;have HK2:Hd (KB B m w w2):=HK1.o.trans (KB.old hb2 hB1');have hblk:w2.heap[w.heap.size+1+1]?=some (.cells #[.bool false,.int .i64 0,.string ⟨#[]⟩,.bool false,.string ⟨#[]⟩,.int .i64 0] 115 (0,0)):=(by rw[hb2.block _ (Af HR1.o)];exact HR1.o);have k0:=cH hblk 0;have k1:=cH hblk 1;have k2:=cH hblk 2;have k3:=cH hblk 3;have k4:=cH hblk 4;have k5:=cH hblk 5;simp only[gA,gB,gC] at k0 k1 k2 k3 k4 k5;have f0:∀ j,w2.frozen? ⟨w.heap.size+1+1,j,none⟩=false:=fun j=>fH hblk j;clear hblk r0 r1 r2 r3 r4;unfold Ao;go_wp2;exact bR (v:=Ao true 5 nm false ⟨#[]⟩ s.steps) (by simp[results,Tryz.results90,go_sem,Ao,k0,k1,k2,k3,k4,k5]) rfl ⟨((((((HK2.o).setB 0 hRw hRB _).setB 1 hRw hRB _).setB 2 hRw hRB _).setB 3 hRw hRB _).setB 4 hRw hRB _).setB 5 hRw hRB _,Or.inl ⟨5,nm,s.steps,HA.o,rfl⟩⟩
  ·have hh':y.has=false:=by simpa using hh
   rw[hh'] at r2 eW;rw[hh'];have HA:Hd (Dy true nm y s=.over 4 nm s.steps):=show Dy true nm y s=.over 4 nm s.steps from by simp[Dy,hh']
   obtain⟨z0,zp,_,_,_,_,_,_,_,_,gm⟩:=HM1.o.all;have HG:Hd (Fd W m _ _ s.pl s.steps s.looks):=gm;clear gm;go_enter Tryz.func90,Tryz.ntmps90;go_wp2_with fail;clear eW;refine(Jg m _ _ s.pl s.steps s.looks 4 nm _ HG.o).mono ?_;rintro e w2 ⟨rfl,hb2⟩;have HK2:Hd (KB B m w w2):=HK1.o.trans (KB.old hb2 hB1');have hblk:w2.heap[w.heap.size+1+1]?=some (.cells #[.bool false,.int .i64 0,.string ⟨#[]⟩,.bool false,.string ⟨#[]⟩,.int .i64 0] 115 (0,0)):=(by rw[hb2.block _ (Af HR1.o)];exact HR1.o);have k0:=cH hblk 0;have k1:=cH hblk 1;have k2:=cH hblk 2;have k3:=cH hblk 3;have k4:=cH hblk 4;have k5:=cH hblk 5;simp only[gA,gB,gC] at k0 k1 k2 k3 k4 k5;have f0:∀ j,w2.frozen? ⟨w.heap.size+1+1,j,none⟩=false:=fun j=>fH hblk j;clear hblk r0 r1 r2 r3 r4;unfold Ao;go_wp2;exact bR (v:=Ao true 4 nm false ⟨#[]⟩ s.steps) (by simp[results,Tryz.results90,go_sem,Ao,k0,k1,k2,k3,k4,k5]) rfl ⟨((((((HK2.o).setB 0 hRw hRB _).setB 1 hRw hRB _).setB 2 hRw hRB _).setB 3 hRw hRB _).setB 4 hRw hRB _).setB 5 hRw hRB _,Or.inl ⟨4,nm,s.steps,HA.o,rfl⟩⟩
theorem Vc {is:List I3} (ys:List R3) {s:St} {o:Out} (h:My is s o):∀ {c t n},o=.over c t n->Az is ys s (.over c t n):=by
 induction h with
 | over h1=>intro c t n e;cases e;exact .over h1
 | look h1=>intro c t n e;cases e
 | go h1 _ ih=>intro c t n e;exact .go h1 (ih e)
theorem Od {is:List I3} {s s':St} (hv:Ah is=true) (hs:Ec is s) (h:Bk is s=.go s'):Ec is s'/\s'.looks=s.looks:=by
 have hl:=Ed hv
 by_cases hp:s.pl<is.length
 ·by_cases h2:s.steps=2000
  ·rw[Je hp h2] at h;cases h
  ·obtain⟨o,t,n,e,h3,h4,h5,h6,h7⟩:=Kn hv hp;rw[Fj hp h2 e] at h
   by_cases hf:s.stack.length<An o
   ·rw[Mq hf] at h;cases h
   ·rcases (show o<=11\/(o=12\/o=13)\/o=14\/o=15 by omega) with ho|ho|ho|ho
    ·by_cases hb:Pp o t n s.stack
     ·rw[Hp hf ho hb] at h;cases h
     ·rw[Ma hf ho hb] at h;cases h;exact⟨go_ok hs hl.2 hp h2 h7 hb,rfl⟩
    ·by_cases hn:Aq (Bq s.stack)
     ·by_cases hk:s.looks=200
      ·rw[Gs hf ho hn hk] at h;cases h
      ·rw[He hf ho hn hk] at h;cases h
     ·rw[Jy hf ho hn] at h;cases h
    ·rw[Ko hf ho] at h;cases h
    ·rw[La hf ho] at h;cases h
 ·rw[Kk hp] at h;cases h
def Gc:St:=⟨0,[],0,0⟩
theorem Px (is:List I3):Ec is Gc:=⟨by simp[Gc],by simp[Gc],by simp[Gc],by simp[Gc],by simp[Gc]⟩
def resT:Res->Value
 | .over c t n=>Ao true c t false ⟨#[]⟩ n
 | .wait ask nm n=>Ao false 0 ⟨#[]⟩ ask nm n
theorem Bx.alloc {B:Nat} {w:World} {m:Nat} {ss:List ByteArray} {cd:Value} {pl st lk:Int} (h:Bx B w m ss cd pl st lk) (o:Obj):Bx B (w.alloc o) m ss cd pl st lk:=h.bl (aN _ _)
theorem Rq {w:World} {T:Nat} {cs:Array Value} (hc:cs.size=6) (h:w.heap[T]?=some (.cells cs 115 (0,0))) (b0 b1 b2 b3 b4 b5:Value) :
  ((((((w.setCell ⟨T,0,none⟩ b0).setCell ⟨T,1,none⟩ b1).setCell ⟨T,2,none⟩ b2).setCell ⟨T,3,none⟩ b3).setCell ⟨T,4,none⟩ b4).setCell ⟨T,5,none⟩ b5).heap[T]?=some (.cells #[b0,b1,b2,b3,b4,b5] 115 (0,0))∧
  ∀ B m ss cd pl st lk,Bx B w m ss cd pl st lk->Bx B ((((((w.setCell ⟨T,0,none⟩ b0).setCell ⟨T,1,none⟩ b1).setCell ⟨T,2,none⟩ b2).setCell ⟨T,3,none⟩ b3).setCell ⟨T,4,none⟩ b4).setCell ⟨T,5,none⟩ b5) m ss cd pl st lk:=by
 refine⟨?_,fun B m ss cd pl st lk hM=>(Bx.turn (Bx.turn (Bx.turn (Bx.turn (Bx.turn (Bx.turn ⟨hM,_,h⟩ 0 _) 1 _) 2 _) 3 _) 4 _) 5 _).1⟩
 obtain⟨l⟩:=cs
 match l,hc with
 | [x0,x1,x2,x3,x4,x5],_=>
  rw[jB (jB (jB (jB (jB (jB h b0) b1) b2) b3) b4) b5];rfl
theorem bN {w a b:World} (h:Below w.heap.size w a) (k:Below a.heap.size a b):Below w.heap.size w b:=h.trans (k.mono h.size)
theorem Ss {is:List I3} (hv:Ah is=true) {s:St} {o:Out} (h:My is s o):Ec is s->∀ {ask nm s'},o=.look ask nm s'->∃ s1,Bk is s1=.look ask nm s'/\s1.looks=s.looks/\Ec is s1/\∀ ys r,Az is ys s1 r->Az is ys s r:=by
 induction h with
 | over h1=>intro _ c t n e;cases e
 | look h1=>intro hs c t n e;cases e;exact⟨_,h1,rfl,hs,fun ys r hr=>hr⟩
 | go h1 _ ih=>intro hs c t n e;obtain⟨k1,k2⟩:=Od hv hs h1;obtain⟨s1,h2,h4,h5,h3⟩:=ih k1 e;exact⟨s1,h2,h4.trans k2,h5,fun ys r hr=>.go h1 (h3 ys r hr)⟩
def RQ (is:List I3) (ys:List R3) (s:St):Prop:=s.looks=ys.length/\∀ zs r,Az is (ys++zs) s r->Az is (ys++zs) Gc r
def VAt (is:List I3) (ys:List R3) (B m:Nat) (cd:Value) (ov:Bool) (c:Int) (t:ByteArray) (ask:Bool) (nm:ByteArray) (st:Int) (w:World):Prop:=
 (ov=true/\ask=false/\nm=⟨#[]⟩/\∃ n:Nat,st=n/\Az is ys Gc (.over c t n))∨
 (ov=false/\c=0/\t=⟨#[]⟩/\∃ s1 s',st=(s'.steps:Int)/\Bk is s1=.look ask nm s'/\RQ is ys s1/\Ec is s1/\Ec is s'/\Bx B w m s'.stack cd s'.pl s'.steps s'.looks)
theorem VAt.full {is:List I3} {ys:List R3} {B m:Nat} {cd:Value} {ov:Bool} {c:Int} {t:ByteArray} {ask:Bool} {nm:ByteArray} {st:Int} {w:World} (h:VAt is ys B m cd ov c t ask nm st w):(ov=true/\∃ n,Az is ys Gc (.over c t n))\/(ov=false/\∃ n,Az is ys Gc (.wait ask nm n)):=by
 rcases h with ⟨rfl,_,_,n,_,hf⟩|⟨rfl,_,_,s1,s',_,h1,h2,_⟩
 ·exact Or.inl ⟨rfl,n,hf⟩
 ·refine Or.inr ⟨rfl,s'.steps,?_⟩;have:=h2.2 [] (.wait ask nm s'.steps);rw[List.append_nil] at this;exact this (.wait h1 (by rw[h2.1];exact Nat.le_refl _))
theorem VAt.mono {is:List I3} {ys:List R3} {B m:Nat} {cd:Value} {ov:Bool} {c:Int} {t:ByteArray} {ask:Bool} {nm:ByteArray} {st:Int} {w w':World} (h:VAt is ys B m cd ov c t ask nm st w) (hM:∀ ss pl st' lk,Bx B w m ss cd pl st' lk->Bx B w' m ss cd pl st' lk):VAt is ys B m cd ov c t ask nm st w':=by
 rcases h with h|⟨e1,e2,e3,s1,s',e4,h1,h2,h3,h4,h5⟩
 ·exact Or.inl h
 ·exact Or.inr ⟨e1,e2,e3,s1,s',e4,h1,h2,h3,h4,hM _ _ _ _ h5⟩
theorem run_vat {is:List I3} {B m:Nat} {cd:Value} {w3:World} {e:Ending} (hv:Ah is=true) (h:Tf is Gc B m cd e w3):∃ ov c t ask nm st,e=.returned (Ao ov c t ask nm st)/\VAt is [] B m cd ov c t ask nm st w3:=by
 rcases h with ⟨c,t,n,hr,rfl⟩|⟨ask,nm,s',hr,rfl,hs,hM⟩
 ·exact⟨true,c,t,false,⟨#[]⟩,n,rfl,Or.inl ⟨rfl,rfl,rfl,n,rfl,Vc [] hr rfl⟩⟩
 ·obtain⟨s1,h1,h2,h3,h4⟩:=Ss hv hr (Px is) rfl;exact⟨false,0,⟨#[]⟩,ask,nm,s'.steps,rfl,Or.inr ⟨rfl,rfl,rfl,s1,s',rfl,h1,⟨h2,fun zs r hr=>h4 _ r hr⟩,h3,hs,hM⟩⟩
theorem rx_mid (ys zs:List R3) (y:R3):rx (ys++[y]++zs) ys.length=y:=by
 unfold rx
 rw[gG,List.append_assoc,List.getElem?_append_right (Nat.le_refl _)]
 simp
theorem ans_vat {is:List I3} {ys:List R3} {B m:Nat} {cd:Value} {ask:Bool} {nm:ByteArray} {y y':R3} {s1 s':St} {e:Ending} {w3:World} (hv:Ah is=true) (h1:Bk is s1=.look ask nm s') (hq:RQ is ys s1) (hy:y.text.size<=2000) (hyy:Dy ask nm y s'=Dy ask nm y' s') (hs1:Ec is s1) (hs':Ec is s')
  (h:(∃ c t n,Dy ask nm y s'=.over c t n/\e=.returned (Ao true c t false ⟨#[]⟩ n))\/(∃ s'',Dy ask nm y s'=.go s''/\Tf is s'' B m cd e w3)) :
  ∃ ov c t ask nm st,e=.returned (Ao ov c t ask nm st)/\VAt is (ys++[y']) B m cd ov c t ask nm st w3:=by
 obtain⟨q1,q2,q3,q4,q5,q6,q7,q8⟩:=Gm h1
 have hl:=(Ed hv).2
 have hlk:∀ zs:List R3,s1.looks<(ys++[y']++zs).length:=fun zs=>by rw[hq.1];simp
 have hrx:∀ zs:List R3,rx (ys++[y']++zs) s1.looks=y':=fun zs=>by rw[hq.1];exact rx_mid ys zs y'
 have hF:∀ zs r,Az is (ys++[y']++zs) s1 r->Az is (ys++[y']++zs) Gc r:=fun zs r hr=>by
  have:=hq.2 ([y']++zs) r;rw[<- List.append_assoc] at this;exact this hr
 have nil:∀ r,Az is (ys++[y']++[]) Gc r->Az is (ys++[y']) Gc r:=fun r hr=>by rw[List.append_nil] at hr;exact hr
 rcases h with ⟨c,t,n,ha,rfl⟩|⟨s'',ha,hpost⟩
 ·refine⟨true,c,t,false,⟨#[]⟩,n,rfl,Or.inl ⟨rfl,rfl,rfl,n,rfl,nil _ (hF [] _ (.end h1 (hlk []) ?_))⟩⟩;rw[hrx,<- hyy];exact ha
 ·have h50:s'.stack.length<50:=by rw[q7,Bi];have:=hs1.len;omega
  have hso:Ec is s''/\s''.looks=s'.looks:=by
   unfold Dy at ha
   split at ha
   ·cases ha;exact⟨Kg hs' hl (by omega) h50 (by rw[Ht];omega),rfl⟩
   ·split at ha
    ·cases ha
    ·split at ha
     ·cases ha
     ·cases ha;exact⟨Kg hs' hl (by omega) h50 hy,rfl⟩
  have hA:∀ zs,Dy ask nm (rx (ys++[y']++zs) s1.looks) s'=.go s'':=fun zs=>by rw[hrx,<- hyy];exact ha
  rcases hpost with ⟨c,t,n,hr,rfl⟩|⟨ask',nm',s3,hr,rfl,hs3,hM⟩
  ·exact⟨true,c,t,false,⟨#[]⟩,n,rfl,Or.inl ⟨rfl,rfl,rfl,n,rfl,nil _ (hF [] _ (.ans h1 (hlk []) (hA []) (Vc _ hr rfl)))⟩⟩
  ·obtain⟨s2,g1,g2,g3,g4⟩:=Ss hv hr hso.1 rfl;exact⟨false,0,⟨#[]⟩,ask',nm',s3.steps,rfl,Or.inr ⟨rfl,rfl,rfl,s2,s3,rfl,g1,⟨by rw[g2,hso.2,q1,hq.1];simp,fun zs r hr=>hF zs r (.ans h1 (hlk zs) (hA zs) (g4 _ r hr))⟩,g3,hs3,hM⟩⟩
inductive Mw (is:List I3) (gs:List G3) (tell:G3->Option R3) (fin:Int->ByteArray->Int):List R3->Int->Prop
 | few {ys c t n}:Az is ys Gc (.over c t n)->ys.length<gs.length->Mw is gs tell fin ys 2
 | fin {ys c t n}:Az is ys Gc (.over c t n)->gs.length<=ys.length->Mw is gs tell fin ys (fin c t)
 | none {ys ask nm n}:Az is ys Gc (.wait ask nm n)->gs.length<=ys.length->Mw is gs tell fin ys 2
 | other {ys ask nm n}:Az is ys Gc (.wait ask nm n)->ys.length<gs.length->¬ ((gx gs ys.length).name=nm/\(gx gs ys.length).ask=ask)->Mw is gs tell fin ys 2
 | untold {ys ask nm n}:Az is ys Gc (.wait ask nm n)->ys.length<gs.length->((gx gs ys.length).name=nm/\(gx gs ys.length).ask=ask)->tell (gx gs ys.length)=Option.none->Mw is gs tell fin ys 3
 | go {ys ask nm n y c}:Az is ys Gc (.wait ask nm n)->ys.length<gs.length->((gx gs ys.length).name=nm/\(gx gs ys.length).ask=ask)->tell (gx gs ys.length)=some y->Mw is gs tell fin (ys++[y]) c->Mw is gs tell fin ys c
theorem Xb {is:List I3} {s:St} (hs:Ec is s) (h:1<=s.stack.length):(Bq s.stack).size<=2000:=by
 unfold Bq
 rw[gG,gQ (by omega)]
 exact hs.size _ (List.getElem_mem _)
theorem decB_size {n:Nat} (h:n<=200):(Dx n).size<=2000:=by
 have:=Ep 2 n (by omega)
 show (Lib.decDigits n).length<=2000
 omega
theorem step0_over {is:List I3} {s:St} {c:Int} {t:ByteArray} {n:Nat} (hv:Ah is=true) (hs:Ec is s) (h:Bk is s=.over c t n):t.size<=2000/\0<=c/\c<=5:=by
 have hd:=decB_size hs.pl
 by_cases hp:s.pl<is.length
 ·by_cases h2:s.steps=2000
  ·rw[Je hp h2] at h;cases h;exact⟨by decide,by decide,by decide⟩
  ·obtain⟨o,t',n',e,h3,h4,h5,h6,h7⟩:=Kn hv hp;rw[Fj hp h2 e] at h
   by_cases hf:s.stack.length<An o
   ·rw[Mq hf] at h;cases h;exact⟨hd,by decide,by decide⟩
   ·rcases (show o<=11\/(o=12\/o=13)\/o=14\/o=15 by omega) with ho|ho|ho|ho
    ·by_cases hb:Pp o t' n' s.stack
     ·rw[Hp hf ho hb] at h;cases h;exact⟨hd,by decide,by decide⟩
     ·rw[Ma hf ho hb] at h;cases h
    ·by_cases hn:Aq (Bq s.stack)
     ·by_cases hk:s.looks=200
      ·rw[Gs hf ho hn hk] at h;cases h;exact⟨by decide,by decide,by decide⟩
      ·rw[He hf ho hn hk] at h;cases h
     ·rw[Jy hf ho hn] at h;cases h;exact⟨hd,by decide,by decide⟩
    ·(have h1:1<=s.stack.length:=by rw[ho] at hf;have:An 14=1:=rfl;omega);rw[Ko hf ho] at h;cases h;exact⟨Xb hs h1,by decide,by decide⟩
    ·(have h1:1<=s.stack.length:=by rw[ho] at hf;have:An 15=1:=rfl;omega);rw[La hf ho] at h;cases h;exact⟨Xb hs h1,by decide,by decide⟩
 ·rw[Kk hp] at h;cases h;exact⟨hd,by decide,by decide⟩
theorem Ip {is:List I3} {s s':St} {ask:Bool} {nm:ByteArray} (hv:Ah is=true) (hs:Ec is s) (h:Bk is s=.look ask nm s'):Ec is s'/\Aq nm:=by
 by_cases hp:s.pl<is.length
 ·by_cases h2:s.steps=2000
  ·rw[Je hp h2] at h;cases h
  ·obtain⟨o,t',n',e,h3,h4,h5,h6,h7⟩:=Kn hv hp;rw[Fj hp h2 e] at h
   by_cases hf:s.stack.length<An o
   ·rw[Mq hf] at h;cases h
   ·rcases (show o<=11\/(o=12\/o=13)\/o=14\/o=15 by omega) with ho|ho|ho|ho
    ·by_cases hb:Pp o t' n' s.stack
     ·rw[Hp hf ho hb] at h;cases h
     ·rw[Ma hf ho hb] at h;cases h
    ·by_cases hn:Aq (Bq s.stack)
     ·by_cases hk:s.looks=200
      ·rw[Gs hf ho hn hk] at h;cases h
      ·rw[He hf ho hn hk] at h;cases h;exact⟨Ri hs h2 hk,hn⟩
     ·rw[Jy hf ho hn] at h;cases h
    ·rw[Ko hf ho] at h;cases h
    ·rw[La hf ho] at h;cases h
 ·rw[Kk hp] at h;cases h
theorem Az.size {is:List I3} {ys:List R3} (hv:Ah is=true) (hys:∀ i,i<ys.length->(rx ys i).text.size<=2000) {s:St} {r:Res} (h:Az is ys s r):Ec is s->∀ {c t n},r=.over c t n->t.size<=2000/\0<=c/\c<=5:=by
 have hl:=(Ed hv).2
 induction h with
 | over h1=>intro hs c t n e;cases e;exact step0_over hv hs h1
 | go h1 _ ih=>intro hs c t n e;exact ih (Od hv hs h1).1 e
 | wait h1 _=>intro hs c t n e;cases e
 | ans h1 k1 a1 _ ih=>
  intro hs c t n e;obtain⟨q1,q2,q3,q4,q5,q6,q7,q8⟩:=Gm h1;have hs':=(Ip hv hs h1).1
  rename_i s s' s'' _ _
  have h50:s'.stack.length<50:=by rw[q7,Bi];have:=hs.len;omega
  refine ih ?_ e;unfold Dy at a1
  split at a1
  ·cases a1;exact Kg hs' hl (by omega) h50 (by rw[Ht];omega)
  ·split at a1
   ·cases a1
   ·split at a1
    ·cases a1
    ·cases a1;exact Kg hs' hl (by omega) h50 (hys _ k1)
 | «end» h1 k1 a1=>
  intro hs c t n e;cases e;have hnm:=(Ip hv hs h1).2;have h60:=hnm.2.1;unfold Dy at a1
  split at a1
  ·cases a1
  ·split at a1
   ·cases a1;exact⟨by omega,by decide,by decide⟩
   ·split at a1
    ·cases a1;exact⟨by omega,by decide,by decide⟩
    ·cases a1
end Go.Proofs.YtjlnkepkkdefdaaGreatDoor
