import Derived.Test.YtjlnkepkkdefdaaGreatDoorTNStr
import Derived.Test.YtjlnkepkkdefdaaGreatDoorTVoA
import Derived.Test.YtjlnkepkkdefdaaGreatDoorTNPlainS
import Derived.Test.YtjlnkepkkdefdaaGreatDoorTVoG
import Derived.Test.YtjlnkepkkdefdaaGreatDoorTForm
import Derived.Deep.DeepCutAuto
namespace Go.Proofs.YtjlnkepkkdefdaaGreatDoor
open Go.RowKit
set_option linter.unusedVariables false
set_option maxHeartbeats 8000000
set_option maxRecDepth 100000
set_option linter.unusedSimpArgs false
theorem l2Step_any (a:Option Addr) (cap:Nat) (is:List I3) (s:St) (sa:Option Addr) (cp:Nat) (ra:Option Addr) (rcap:Nat) (ys:List R3) (w:World) (B0:Nat) (hv:Ah is=true) (hs:Ec is s) (hcode:Dr w a is) (hsk:Pn B0 w sa cp s.stack) (hyl:ys.length<=200) (hr:Nx w ra ys) :
  Calls Tryz.prog 128 #[.agg #[.slice a is.length cap],Ds s.pl (.slice sa s.stack.length cp) s.steps s.looks,.slice ra ys.length rcap] w fun e w'=>Below w.heap.size w w'/\Ce w.heap.size is ys s w' e:=by
 by_cases hpl:s.pl<is.length
 ·by_cases hst2:s.steps=2000
  ·exact step_spent a cap is s sa cp ra rcap ys w hv hs hpl hst2
  ·obtain⟨o,tt,n,ei,ho1,ho2,ht,hn,hn2⟩:=Kn hv hpl;exact step_in a cap is s sa cp ra rcap ys w B0 hv hs hcode hpl hst2 hsk o tt n ei ho1 ho2 hn hyl hr
 ·exact Xk a cap is s sa cp ra rcap ys w hv hs hpl
theorem reps_size {ys:List R3} (h:Lv ys=true) {k:Nat} (hk:k<ys.length):(rx ys k).text.size<=2000:=by
 simp only[Lv,Bool.and_eq_true,decide_eq_true_eq] at h
 have:=h.2 k hk
 simp only[Fg,Bool.and_eq_true,decide_eq_true_eq] at this
 omega
def Gj (is:List I3) (ys:List R3) (B:Nat) (w:World) (kx:Nat) (x0:Int) (ax:Option Addr) (nx cx:Nat) (x2 x3:Int) (x4:Bool) (x5:Int) (x6:ByteArray) (x7:Bool) (x8:ByteArray) (x9:Bool):Prop:=
 (∃ s,Ec is s/\(∀ r,Az is ys s r->Az is ys Gc r)/\Pn B w ax cx s.stack/\2002-s.steps<=kx/\x0=s.pl/\nx=s.stack.length/\x2=s.steps/\x3=s.looks/\x4=false/\x5=0/\x6=⟨#[]⟩/\x7=false/\x8=⟨#[]⟩/\x9=false)∨
 (∃ n:Nat,Az is ys Gc (.over x5 x6 n)/\x2=n/\x4=true/\x9=false)∨
 (∃ n:Nat,Az is ys Gc (.wait x7 x8 n)/\x2=n/\x4=false/\x9=true)
theorem Xl {is:List I3} {s s':St} (hv:Ah is=true) (hs:Ec is s) (h:Bk is s=.go s'):s'.steps=s.steps+1:=by
 by_cases hp:s.pl<is.length
 ·by_cases h2:s.steps=2000
  ·rw[Je hp h2] at h;cases h
  ·obtain⟨o,t,n,e,h3,h4,h5,h6,h7⟩:=Kn hv hp;rw[Fj hp h2 e] at h
   by_cases hf:s.stack.length<An o
   ·rw[Mq hf] at h;cases h
   ·rcases (show o<=11\/(o=12\/o=13)\/o=14\/o=15 by omega) with ho|ho|ho|ho
    ·by_cases hb:Pp o t n s.stack
     ·rw[Hp hf ho hb] at h;cases h
     ·rw[Ma hf ho hb] at h;cases h;rfl
    ·by_cases hn:Aq (Bq s.stack)
     ·by_cases hk:s.looks=200
      ·rw[Gs hf ho hn hk] at h;cases h
      ·rw[He hf ho hn hk] at h;cases h
     ·rw[Jy hf ho hn] at h;cases h
    ·rw[Ko hf ho] at h;cases h
    ·rw[La hf ho] at h;cases h
 ·rw[Kk hp] at h;cases h
theorem stand_step {is:List I3} {ys:List R3} {s:St} {B:Nat} {w':World} {e:Ending} (hv:Ah is=true) (hs:Ec is s) (hrep:Lv ys=true) (hF:∀ r,Az is ys s r->Az is ys Gc r) (h:Ce B is ys s w' e) :
  ∃ x0 ax nx cx x2 x3 x4 x5 x6 x7 x8 x9,e=.returned (r10 x0 ax nx cx x2 x3 x4 x5 x6 x7 x8 x9)/\Gj is ys B w' (2001-s.steps) x0 ax nx cx x2 x3 x4 x5 x6 x7 x8 x9:=by
 have hl:=Ed hv
 rcases h with ⟨c,t,n,h,pl,va,vn,vc,lk,rfl⟩|⟨s',h,a',cp',rfl,ho⟩|⟨ask,nm,s',h,hy,pl,va,vn,vc,lk,rfl⟩|⟨ask,nm,s',s'',h,hy,ha,a',cp',rfl,ho⟩|⟨ask,nm,s',c,t,n,h,hy,ha,pl,va,vn,vc,lk,rfl⟩
 ·exact⟨_,_,_,_,_,_,_,_,_,_,_,_,rfl,Or.inr (Or.inl ⟨n,hF _ (.over h),rfl,rfl,rfl⟩)⟩
 ·have h1:=Od hv hs h;have h2:=Xl hv hs h;exact⟨_,_,_,_,_,_,_,_,_,_,_,_,rfl,Or.inl ⟨s',h1.1,fun r hr=>hF r (.go h hr),ho,by omega,rfl,rfl,rfl,rfl,rfl,rfl,rfl,rfl,rfl,rfl⟩⟩
 ·exact⟨_,_,_,_,_,_,_,_,_,_,_,_,rfl,Or.inr (Or.inr ⟨s'.steps,hF _ (.wait h hy),rfl,rfl,rfl⟩)⟩
 ·obtain⟨q1,q2,q3,q4,q5,q6,q7,q8⟩:=Gm h
  have hst2:s.steps≠2000:=by
   intro h2;rw[Je q5 h2] at h;cases h
  have hs':Ec is s':=by
   have h1:=Ri hs hst2 q4
   have e:s'=⟨s.pl,Be s.stack 1,s.steps+1,s.looks+1⟩:=by
    cases s'
    simp only[St.mk.injEq];exact⟨q2,q7,q3,q1⟩
   rw[e];exact h1
  have h50:s'.stack.length<50:=by rw[q7,Bi];have:=hs.len;omega
  have hso:Ec is s''/\s''.steps=s'.steps:=by
   unfold Dy at ha
   split at ha
   ·cases ha;exact⟨Kg hs' hl.2 (by omega) h50 (by rw[Ht];omega),rfl⟩
   ·split at ha
    ·cases ha
    ·split at ha
     ·cases ha
     ·cases ha;exact⟨Kg hs' hl.2 (by omega) h50 (reps_size hrep hy),rfl⟩
  exact⟨_,_,_,_,_,_,_,_,_,_,_,_,rfl,Or.inl ⟨s'',hso.1,fun r hr=>hF r (.ans h hy ha hr),ho,by omega,rfl,rfl,rfl,rfl,rfl,rfl,rfl,rfl,rfl,rfl⟩⟩
 ·exact⟨_,_,_,_,_,_,_,_,_,_,_,_,rfl,Or.inr (Or.inl ⟨n,hF _ (.end h hy ha),rfl,rfl,rfl⟩)⟩
theorem Gj.set {is:List I3} {ys:List R3} {B:Nat} {w:World} {kx b:Nat} {x0:Int} {ax:Option Addr} {nx cx:Nat} {x2 x3:Int} {x4:Bool} {x5:Int} {x6:ByteArray} {x7:Bool} {x8:ByteArray} {x9:Bool} (h:Gj is ys B w kx x0 ax nx cx x2 x3 x4 x5 x6 x7 x8 x9/\∃ cs,w.heap[b]?=some (.cells cs 193 (0,0))) (j:Nat) (x:Value) :
  Gj is ys B (w.setCell ⟨b,j,none⟩ x) kx x0 ax nx cx x2 x3 x4 x5 x6 x7 x8 x9/\∃ cs,(w.setCell ⟨b,j,none⟩ x).heap[b]?=some (.cells cs 193 (0,0)):=by
 obtain⟨h,hc⟩:=h
 refine⟨?_,by obtain⟨cs,hb⟩:=hc;exact⟨_,jB hb x⟩⟩
 rcases h with ⟨s,h1,h2,h3,h4⟩|h
 ·exact Or.inl ⟨s,h1,h2,(Eg ⟨h3,hc⟩ j x).1,h4⟩
 ·exact Or.inr h
theorem Gj.mono {is:List I3} {ys:List R3} {B B':Nat} {w:World} {kx:Nat} {x0:Int} {ax:Option Addr} {nx cx:Nat} {x2 x3:Int} {x4:Bool} {x5:Int} {x6:ByteArray} {x7:Bool} {x8:ByteArray} {x9:Bool} (h:Gj is ys B w kx x0 ax nx cx x2 x3 x4 x5 x6 x7 x8 x9) (hB:B'<=B):Gj is ys B' w kx x0 ax nx cx x2 x3 x4 x5 x6 x7 x8 x9:=by
 rcases h with ⟨s,h1,h2,h3,h4⟩|h
 ·exact Or.inl ⟨s,h1,h2,h3.mono hB,h4⟩
 ·exact Or.inr h
theorem Xm {is:List I3} {ys:List R3} {B:Nat} {w:World} {kx b:Nat} {x0:Int} {ax:Option Addr} {nx cx:Nat} {x2 x3:Int} {x4:Bool} {x5:Int} {x6:ByteArray} {x7:Bool} {x8:ByteArray} {x9:Bool} (h:Gj is ys B w kx x0 ax nx cx x2 x3 x4 x5 x6 x7 x8 x9) (hc:∃ cs,w.heap[b]?=some (.cells cs 193 (0,0))) (v0 v1 v2 v3 v4 v5 v6 v7 v8 v9:Value) :
  Gj is ys B ((((((((((w.setCell ⟨b,0,none⟩ v0).setCell ⟨b,1,none⟩ v1).setCell ⟨b,2,none⟩ v2).setCell ⟨b,3,none⟩ v3).setCell ⟨b,4,none⟩ v4).setCell ⟨b,5,none⟩ v5).setCell ⟨b,6,none⟩ v6).setCell ⟨b,7,none⟩ v7).setCell ⟨b,8,none⟩ v8).setCell ⟨b,9,none⟩ v9) kx x0 ax nx cx x2 x3 x4 x5 x6 x7 x8 x9:=(Gj.set (Gj.set (Gj.set (Gj.set (Gj.set (Gj.set (Gj.set (Gj.set (Gj.set (Gj.set ⟨h,hc⟩ 0 v0) 1 v1) 2 v2) 3 v3) 4 v4) 5 v5) 6 v6) 7 v7) 8 v8) 9 v9).1
theorem Qaa {w:World} {b:Nat} {u0 u1 u2 u3 u4 u5 u6 u7 u8 u9:Value} (h:w.heap[b]?=some (.cells #[u0,u1,u2,u3,u4,u5,u6,u7,u8,u9] 193 (0,0))) (v0 v1 v2 v3 v4 v5 v6 v7 v8 v9:Value) :
  ((((((((((w.setCell ⟨b,0,none⟩ v0).setCell ⟨b,1,none⟩ v1).setCell ⟨b,2,none⟩ v2).setCell ⟨b,3,none⟩ v3).setCell ⟨b,4,none⟩ v4).setCell ⟨b,5,none⟩ v5).setCell ⟨b,6,none⟩ v6).setCell ⟨b,7,none⟩ v7).setCell ⟨b,8,none⟩ v8).setCell ⟨b,9,none⟩ v9).heap[b]?=some (.cells #[v0,v1,v2,v3,v4,v5,v6,v7,v8,v9] 193 (0,0)):=by
 have h0:(w.setCell ⟨b,0,none⟩ v0).heap[b]?=some (.cells #[v0,u1,u2,u3,u4,u5,u6,u7,u8,u9] 193 (0,0)):=by rw[jB h];rfl
 have h1:((w.setCell ⟨b,0,none⟩ v0).setCell ⟨b,1,none⟩ v1).heap[b]?=some (.cells #[v0,v1,u2,u3,u4,u5,u6,u7,u8,u9] 193 (0,0)):=by rw[jB h0];rfl
 have h2:(((w.setCell ⟨b,0,none⟩ v0).setCell ⟨b,1,none⟩ v1).setCell ⟨b,2,none⟩ v2).heap[b]?=some (.cells #[v0,v1,v2,u3,u4,u5,u6,u7,u8,u9] 193 (0,0)):=by rw[jB h1];rfl
 have h3:((((w.setCell ⟨b,0,none⟩ v0).setCell ⟨b,1,none⟩ v1).setCell ⟨b,2,none⟩ v2).setCell ⟨b,3,none⟩ v3).heap[b]?=some (.cells #[v0,v1,v2,v3,u4,u5,u6,u7,u8,u9] 193 (0,0)):=by rw[jB h2];rfl
 have h4:(((((w.setCell ⟨b,0,none⟩ v0).setCell ⟨b,1,none⟩ v1).setCell ⟨b,2,none⟩ v2).setCell ⟨b,3,none⟩ v3).setCell ⟨b,4,none⟩ v4).heap[b]?=some (.cells #[v0,v1,v2,v3,v4,u5,u6,u7,u8,u9] 193 (0,0)):=by rw[jB h3];rfl
 have h5:((((((w.setCell ⟨b,0,none⟩ v0).setCell ⟨b,1,none⟩ v1).setCell ⟨b,2,none⟩ v2).setCell ⟨b,3,none⟩ v3).setCell ⟨b,4,none⟩ v4).setCell ⟨b,5,none⟩ v5).heap[b]?=some (.cells #[v0,v1,v2,v3,v4,v5,u6,u7,u8,u9] 193 (0,0)):=by rw[jB h4];rfl
 have h6:(((((((w.setCell ⟨b,0,none⟩ v0).setCell ⟨b,1,none⟩ v1).setCell ⟨b,2,none⟩ v2).setCell ⟨b,3,none⟩ v3).setCell ⟨b,4,none⟩ v4).setCell ⟨b,5,none⟩ v5).setCell ⟨b,6,none⟩ v6).heap[b]?=some (.cells #[v0,v1,v2,v3,v4,v5,v6,u7,u8,u9] 193 (0,0)):=by rw[jB h5];rfl
 have h7:((((((((w.setCell ⟨b,0,none⟩ v0).setCell ⟨b,1,none⟩ v1).setCell ⟨b,2,none⟩ v2).setCell ⟨b,3,none⟩ v3).setCell ⟨b,4,none⟩ v4).setCell ⟨b,5,none⟩ v5).setCell ⟨b,6,none⟩ v6).setCell ⟨b,7,none⟩ v7).heap[b]?=some (.cells #[v0,v1,v2,v3,v4,v5,v6,v7,u8,u9] 193 (0,0)):=by rw[jB h6];rfl
 have h8:(((((((((w.setCell ⟨b,0,none⟩ v0).setCell ⟨b,1,none⟩ v1).setCell ⟨b,2,none⟩ v2).setCell ⟨b,3,none⟩ v3).setCell ⟨b,4,none⟩ v4).setCell ⟨b,5,none⟩ v5).setCell ⟨b,6,none⟩ v6).setCell ⟨b,7,none⟩ v7).setCell ⟨b,8,none⟩ v8).heap[b]?=some (.cells #[v0,v1,v2,v3,v4,v5,v6,v7,v8,u9] 193 (0,0)):=by rw[jB h7];rfl
 have h9:((((((((((w.setCell ⟨b,0,none⟩ v0).setCell ⟨b,1,none⟩ v1).setCell ⟨b,2,none⟩ v2).setCell ⟨b,3,none⟩ v3).setCell ⟨b,4,none⟩ v4).setCell ⟨b,5,none⟩ v5).setCell ⟨b,6,none⟩ v6).setCell ⟨b,7,none⟩ v7).setCell ⟨b,8,none⟩ v8).setCell ⟨b,9,none⟩ v9).heap[b]?=some (.cells #[v0,v1,v2,v3,v4,v5,v6,v7,v8,v9] 193 (0,0)):=by rw[jB h8];rfl
 exact h9
theorem Vu (a ra:Option Addr) (cap rcap:Nat) (is:List I3) (ys:List R3) (w:World) (hc:Dr w a is) (hr:Nx w ra ys) (hl:is.length<=1048576) (hs:∀ i,(ix is i).text.size<=9223372036854775807) (hs2:∀ i,(rx ys i).text.size<=9223372036854775807) (hv1:Ah is=true) (hv2:Lv ys=true) :
  Calls Tryz.prog 106 #[.agg #[.slice a is.length cap],.slice ra ys.length rcap] w fun e w'=>Below w.heap.size w w'/\∃ r,Az is ys Gc r/\e=.returned (resT r):=by
 have hb0:Below w.heap.size w ((w.alloc (.cells #[.slice a is.length cap] 37)).alloc (.cells #[.bool false,.int .i64 0,.string ⟨#[]⟩,.bool false,.string ⟨#[]⟩,.int .i64 0] 115)):=(aN _ _).alloc (by simp) _
 have hk:((w.alloc (.cells #[.slice a is.length cap] 37)).alloc (.cells #[.bool false,.int .i64 0,.string ⟨#[]⟩,.bool false,.string ⟨#[]⟩,.int .i64 0] 115)).heap[w.heap.size+1]?=some (.cells #[.bool false,.int .i64 0,.string ⟨#[]⟩,.bool false,.string ⟨#[]⟩,.int .i64 0] 115 (0,0)):=by
  have h:=Aj (w.alloc (.cells #[.slice a is.length cap] 37)) (.cells #[.bool false,.int .i64 0,.string ⟨#[]⟩,.bool false,.string ⟨#[]⟩,.int .i64 0] 115);rw[show (w.alloc (.cells #[.slice a is.length cap] 37)).heap.size=w.heap.size+1 from by simp] at h;exact h
 have hbx:((w.alloc (.cells #[.slice a is.length cap] 37)).alloc (.cells #[.bool false,.int .i64 0,.string ⟨#[]⟩,.bool false,.string ⟨#[]⟩,.int .i64 0] 115)).cell? ⟨w.heap.size,0,none⟩=some (.slice a is.length cap):=by simp[go_sem]
 have hv2':=hv2
 simp only[Lv,Bool.and_eq_true,decide_eq_true_eq] at hv2'
 have hlen:ys.length<=200:=hv2'.1
 have HV1:Hd (Ah is=true):=hv1
 have HV2:Hd (Lv ys=true):=hv2
 have HOK:Hd (∀ i,i<ys.length->Fg (rx ys i)=true):=hv2'.2
 have HC:Hd (Dr w a is):=hc
 have HR:Hd (Nx w ra ys):=hr
 clear hv2' hv2
 go_enter Tryz.func106,Tryz.ntmps106
 go_wp2_with fail
 refine(Cs a cap is _ (HC.o.bl hb0) hl hs).mono ?_
 rintro e w1 ⟨hb1,rfl⟩
 have hB1:=bN hb0 hb1
 have hk1:=Nt hb1 hk
 have hbx1:=Ab hb1 hbx
 rw[hv1]
 clear hb0 hb1 hk hbx hv1 hc hr
 have d2:decide ((200:Int)<(ys.length:Int))=false:=by simp;omega
 have HK1:Hd (w1.heap[w.heap.size+1]?=some (.cells #[.bool false,.int .i64 0,.string ⟨#[]⟩,.bool false,.string ⟨#[]⟩,.int .i64 0] 115 (0,0))):=hk1
 have HB1:Hd (Below w.heap.size w w1):=hB1
 have HX1:Hd (w1.cell? ⟨w.heap.size,0,none⟩=some (.slice a is.length cap)):=hbx1
 have hR1:w.heap.size+1<w1.heap.size:=Af hk1
 clear hk1 hB1 hbx1
 go_wp2_with fail
 go_loopw [5] (fun i wr=>∃ k:Nat,k<=ys.length/\i=.int .i64 k/\w1=wr) (fun i _=>ys.length-(intOf i).toNat)
 case atStart=>exact⟨0,Nat.zero_le _,rfl,rfl⟩
 case round=>
  obtain⟨k,hk,rfl,rfl⟩:=hrel
  by_cases hlt:k<ys.length
  ·obtain⟨b,off,rfl,c1,c2,c3⟩:=(HR.o.bl HB1.o) k hlt;have hsk:=hs2 k;have hok:=HOK.o k hlt;clear hs2 HR HOK;generalize rx ys k=r at *;have d1:decide ((2000:Int)<(r.text.size:Int))=false:=by simp only[Fg,Bool.and_eq_true,decide_eq_true_eq] at hok;simp;omega
   have d3:decide (r.code<0)=false:=by simp only[Fg,Bool.and_eq_true,decide_eq_true_eq] at hok;simp;omega
   have d4:decide (7<r.code)=false:=by simp only[Fg,Bool.and_eq_true,decide_eq_true_eq] at hok;simp;omega
   clear hok;go_wp2_with fail;go_roundw
   case rel=>exact⟨k+1,by omega,by go_num,trivial⟩
   case measure=>simp[intOf];omega
  ·have hkI:¬ (k:Int)<(ys.length:Int):=by omega
   go_wp2_with fail
   go_loopg [] 2002 (fun kx wr=>∃(x0:Int) (ax:Option Addr) (nx cx:Nat) (x2 x3:Int) (x4:Bool) (x5:Int) (x6:ByteArray) (x7:Bool) (x8:ByteArray) (x9:Bool),Hd (wr.heap[w1.heap.size]?=some (.cells #[.int .i64 x0,.slice ax nx cx,.int .i64 x2,.int .i64 x3,.bool x4,.int .i64 x5,.string x6,.bool x7,.string x8,.bool x9] 193 (0,0)))/\Hd (Gj is ys w1.heap.size wr kx x0 ax nx cx x2 x3 x4 x5 x6 x7 x8 x9)/\Hd (Below w1.heap.size w1 wr))
   case atStart=>exact⟨0,none,0,0,0,0,false,0,⟨#[]⟩,false,⟨#[]⟩,false,Aj _ _,Or.inl ⟨Gc,Px is,fun r h=>h,⟨rfl,Or.inl ⟨rfl,rfl⟩⟩,by simp[Gc],rfl,rfl,rfl,rfl,rfl,rfl,rfl,rfl,rfl,rfl⟩,aN _ _⟩
   case round=>
    obtain⟨x0,ax,nx,cx,x2,x3,x4,x5,x6,x7,x8,x9,HRB,HST,HBW⟩:=hrel;(have hxw:wr.cell? ⟨w.heap.size,0,none⟩=some (.slice a is.length cap):=by rw[HBW.o.cell (p:=⟨w.heap.size,0,none⟩) (by simp;omega)];exact HX1.o);(have hkw:wr.heap[w.heap.size+1]?=some (.cells #[.bool false,.int .i64 0,.string ⟨#[]⟩,.bool false,.string ⟨#[]⟩,.int .i64 0] 115 (0,0)):=by rw[HBW.o.block _ hR1];exact HK1.o);have hBw:Below w.heap.size w wr:=HB1.o.trans (HBW.o.mono (by omega));have hrb:=HRB.o
    rcases HST.o with ⟨s,h1,h2,h3,h4,rfl,rfl,rfl,rfl,rfl,rfl,rfl,rfl,rfl,rfl⟩|⟨n,h1,rfl,rfl,rfl⟩|⟨n,h1,rfl,rfl,rfl⟩
    ·have HS:Hd (Ec is s):=h1;have HF:Hd (∀ r,Az is ys s r->Az is ys Gc r):=h2;have HOW:Hd (Pn w1.heap.size wr ax cx s.stack):=h3;have hst:=h1.steps;have hlr:w1.heap.size<wr.heap.size:=Af hrb;have p0:=cH hrb 0;have p1:=cH hrb 1;have p2:=cH hrb 2;have p3:=cH hrb 3;have p4:=cH hrb 4;have p5:=cH hrb 5;have p6:=cH hrb 6;have p7:=cH hrb 7;have p8:=cH hrb 8;have p9:=cH hrb 9;simp only[gA,gB,gC] at p0 p1 p2 p3 p4 p5 p6 p7 p8 p9;have fp:∀ j,wr.frozen? ⟨w1.heap.size,j,none⟩=false:=fun j=>fH hrb j;clear h1 h2 h3 hrb HST;go_wp2_with fail;have hl3:=l2Step_any a cap is s ax cx ra rcap ys wr w1.heap.size HV1.o HS.o (HC.o.bl hBw) HOW.o hlen (HR.o.bl hBw);unfold Ds at hl3;refine hl3.mono ?_;rintro e w3 ⟨hb3,hpost⟩;obtain⟨y0,ay,ny,cy,y2,y3,y4,y5,y6,y7,y8,y9,rfl,hsd⟩:=stand_step HV1.o HS.o HV2.o HF.o hpost;(have hr3:w3.heap[w1.heap.size]?=some (.cells #[.int .i64 s.pl,.slice ax s.stack.length cx,.int .i64 s.steps,.int .i64 s.looks,.bool false,.int .i64 0,.string ⟨#[]⟩,.bool false,.string ⟨#[]⟩,.bool false] 193 (0,0)):=by rw[hb3.block _ hlr];exact HRB.o);have HSD:Hd (Gj is ys wr.heap.size w3 (2001-s.steps) y0 ay ny cy y2 y3 y4 y5 y6 y7 y8 y9):=hsd;have HR3:Hd (w3.heap[w1.heap.size]?=some (.cells #[.int .i64 s.pl,.slice ax s.stack.length cx,.int .i64 s.steps,.int .i64 s.looks,.bool false,.int .i64 0,.string ⟨#[]⟩,.bool false,.string ⟨#[]⟩,.bool false] 193 (0,0))):=hr3;have hB4:Below w1.heap.size w1 w3:=HBW.o.trans (hb3.mono (by omega));clear p0 p1 p2 p3 p4 p5 p6 p7 p8 p9 fp;have p0:=cH hr3 0;have p1:=cH hr3 1;have p2:=cH hr3 2;have p3:=cH hr3 3;have p4:=cH hr3 4;have p5:=cH hr3 5;have p6:=cH hr3 6;have p7:=cH hr3 7;have p8:=cH hr3 8;have p9:=cH hr3 9;simp only[gA,gB,gC] at p0 p1 p2 p3 p4 p5 p6 p7 p8 p9;have fp:∀ j,w3.frozen? ⟨w1.heap.size,j,none⟩=false:=fun j=>fH hr3 j;clear hr3 hsd hpost hl3 hb3;unfold r10;go_wp2_with fail
     go_roundg (2001-s.steps)
     case rel=>exact⟨y0,ay,ny,cy,y2,y3,y4,y5,y6,y7,y8,y9,Qaa HR3.o _ _ _ _ _ _ _ _ _ _,(Xm HSD.o ⟨_,HR3.o⟩ _ _ _ _ _ _ _ _ _ _).mono (by omega),((((((((((hB4).setCell (p:=⟨w1.heap.size,0,none⟩) (Nat.le_refl _) _).setCell (p:=⟨w1.heap.size,1,none⟩) (Nat.le_refl _) _).setCell (p:=⟨w1.heap.size,2,none⟩) (Nat.le_refl _) _).setCell (p:=⟨w1.heap.size,3,none⟩) (Nat.le_refl _) _).setCell (p:=⟨w1.heap.size,4,none⟩) (Nat.le_refl _) _).setCell (p:=⟨w1.heap.size,5,none⟩) (Nat.le_refl _) _).setCell (p:=⟨w1.heap.size,6,none⟩) (Nat.le_refl _) _).setCell (p:=⟨w1.heap.size,7,none⟩) (Nat.le_refl _) _).setCell (p:=⟨w1.heap.size,8,none⟩) (Nat.le_refl _) _).setCell (p:=⟨w1.heap.size,9,none⟩) (Nat.le_refl _) _⟩
     case measure=>omega
    ·have HF:Hd (Az is ys Gc (.over x5 x6 n)):=h1;have p0:=cH hrb 0;have p1:=cH hrb 1;have p2:=cH hrb 2;have p3:=cH hrb 3;have p4:=cH hrb 4;have p5:=cH hrb 5;have p6:=cH hrb 6;have p7:=cH hrb 7;have p8:=cH hrb 8;have p9:=cH hrb 9;simp only[gA,gB,gC] at p0 p1 p2 p3 p4 p5 p6 p7 p8 p9;have fp:∀ j,wr.frozen? ⟨w1.heap.size,j,none⟩=false:=fun j=>fH hrb j;have k0:=cH hkw 0;have k1:=cH hkw 1;have k2:=cH hkw 2;have k3:=cH hkw 3;have k4:=cH hkw 4;have k5:=cH hkw 5;simp only[gA,gB,gC] at k0 k1 k2 k3 k4 k5;have f0:∀ j,wr.frozen? ⟨w.heap.size+1,j,none⟩=false:=fun j=>fH hkw j;clear h1 hrb hkw HST;go_wp2_with fail;exact bR (v:=Ao true x5 x6 false ⟨#[]⟩ n) (by simp[results,Tryz.results106,go_sem,Ao,k0,k1,k2,k3,k4,k5]) rfl ⟨((((((hBw).setCell (p:=⟨w.heap.size+1,0,none⟩) (by simp) _).setCell (p:=⟨w.heap.size+1,1,none⟩) (by simp) _).setCell (p:=⟨w.heap.size+1,2,none⟩) (by simp) _).setCell (p:=⟨w.heap.size+1,3,none⟩) (by simp) _).setCell (p:=⟨w.heap.size+1,4,none⟩) (by simp) _).setCell (p:=⟨w.heap.size+1,5,none⟩) (by simp) _,_,HF.o,rfl⟩
    ·have HF:Hd (Az is ys Gc (.wait x7 x8 n)):=h1;have p0:=cH hrb 0;have p1:=cH hrb 1;have p2:=cH hrb 2;have p3:=cH hrb 3;have p4:=cH hrb 4;have p5:=cH hrb 5;have p6:=cH hrb 6;have p7:=cH hrb 7;have p8:=cH hrb 8;have p9:=cH hrb 9;simp only[gA,gB,gC] at p0 p1 p2 p3 p4 p5 p6 p7 p8 p9;have fp:∀ j,wr.frozen? ⟨w1.heap.size,j,none⟩=false:=fun j=>fH hrb j;have k0:=cH hkw 0;have k1:=cH hkw 1;have k2:=cH hkw 2;have k3:=cH hkw 3;have k4:=cH hkw 4;have k5:=cH hkw 5;simp only[gA,gB,gC] at k0 k1 k2 k3 k4 k5;have f0:∀ j,wr.frozen? ⟨w.heap.size+1,j,none⟩=false:=fun j=>fH hkw j;clear h1 hrb hkw HST;go_wp2_with fail;exact bR (v:=Ao false 0 ⟨#[]⟩ x7 x8 n) (by simp[results,Tryz.results106,go_sem,Ao,k0,k1,k2,k3,k4,k5]) rfl ⟨((((((hBw).setCell (p:=⟨w.heap.size+1,0,none⟩) (by simp) _).setCell (p:=⟨w.heap.size+1,1,none⟩) (by simp) _).setCell (p:=⟨w.heap.size+1,2,none⟩) (by simp) _).setCell (p:=⟨w.heap.size+1,3,none⟩) (by simp) _).setCell (p:=⟨w.heap.size+1,4,none⟩) (by simp) _).setCell (p:=⟨w.heap.size+1,5,none⟩) (by simp) _,_,HF.o,rfl⟩
theorem Gi {w:World} {b:Nat} {v0 v1 v2:Value} {T:TypeId} (h:w.heap[b]?=some (.cells #[v0,v1,v2] T (0,0))):w.cell? ⟨b,0,none⟩=some v0/\w.cell? ⟨b,1,none⟩=some v1/\w.cell? ⟨b,2,none⟩=some v2/\∀ j,w.frozen? ⟨b,j,none⟩=false:=by
 refine⟨?_,?_,?_,fun j=>fH h j⟩<;>rw[cH h]<;>rfl
theorem Ag {w w':World} {b:Nat} {cs:Array Value} {T:TypeId} (hb:Below w.heap.size w w') (h:w.heap[b]?=some (.cells cs T (0,0))):w'.heap[b]?=some (.cells cs T (0,0)):=by
 rw[hb.block _ (Af h)];exact h
theorem Cz {w:World} {b:Nat} {u0 u1 u2:Value} {T:TypeId} (h:w.heap[b]?=some (.cells #[u0,u1,u2] T (0,0))) (v0 v1 v2:Value):(((w.setCell ⟨b,0,none⟩ v0).setCell ⟨b,1,none⟩ v1).setCell ⟨b,2,none⟩ v2).heap[b]?=some (.cells #[v0,v1,v2] T (0,0)):=by
 rw[jB (jB (jB h v0) v1) v2]
 rfl
theorem Bc {B:Nat} {w w':World} (hb:Below B w w') {b:Nat} (h:B<=b) (v0 v1 v2:Value):Below B w (((w'.setCell ⟨b,0,none⟩ v0).setCell ⟨b,1,none⟩ v1).setCell ⟨b,2,none⟩ v2):=
 ((hb.setCell (p:=⟨b,0,none⟩) h _).setCell (p:=⟨b,1,none⟩) h _).setCell (p:=⟨b,2,none⟩) h _
def Bl:List R3->List Value
 | []=>[]
 | y :: ys=>.bool y.has :: .int .i64 y.code :: .string y.text :: Bl ys
theorem Hv (ys:List R3) (y:R3):Bl (ys++[y])=Bl ys++[.bool y.has,.int .i64 y.code,.string y.text]:=by
 induction ys with
 | nil=>rfl
 | cons x xs ih=>simp only[List.cons_append,Bl,ih]
theorem Oi:∀(ys:List R3) (i:Nat),i<ys.length->(Bl ys)[i*3]?=some (.bool (rx ys i).has)/\(Bl ys)[i*3+1]?=some (.int .i64 (rx ys i).code)/\(Bl ys)[i*3+2]?=some (.string (rx ys i).text)
 | [],i,h=>by simp at h
 | y :: ys,0,h=>by simp[Bl,rx]
 | y :: ys,i+1,h=>by
  have:=Oi ys i (by simpa using h);rw[show (i+1)*3=i*3+1+1+1 from by omega];simpa [Bl,rx] using this
theorem rowR_of {w:World} {B cap:Nat} {a:Option Addr} {ys:List R3} (h:w.ownsRow B 122 3 (.slice a ys.length cap) ys.length (Bl ys)):Nx w a ys:=by
 intro i hi
 rcases h.2 with ⟨hv,h0⟩|⟨g,cap',cur,hv,_⟩
 ·omega
 ·simp only[Value.slice.injEq] at hv;obtain⟨rfl,_,_⟩:=hv;obtain⟨k1,k2,k3⟩:=Oi ys i hi;exact⟨g,0,rfl,by rw[Nat.zero_add,h.cellAt _ (by omega)];exact k1,by rw[Nat.zero_add,h.cellAt _ (by omega)];exact k2,by rw[Nat.zero_add,h.cellAt _ (by omega)];exact k3⟩
theorem Jn (w:World) (v0 v1 v2:Value) (ty:TypeId):∀ j u,[v0,v1,v2][j]?=some u->(w.alloc (.cells #[v0,v1,v2] ty)).cell? ((⟨w.heap.size,0,none⟩:Addr).add j)=some u:=by
 intro j u hu
 match j with
 | 0=>simp at hu;subst hu;simp[go_sem,Addr.add]
 | 1=>simp at hu;subst hu;simp[go_sem,Addr.add]
 | 2=>simp at hu;subst hu;simp[go_sem,Addr.add]
 | j+3=>simp at hu
def lenV:Value->Nat
 | .slice _ n _=>n
 | _=>0
theorem reps_of {ys:List R3} {gs:List G3} (h:∀ i,i<ys.length->Fg (rx ys i)=true) (hk:ys.length<=200):Lv ys=true:=by
 simp only[Lv,Bool.and_eq_true,decide_eq_true_eq]
 exact⟨hk,h⟩
theorem rx_any {ys:List R3} (h:∀ i,i<ys.length->Fg (rx ys i)=true):∀ i,(rx ys i).text.size<=9223372036854775807:=fun i=>by
 rcases Nat.lt_or_ge i ys.length with h1|h1
 ·have:=Rt h i h1;omega
 ·unfold rx;rw[gG,List.getElem?_eq_none h1];decide
def Ig:List G3->List Value
 | []=>[]
 | g :: gs=>.string g.name :: .bool g.ask :: .string g.sum :: Ig gs
theorem Ph (gs:List G3) (g:G3):Ig (gs++[g])=Ig gs++[.string g.name,.bool g.ask,.string g.sum]:=by
 induction gs with
 | nil=>rfl
 | cons x xs ih=>simp only[List.cons_append,Ig,ih]
theorem gC_get:∀(gs:List G3) (i:Nat),i<gs.length->(Ig gs)[i*3]?=some (.string (gx gs i).name)/\(Ig gs)[i*3+1]?=some (.bool (gx gs i).ask)/\(Ig gs)[i*3+2]?=some (.string (gx gs i).sum)
 | [],i,h=>by simp at h
 | y :: ys,0,h=>by simp[Ig,gx]
 | y :: ys,i+1,h=>by
  have:=gC_get ys i (by simpa using h);rw[show (i+1)*3=i*3+1+1+1 from by omega];simpa [Ig,gx] using this
theorem Co {w:World} {B B' e sz n:Nat} {v:Value} {xs:List Value} (h:w.ownsRow B e sz v n xs) (hB:B'<=B):w.ownsRow B' e sz v n xs:=by
 refine⟨h.1,?_⟩
 rcases h.2 with k|⟨g,cap,cur,e,hg,r⟩
 ·exact Or.inl k
 ·exact Or.inr ⟨g,cap,cur,e,by omega,r⟩
theorem Sb {w:World} {B B':Nat} {v:Value} {gs:List G3} (h:w.ownsRow B 45 3 v gs.length (Ig gs)) (hB:B'<=B):Ar w B' v gs:=⟨Ig gs,Co h hB,fun i hi=>gC_get gs i hi⟩
theorem own_ks {w w':World} {B h base e sz n:Nat} {v:Value} {xs:List Value} (ho:w.ownsRow base e sz v n xs) (k:KS B h w w') (h1:e≠9) (h2:e≠72) (hne:∀ b,v.ownBlock=some b->b≠h):w'.ownsRow base e sz v n xs:=by
 refine⟨ho.1,?_⟩
 rcases ho.2 with r|⟨g,cap,cur,rfl,hg,hh,r⟩
 ·exact Or.inl r
 ·exact Or.inr ⟨g,cap,cur,rfl,hg,k.keep g cur e h1 h2 (hne g (by simp[Value.ownBlock])) hh,r⟩
theorem own_ne {B h base e sz n:Nat} {sv tv:Value} {w:World} {ms:Ms} {st:List ByteArray} {mv kv v:Value} {vs:Nat->Value} {xs:List Value} (s:Bh B h sv tv w ms st mv kv vs) (ho:w.ownsRow base e sz v n xs) (he:e≠69):∀ b,v.ownBlock=some b->b≠h:=by
 intro b hb e'
 subst e'
 rcases ho.2 with ⟨rfl,_⟩|⟨g,cap,cur,rfl,hg,hh,_⟩
 ·simp[Value.ownBlock] at hb
 ·simp[Value.ownBlock] at hb;subst hb;rw[s.blk] at hh;injection hh with hh;injection hh with _ h5;exact he h5.symm
theorem Xq (c:Int) (t:ByteArray) (w:World) (h0:0<=c) (h5:c<=5) (ht:t.size<=2000):Calls Tryz.prog 14 #[.agg #[.int .i64 c,.string t,.slice none 0 0]] w fun e w'=>e=.returned (.string (Bn c t))/\Below w.heap.size w w':=by
 obtain⟨m,rfl⟩:=Int.eq_ofNat_of_zero_le h0
 exact Og m t none 0 w (by omega) ht
theorem Pu {x:Operand} {W:World} {ops:Array Oper} {o:Oper} {a:Act} {K:Act->World->Prop} {Q:Exit->Act->World->Prop} {E:Prop} (hgd:o.guard=none)
  (ho:o.op=.call { callee:=.value (.func 14),args:=#[x],argTypes:=#[32] }) (c:Int) (t f:ByteArray) (hf:Bn c t=f) (h0:0<=c) (h5:c<=5) (ht:t.size<=2000) (hx:a.eval x=.agg #[.int .i64 c,.string t,.slice none 0 0]) (h:∀ w',Below W.heap.size W w'->K (a.put o.dst (.string f)) w') :
  if Region.wanted o (yielded ops a.tmps)=true then Oper.wp Tryz.prog o a W K Q else E:=by
 have hw:Region.wanted o (yielded ops a.tmps)=true:=by simp[Region.wanted,hgd]
 have hrun:(execOp a.eval o).run Tryz.prog W=.ok (.enter 14 #[.agg #[.int .i64 c,.string t,.slice none 0 0]]) W:=by
  unfold execOp;rw[ho];simp[go_sem]
  cases x with
  | tmp t=>simpa [Act.eval] using hx
  | const v=>simpa [Act.eval] using hx
  | «global» g=>simp[Act.eval] at hx
  | func f=>simp[Act.eval] at hx
 rw[if_pos hw]
 unfold Oper.wp
 rw[hrun,Oper.upon_enter]
 refine(Xq c t W h0 h5 ht).mono ?_
 rintro e w' ⟨rfl,hb⟩
 rw[hf]
 exact h w' hb
def Ff (h:Nat) (sv tv:Value) (w:World) (a:Um) (v:Value):Prop:=
 ∃ mv kv c t chv,w.heap[h]?=some (.cells #[sv,tv,mv,kv,.int .i64 c,.string t,chv,.bool true] 69 (0,0))/\v=.agg #[.int .i64 c,.string t,chv]/\(match a with|.circle ch=>c=6/\t=⟨#[]⟩/\∃ base,w.ownsRow base 9 1 chv ch.length (Bf ch)|.deep nm=>c=7/\t=nm/\chv=.slice none 0 0|.ok _=>False)
theorem Ff.o {h:Nat} {sv tv:Value} {w:World} {a:Um} {v:Value} (d:Ff h sv tv w a v):∃ mv kv c t ca cn cc,w.heap[h]?=some (.cells #[sv,tv,mv,kv,.int .i64 c,.string t,.slice ca cn cc,.bool true] 69 (0,0))/\v=.agg #[.int .i64 c,.string t,.slice ca cn cc]:=by
 obtain⟨mv,kv,c,t,chv,h1,h2,k⟩:=d
 have hs:∃ ca cn cc,chv=.slice ca cn cc:=by
  cases a with
  | ok d=>exact absurd k id
  | circle ch=>
   obtain⟨_,_,base,ho⟩:=k
   rcases ho.2 with ⟨e,_⟩|⟨g,cap,cur,e,_⟩
   ·exact⟨_,_,_,e⟩
   ·exact⟨_,_,_,e⟩
  | deep nm=>exact⟨_,_,_,k.2.2⟩
 obtain⟨ca,cn,cc,rfl⟩:=hs
 exact⟨mv,kv,c,t,ca,cn,cc,h1,h2⟩
theorem Ff.stop {h:Nat} {sv tv:Value} {w:World} {a:Um} {v:Value} (d:Ff h sv tv w a v):a.stop:=by
 obtain⟨_,_,_,_,_,_,_,k⟩:=d
 cases a
 ·exact k
 ·trivial
 ·trivial
theorem Ff.bl {h:Nat} {sv tv:Value} {w w':World} {a:Um} {v:Value} (d:Ff h sv tv w a v) (hb:Below w.heap.size w w'):Ff h sv tv w' a v:=by
 obtain⟨mv,kv,c,t,chv,k1,k2,k3⟩:=d
 refine⟨mv,kv,c,t,chv,by rw[hb.block h (Af k1)];exact k1,k2,?_⟩
 cases a with
 | ok d=>exact k3
 | circle ch=>obtain⟨e1,e2,base,e3⟩:=k3;exact⟨e1,e2,base,Ac e3 hb⟩
 | deep nm=>exact k3
def Fr (w:World) (ms:Ms) (vs:Nat->Value) (ms':Ms) (vs':Nat->Value):Prop:=∀ i d b,i<ms'.length->(mx ms' i).2=some d->(vs' i).ownBlock=some b->(∃ d',i<ms.length/\(mx ms i).2=some d'/\(vs i).ownBlock=some b)\/w.heap.size<=b
theorem Fr.refl (w:World) (ms:Ms) (vs:Nat->Value):Fr w ms vs ms vs:=fun i d b h1 h2 h3=>Or.inl ⟨d,h1,h2,h3⟩
theorem Fr.trans {w w1:World} {ms m1 m2:Ms} {vs v1 v2:Nat->Value} (h:Fr w ms vs m1 v1) (hs:w.heap.size<=w1.heap.size) (k:Fr w1 m1 v1 m2 v2):Fr w ms vs m2 v2:=fun i d b h1 h2 h3=>by
 rcases k i d b h1 h2 h3 with ⟨d',q1,q2,q3⟩|q
 ·exact h i d' b q1 q2 q3
 ·exact Or.inr (by omega)
def Tj (B h:Nat) (sv tv:Value) (ss:List S2) (ts:List T2) (ms:Ms) (st:List ByteArray) (vs:Nat->Value) (nm:ByteArray) (w:World) (e:Ending) (w':World):Prop:=
 KS B h w w'/\∃ ms' a,Av ss ts ms st (.make nm) ms' a/\((∃ d mv kv vs',a=.ok d/\e=.returned (.agg #[.int .i64 d.c,.string d.t,.slice none 0 0])/\Bh B h sv tv w' ms' st mv kv vs'/\Fr w ms vs ms' vs')\/(∃ v,e=.returned v/\Ff h sv tv w' a v))
def RunP (B h:Nat) (sv tv:Value) (ss:List S2) (ts:List T2) (ms:Ms) (st:List ByteArray) (vs:Nat->Value) (is:List I3) (w:World) (e:Ending) (w':World):Prop:=
 KS B h w w'/\∃ ms' a,Av ss ts ms st (.run is [] []) ms' a/\((∃ d lv mv kv vs',a=.ok d/\e=.returned (.tuple #[.agg #[.int .i64 d.c,.string d.t,.slice none 0 0],lv])/\(Ar w' B lv d.ls/\∀ b,lv.ownBlock=some b->w.heap.size<=b/\∀ i d,i<ms'.length->(mx ms' i).2=some d->(vs' i).ownBlock≠some b)/\Bh B h sv tv w' ms' st mv kv vs'/\Fr w ms vs ms' vs')\/(∃ v lv,e=.returned (.tuple #[v,lv])/\Ff h sv tv w' a v))
theorem Hn {w w':World} {base base' e e' sz sz' n n':Nat} {v v':Value} {xs xs':List Value} (ho:w.ownsRow base e sz v n xs) (ho':w.ownsRow base' e' sz' v' n' xs') (hne:e≠e') (hg:w.grownBy w' v'.ownBlock):w'.ownsRow base e sz v n xs:=by
 refine⟨ho.1,?_⟩
 rcases ho.2 with r|⟨g,cap,cur,rfl,hb,hh,r⟩
 ·exact Or.inl r
 ·refine Or.inr ⟨g,cap,cur,rfl,hb,?_,r⟩;rw[hg.block g (Af hh) ?_]
  ·exact hh
  ·intro e1
   rcases ho'.2 with ⟨rfl,_⟩|⟨g',cap',cur',rfl,hb',hh',_⟩
   ·simp[Value.ownBlock] at e1
   ·simp[Value.ownBlock] at e1;subst e1;rw[hh] at hh';injection hh' with hh';injection hh' with _ h5;exact hne h5
theorem Bh.grown {B h base e sz n:Nat} {sv tv:Value} {w w':World} {ms:Ms} {st:List ByteArray} {mv kv v:Value} {vs:Nat->Value} {xs:List Value} (s:Bh B h sv tv w ms st mv kv vs) (ho:w.ownsRow base e sz v n xs) (hg:w.grownBy w' v.ownBlock) (h1:e≠69) (h2:e≠72) (h3:e≠9)
  (hl:∀ i d,i<ms.length->(mx ms i).2=some d->∀ b,v.ownBlock=some b->(vs i).ownBlock≠some b):Bh B h sv tv w' ms st mv kv vs:=by
 refine⟨s.hB,?_,Hn s.row ho (fun e1=>h2 e1.symm) hg,Hn s.stk ho (fun e1=>h3 e1.symm) hg,fun i d hi hd=>?_⟩
 ·rw[hg.block h (Af s.blk) ?_]
  ·exact s.blk
  ·intro e1;exact own_ne s ho h1 h e1.symm rfl
 ·obtain⟨ys,k1,k2⟩:=s.lks i d hi hd;refine⟨ys,⟨k1.1,?_⟩,k2⟩
  rcases k1.2 with r|⟨g,cap,cur,e1,hb,hh,r⟩
  ·exact Or.inl r
  ·refine Or.inr ⟨g,cap,cur,e1,hb,?_,r⟩;rw[hg.block g (Af hh) ?_]
   ·exact hh
   ·intro e2;exact hl i d hi hd g e2.symm (by rw[e1];simp[Value.ownBlock])
theorem lks_ne {B h base e sz n:Nat} {sv tv:Value} {w:World} {ms:Ms} {st:List ByteArray} {mv kv v:Value} {vs:Nat->Value} {xs:List Value} (s:Bh B h sv tv w ms st mv kv vs) (ho:w.ownsRow base e sz v n xs) (h1:e≠45):∀ i d,i<ms.length->(mx ms i).2=some d->∀ b,v.ownBlock=some b->(vs i).ownBlock≠some b:=by
 intro i d hi hd b hb e1
 obtain⟨ys,k1,_⟩:=s.lks i d hi hd
 rcases ho.2 with ⟨rfl,_⟩|⟨g,cap,cur,rfl,_,hh,_⟩
 ·simp[Value.ownBlock] at hb
 ·simp[Value.ownBlock] at hb;subst hb
  rcases k1.2 with ⟨e2,_⟩|⟨g',cap',cur',e2,_,hh',_⟩
  ·rw[e2] at e1;simp[Value.ownBlock] at e1
  ·rw[e2] at e1;simp[Value.ownBlock] at e1;subst e1;rw[hh] at hh';injection hh' with hh';injection hh' with _ h5;exact h1 h5
end Go.Proofs.YtjlnkepkkdefdaaGreatDoor
