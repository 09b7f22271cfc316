import Derived.Test.YtjlnkepkkdefdaaGreatDoorTNPlainS
namespace Go.Proofs.YtjlnkepkkdefdaaGreatDoor
open Go.RowKit
set_option linter.unusedVariables false
set_option maxHeartbeats 8000000
set_option maxRecDepth 100000
set_option linter.unusedSimpArgs false
section
def Pn (B:Nat) (w:World) (a:Option Addr) (cp:Nat) (ss:List ByteArray):Prop:=w.ownsRow B 9 1 (.slice a ss.length cp) ss.length (Bf ss)
variable (B:Nat) (o:Nat) (t:ByteArray) (n:Nat) (pl:Nat) (sa:Option Addr) (cp:Nat) (stack:List ByteArray) (st lk:Nat) (nm place:ByteArray) (ra:Option Addr) (rcap:Nat) (ys:List R3) (w:World)
theorem blk3 (o1 o2 o3:Obj):(((w.alloc o1).alloc o2).alloc o3).heap[w.heap.size+1+1]?=some o3/\(((w.alloc o1).alloc o2).alloc o3).heap[w.heap.size+1]?=some o2/\(((w.alloc o1).alloc o2).alloc o3).heap[w.heap.size]?=some o1:=by
 refine⟨?_,?_,?_⟩
 ·have h:=Aj ((w.alloc o1).alloc o2) o3;rw[show ((w.alloc o1).alloc o2).heap.size=w.heap.size+1+1 from by simp] at h;exact h
 ·rw[Lib.alloc_old _ _ _ (by simp)];have h:=Aj (w.alloc o1) o2;rw[show (w.alloc o1).heap.size=w.heap.size+1 from by simp] at h;exact h
 ·rw[Lib.alloc_old _ _ _ (by simp;omega),Lib.alloc_old _ _ _ (by simp)];exact Aj w o1
theorem op3 (w:World) (a:Option Addr) (n cap:Nat) (p:Int) (v:Value) (st lo:Int):Below w.heap.size w (((w.alloc (.cells #[.slice a n cap] 37)).alloc (.cells #[.int .i64 p,v,.int .i64 st,.int .i64 lo,.bool false,.int .i64 0,.string ⟨#[]⟩,.bool false,.string ⟨#[]⟩,.bool false] 193)).alloc (.cells #[.int .i64 0,.slice none 0 0,.int .i64 0,.int .i64 0,.bool false,.int .i64 0,.string ⟨#[]⟩,.bool false,.string ⟨#[]⟩,.bool false] 193))/\(((w.alloc (.cells #[.slice a n cap] 37)).alloc (.cells #[.int .i64 p,v,.int .i64 st,.int .i64 lo,.bool false,.int .i64 0,.string ⟨#[]⟩,.bool false,.string ⟨#[]⟩,.bool false] 193)).alloc (.cells #[.int .i64 0,.slice none 0 0,.int .i64 0,.int .i64 0,.bool false,.int .i64 0,.string ⟨#[]⟩,.bool false,.string ⟨#[]⟩,.bool false] 193)).heap[w.heap.size+1+1]?=some (.cells #[.int .i64 0,.slice none 0 0,.int .i64 0,.int .i64 0,.bool false,.int .i64 0,.string ⟨#[]⟩,.bool false,.string ⟨#[]⟩,.bool false] 193)/\(((w.alloc (.cells #[.slice a n cap] 37)).alloc (.cells #[.int .i64 p,v,.int .i64 st,.int .i64 lo,.bool false,.int .i64 0,.string ⟨#[]⟩,.bool false,.string ⟨#[]⟩,.bool false] 193)).alloc (.cells #[.int .i64 0,.slice none 0 0,.int .i64 0,.int .i64 0,.bool false,.int .i64 0,.string ⟨#[]⟩,.bool false,.string ⟨#[]⟩,.bool false] 193)).heap[w.heap.size+1]?=some (.cells #[.int .i64 p,v,.int .i64 st,.int .i64 lo,.bool false,.int .i64 0,.string ⟨#[]⟩,.bool false,.string ⟨#[]⟩,.bool false] 193)/\(((w.alloc (.cells #[.slice a n cap] 37)).alloc (.cells #[.int .i64 p,v,.int .i64 st,.int .i64 lo,.bool false,.int .i64 0,.string ⟨#[]⟩,.bool false,.string ⟨#[]⟩,.bool false] 193)).alloc (.cells #[.int .i64 0,.slice none 0 0,.int .i64 0,.int .i64 0,.bool false,.int .i64 0,.string ⟨#[]⟩,.bool false,.string ⟨#[]⟩,.bool false] 193)).heap[w.heap.size]?=some (.cells #[.slice a n cap] 37):=⟨((aN _ _).alloc (by simp) _).alloc (by simp;omega) _,blk3 w _ _ _⟩
theorem dcH {p:Nat} {q:ByteArray} (eq:Dx p=q) (h:p<=1000000):∀ W:World,Calls Tryz.prog 33 #[.int .i64 p] W fun e w'=>e=.returned (.string q)/\Below W.heap.size W w':=fun W=>by rw[<- eq];exact Gr p W h
theorem look_no (hB:B<=w.heap.size) (hnm:nm.size<=2000) (hpl:pl<=201) (hst:st<=2000) (hlk:lk<=200) (hn:¬ Aq nm) :
  Calls Tryz.prog 144 #[.agg #[.int .i64 o,.string t,.int .i64 n],Ds pl (.slice sa stack.length cp) st lk,.string nm,.string place,.slice ra ys.length rcap] w fun e w'=>Below B w w'/\e=.returned (Ct pl (.slice sa stack.length cp) st lk 2 place):=by
 have hnb:=Cq hn
 have hb0:Below w.heap.size w (((w.alloc (.cells #[.int .i64 o,.string t,.int .i64 n] 106)).alloc (.cells #[.int .i64 pl,.slice sa stack.length cp,.int .i64 st,.int .i64 lk,.bool false,.int .i64 0,.string ⟨#[]⟩,.bool false,.string ⟨#[]⟩,.bool false] 193)).alloc (.cells #[.int .i64 0,.slice none 0 0,.int .i64 0,.int .i64 0,.bool false,.int .i64 0,.string ⟨#[]⟩,.bool false,.string ⟨#[]⟩,.bool false] 193)):=((aN _ _).alloc (by simp) _).alloc (by simp;omega) _
 have hR2:B<=w.heap.size+1+1:=by omega
 have hz:=(blk3 w (.cells #[.int .i64 o,.string t,.int .i64 n] 106) (.cells #[.int .i64 pl,.slice sa stack.length cp,.int .i64 st,.int .i64 lk,.bool false,.int .i64 0,.string ⟨#[]⟩,.bool false,.string ⟨#[]⟩,.bool false] 193) (.cells #[.int .i64 0,.slice none 0 0,.int .i64 0,.int .i64 0,.bool false,.int .i64 0,.string ⟨#[]⟩,.bool false,.string ⟨#[]⟩,.bool false] 193)).1
 unfold Ds
 go_enter Tryz.func144,Tryz.ntmps144
 go_wp2_with (first|(go_at_call 19;refine(Db nm _ (by omega)).mono ?_;rintro e w9 ⟨rfl,rfl⟩))
 have hl:=Ew pl sa stack.length cp st lk 2 place
 unfold Ds at hl
 refine(hl _).mono ?_
 rintro e w1 ⟨rfl,hb1⟩
 have hB1:Below B w w1:=(bN hb0 hb1).mono hB
 have hz1:w1.heap[w.heap.size+1+1]?=some (.cells #[.int .i64 0,.slice none 0 0,.int .i64 0,.int .i64 0,.bool false,.int .i64 0,.string ⟨#[]⟩,.bool false,.string ⟨#[]⟩,.bool false] 193 (0,0)):=by rw[hb1.block _ (by simp)];exact hz
 have k0:=cH hz1 0
 have k1:=cH hz1 1
 have k2:=cH hz1 2
 have k3:=cH hz1 3
 have k4:=cH hz1 4
 have k5:=cH hz1 5
 have k6:=cH hz1 6
 have k7:=cH hz1 7
 have k8:=cH hz1 8
 have k9:=cH hz1 9
 simp only[gA,gB,gC] at k0 k1 k2 k3 k4 k5 k6 k7 k8 k9
 have f0:∀ j,w1.frozen? ⟨w.heap.size+1+1,j,none⟩=false:=fun j=>fH hz1 j
 clear hz hz1 hb0 hb1 hl
 unfold Ct
 go_wp2_with fail
 exact bR (v:=Ct pl (.slice sa stack.length cp) st lk 2 place) (by simp[results,Tryz.results144,go_sem,Ct,k0,k1,k2,k3,k4,k5,k6,k7,k8,k9]) rfl ⟨b10 (hB1) hR2,rfl⟩
theorem look_sp (hB:B<=w.heap.size) (hnm:nm.size<=2000) (hpl:pl<=201) (hst:st<=2000) (hlk:lk<=200) (hn:Aq nm) (hl:lk=200) :
  Calls Tryz.prog 144 #[.agg #[.int .i64 o,.string t,.int .i64 n],Ds pl (.slice sa stack.length cp) st lk,.string nm,.string place,.slice ra ys.length rcap] w fun e w'=>Below B w w'/\e=.returned (Ct pl (.slice sa stack.length cp) st lk 3 ⟨#[]⟩):=by
 have hnb:=Dn hn
 have d1:((lk:Int) == 200)=true:=by simp;omega
 clear hl
 have hb0:Below w.heap.size w (((w.alloc (.cells #[.int .i64 o,.string t,.int .i64 n] 106)).alloc (.cells #[.int .i64 pl,.slice sa stack.length cp,.int .i64 st,.int .i64 lk,.bool false,.int .i64 0,.string ⟨#[]⟩,.bool false,.string ⟨#[]⟩,.bool false] 193)).alloc (.cells #[.int .i64 0,.slice none 0 0,.int .i64 0,.int .i64 0,.bool false,.int .i64 0,.string ⟨#[]⟩,.bool false,.string ⟨#[]⟩,.bool false] 193)):=((aN _ _).alloc (by simp) _).alloc (by simp;omega) _
 have hR2:B<=w.heap.size+1+1:=by omega
 have hz:=(blk3 w (.cells #[.int .i64 o,.string t,.int .i64 n] 106) (.cells #[.int .i64 pl,.slice sa stack.length cp,.int .i64 st,.int .i64 lk,.bool false,.int .i64 0,.string ⟨#[]⟩,.bool false,.string ⟨#[]⟩,.bool false] 193) (.cells #[.int .i64 0,.slice none 0 0,.int .i64 0,.int .i64 0,.bool false,.int .i64 0,.string ⟨#[]⟩,.bool false,.string ⟨#[]⟩,.bool false] 193)).1
 unfold Ds
 go_enter Tryz.func144,Tryz.ntmps144
 go_wp2_with (first|(go_at_call 19;refine(Db nm _ (by omega)).mono ?_;rintro e w9 ⟨rfl,rfl⟩))
 have hl:=Ew pl sa stack.length cp st lk 3 ⟨#[]⟩
 unfold Ds at hl
 refine(hl _).mono ?_
 rintro e w1 ⟨rfl,hb1⟩
 have hB1:Below B w w1:=(bN hb0 hb1).mono hB
 have hz1:w1.heap[w.heap.size+1+1]?=some (.cells #[.int .i64 0,.slice none 0 0,.int .i64 0,.int .i64 0,.bool false,.int .i64 0,.string ⟨#[]⟩,.bool false,.string ⟨#[]⟩,.bool false] 193 (0,0)):=by rw[hb1.block _ (by simp)];exact hz
 have k0:=cH hz1 0
 have k1:=cH hz1 1
 have k2:=cH hz1 2
 have k3:=cH hz1 3
 have k4:=cH hz1 4
 have k5:=cH hz1 5
 have k6:=cH hz1 6
 have k7:=cH hz1 7
 have k8:=cH hz1 8
 have k9:=cH hz1 9
 simp only[gA,gB,gC] at k0 k1 k2 k3 k4 k5 k6 k7 k8 k9
 have f0:∀ j,w1.frozen? ⟨w.heap.size+1+1,j,none⟩=false:=fun j=>fH hz1 j
 clear hz hz1 hb0 hb1 hl
 unfold Ct
 go_wp2_with fail
 exact bR (v:=Ct pl (.slice sa stack.length cp) st lk 3 ⟨#[]⟩) (by simp[results,Tryz.results144,go_sem,Ct,k0,k1,k2,k3,k4,k5,k6,k7,k8,k9]) rfl ⟨b10 (hB1) hR2,rfl⟩
theorem look_wt (hB:B<=w.heap.size) (hnm:nm.size<=2000) (hpl:pl<=201) (hst:st<=2000) (hlk:lk<=200) (hn:Aq nm) (hl:lk≠200) (hy:ys.length<=lk) :
  Calls Tryz.prog 144 #[.agg #[.int .i64 o,.string t,.int .i64 n],Ds pl (.slice sa stack.length cp) st lk,.string nm,.string place,.slice ra ys.length rcap] w fun e w'=>Below B w w'/\e=.returned (waitV pl (.slice sa stack.length cp) st lk ((o:Int) == 12) nm):=by
 have hnb:=Dn hn
 have d1:((lk:Int) == 200)=false:=by simp;omega
 have hyI:(ys.length:Int)<=(lk:Int):=by omega
 unfold Ds
 go_enter Tryz.func144,Tryz.ntmps144
 go_wp2_with (first|(go_at_call 19;refine(Db nm _ (by omega)).mono ?_;rintro e w9 ⟨rfl,rfl⟩))
 exact bR (v:=waitV pl (.slice sa stack.length cp) st lk ((o:Int) == 12) nm) (by simp[results,Tryz.results144,go_sem,waitV]) rfl ⟨(((aN _ _).alloc (by simp) _).alloc (by simp;omega) _).mono hB,rfl⟩
theorem blk4 (o1 o2 o3 o4:Obj):((((w.alloc o1).alloc o2).alloc o3).alloc o4).heap[w.heap.size+1+1]?=some o3/\((((w.alloc o1).alloc o2).alloc o3).alloc o4).heap[w.heap.size+1]?=some o2:=by
 obtain⟨h1,h2,h3⟩:=blk3 w o1 o2 o3
 exact⟨by rw[Lib.alloc_old _ _ _ (by simp)];exact h1,by rw[Lib.alloc_old _ _ _ (by simp)];exact h2⟩
theorem look_miss (hB:B<=w.heap.size) (hnm:nm.size<=2000) (hpl:pl<=201) (hst:st<=2000) (hlk:lk<=200) (hn:Aq nm) (hl:lk≠200) (hy:lk<ys.length) (hyl:ys.length<=200) (hr:Nx w ra ys) (hh:(rx ys lk).has=false) :
  Calls Tryz.prog 144 #[.agg #[.int .i64 12,.string t,.int .i64 n],Ds pl (.slice sa stack.length cp) st lk,.string nm,.string place,.slice ra ys.length rcap] w fun e w'=>Below B w w'/\e=.returned (Ct pl (.slice sa stack.length cp) st ((lk:Int)+1) 4 nm):=by
 have hnb:=Dn hn
 have d1:((lk:Int) == 200)=false:=by simp;omega
 have hyI:(lk:Int)<(ys.length:Int):=by omega
 obtain⟨b,off,rfl,e1,e2,e3⟩:=hr lk hy
 rw[hh] at e1
 generalize rx ys lk=y at *
 clear hr hn hl
 clear hh
 have hal:∀(x y z:Obj) (p:Addr) (v:Value),w.cell? p=some v->(((w.alloc x).alloc y).alloc z).cell? p=some v:=fun x y z p v h=>by
  have hb:=World.block_lt_of_cell? _ _ h;rw[World.cell?_alloc_lt _ _ _ (by simp;omega),World.cell?_alloc_lt _ _ _ (by simp;omega),World.cell?_alloc_lt _ _ _ hb];exact h
 have a1:=fun x y z=>hal x y z _ _ e1
 have a2:=fun x y z=>hal x y z _ _ e2
 have a3:=fun x y z=>hal x y z _ _ e3
 clear hal
 have hb0:Below w.heap.size w ((((w.alloc (.cells #[.int .i64 12,.string t,.int .i64 n] 106)).alloc (.cells #[.int .i64 pl,.slice sa stack.length cp,.int .i64 st,.int .i64 ((lk:Int)+1),.bool false,.int .i64 0,.string ⟨#[]⟩,.bool false,.string ⟨#[]⟩,.bool false] 193)).alloc (.cells #[.int .i64 0,.slice none 0 0,.int .i64 0,.int .i64 0,.bool false,.int .i64 0,.string ⟨#[]⟩,.bool false,.string ⟨#[]⟩,.bool false] 193)).alloc (.cells #[.bool false,.int .i64 y.code,.string y.text] 122)):=(((aN _ _).alloc (by simp) _).alloc (by simp;omega) _).alloc (by simp;omega) _
 have hR2:B<=w.heap.size+1+1:=by omega
 have hz:=(blk4 w (.cells #[.int .i64 12,.string t,.int .i64 n] 106) (.cells #[.int .i64 pl,.slice sa stack.length cp,.int .i64 st,.int .i64 ((lk:Int)+1),.bool false,.int .i64 0,.string ⟨#[]⟩,.bool false,.string ⟨#[]⟩,.bool false] 193) (.cells #[.int .i64 0,.slice none 0 0,.int .i64 0,.int .i64 0,.bool false,.int .i64 0,.string ⟨#[]⟩,.bool false,.string ⟨#[]⟩,.bool false] 193) (.cells #[.bool false,.int .i64 y.code,.string y.text] 122)).1
 unfold Ds
 go_enter Tryz.func144,Tryz.ntmps144
 go_wp2_with (first|(go_at_call 19;refine(Db nm _ (by omega)).mono ?_;rintro e w9 ⟨rfl,rfl⟩))
 have hl:=Ew pl sa stack.length cp st ((lk:Int)+1) 4 nm
 unfold Ds at hl
 refine(hl _).mono ?_
 rintro e w1 ⟨rfl,hb1⟩
 have hB1:Below B w w1:=(bN hb0 hb1).mono hB
 have hz1:w1.heap[w.heap.size+1+1]?=some (.cells #[.int .i64 0,.slice none 0 0,.int .i64 0,.int .i64 0,.bool false,.int .i64 0,.string ⟨#[]⟩,.bool false,.string ⟨#[]⟩,.bool false] 193 (0,0)):=by rw[hb1.block _ (by simp)];exact hz
 have k0:=cH hz1 0
 have k1:=cH hz1 1
 have k2:=cH hz1 2
 have k3:=cH hz1 3
 have k4:=cH hz1 4
 have k5:=cH hz1 5
 have k6:=cH hz1 6
 have k7:=cH hz1 7
 have k8:=cH hz1 8
 have k9:=cH hz1 9
 simp only[gA,gB,gC] at k0 k1 k2 k3 k4 k5 k6 k7 k8 k9
 have f0:∀ j,w1.frozen? ⟨w.heap.size+1+1,j,none⟩=false:=fun j=>fH hz1 j
 clear hz hz1 hb0 hb1 hl a1 a2 a3
 unfold Ct
 go_wp2_with fail
 exact bR (v:=Ct pl (.slice sa stack.length cp) st ((lk:Int)+1) 4 nm) (by simp[results,Tryz.results144,go_sem,Ct,k0,k1,k2,k3,k4,k5,k6,k7,k8,k9]) rfl ⟨b10 (hB1) hR2,rfl⟩
theorem look_below (hB:B<=w.heap.size) (hnm:nm.size<=2000) (hpl:pl<=201) (hst:st<=2000) (hlk:lk<=200) (hn:Aq nm) (hl:lk≠200) (hy:lk<ys.length) (hyl:ys.length<=200) (hr:Nx w ra ys) (hh:(rx ys lk).has=true) (hcd:(rx ys lk).code≠0) :
  Calls Tryz.prog 144 #[.agg #[.int .i64 12,.string t,.int .i64 n],Ds pl (.slice sa stack.length cp) st lk,.string nm,.string place,.slice ra ys.length rcap] w fun e w'=>Below B w w'/\e=.returned (Ct pl (.slice sa stack.length cp) st ((lk:Int)+1) 5 nm):=by
 have hnb:=Dn hn
 have d1:((lk:Int) == 200)=false:=by simp;omega
 have hyI:(lk:Int)<(ys.length:Int):=by omega
 obtain⟨b,off,rfl,e1,e2,e3⟩:=hr lk hy
 rw[hh] at e1
 have hcb:((rx ys lk).code == 0)=false:=by simpa using hcd
 generalize rx ys lk=y at *
 clear hr hn hl
 clear hh
 have hal:∀(x y z:Obj) (p:Addr) (v:Value),w.cell? p=some v->(((w.alloc x).alloc y).alloc z).cell? p=some v:=fun x y z p v h=>by
  have hb:=World.block_lt_of_cell? _ _ h;rw[World.cell?_alloc_lt _ _ _ (by simp;omega),World.cell?_alloc_lt _ _ _ (by simp;omega),World.cell?_alloc_lt _ _ _ hb];exact h
 have a1:=fun x y z=>hal x y z _ _ e1
 have a2:=fun x y z=>hal x y z _ _ e2
 have a3:=fun x y z=>hal x y z _ _ e3
 clear hal
 have hb0:Below w.heap.size w ((((w.alloc (.cells #[.int .i64 12,.string t,.int .i64 n] 106)).alloc (.cells #[.int .i64 pl,.slice sa stack.length cp,.int .i64 st,.int .i64 ((lk:Int)+1),.bool false,.int .i64 0,.string ⟨#[]⟩,.bool false,.string ⟨#[]⟩,.bool false] 193)).alloc (.cells #[.int .i64 0,.slice none 0 0,.int .i64 0,.int .i64 0,.bool false,.int .i64 0,.string ⟨#[]⟩,.bool false,.string ⟨#[]⟩,.bool false] 193)).alloc (.cells #[.bool true,.int .i64 y.code,.string y.text] 122)):=(((aN _ _).alloc (by simp) _).alloc (by simp;omega) _).alloc (by simp;omega) _
 have hR2:B<=w.heap.size+1+1:=by omega
 have hz:=(blk4 w (.cells #[.int .i64 12,.string t,.int .i64 n] 106) (.cells #[.int .i64 pl,.slice sa stack.length cp,.int .i64 st,.int .i64 ((lk:Int)+1),.bool false,.int .i64 0,.string ⟨#[]⟩,.bool false,.string ⟨#[]⟩,.bool false] 193) (.cells #[.int .i64 0,.slice none 0 0,.int .i64 0,.int .i64 0,.bool false,.int .i64 0,.string ⟨#[]⟩,.bool false,.string ⟨#[]⟩,.bool false] 193) (.cells #[.bool true,.int .i64 y.code,.string y.text] 122)).1
 unfold Ds
 go_enter Tryz.func144,Tryz.ntmps144
 go_wp2_with (first|(go_at_call 19;refine(Db nm _ (by omega)).mono ?_;rintro e w9 ⟨rfl,rfl⟩))
 have hl:=Ew pl sa stack.length cp st ((lk:Int)+1) 5 nm
 unfold Ds at hl
 refine(hl _).mono ?_
 rintro e w1 ⟨rfl,hb1⟩
 have hB1:Below B w w1:=(bN hb0 hb1).mono hB
 have hz1:w1.heap[w.heap.size+1+1]?=some (.cells #[.int .i64 0,.slice none 0 0,.int .i64 0,.int .i64 0,.bool false,.int .i64 0,.string ⟨#[]⟩,.bool false,.string ⟨#[]⟩,.bool false] 193 (0,0)):=by rw[hb1.block _ (by simp)];exact hz
 have k0:=cH hz1 0
 have k1:=cH hz1 1
 have k2:=cH hz1 2
 have k3:=cH hz1 3
 have k4:=cH hz1 4
 have k5:=cH hz1 5
 have k6:=cH hz1 6
 have k7:=cH hz1 7
 have k8:=cH hz1 8
 have k9:=cH hz1 9
 simp only[gA,gB,gC] at k0 k1 k2 k3 k4 k5 k6 k7 k8 k9
 have f0:∀ j,w1.frozen? ⟨w.heap.size+1+1,j,none⟩=false:=fun j=>fH hz1 j
 clear hz hz1 hb0 hb1 hl a1 a2 a3
 unfold Ct
 go_wp2_with fail
 exact bR (v:=Ct pl (.slice sa stack.length cp) st ((lk:Int)+1) 5 nm) (by simp[results,Tryz.results144,go_sem,Ct,k0,k1,k2,k3,k4,k5,k6,k7,k8,k9]) rfl ⟨b10 (hB1) hR2,rfl⟩
theorem Eg {B:Nat} {w:World} {v:Value} {n:Nat} {xs:List Value} {b:Nat} (h:w.ownsRow B 9 1 v n xs/\∃ cs,w.heap[b]?=some (.cells cs 193 (0,0))) (j:Nat) (x:Value) :
  (w.setCell ⟨b,j,none⟩ x).ownsRow B 9 1 v n xs/\∃ cs,(w.setCell ⟨b,j,none⟩ x).heap[b]?=some (.cells cs 193 (0,0)):=by
 obtain⟨ho,cs,hb⟩:=h
 refine⟨⟨ho.1,?_⟩,_,jB hb x⟩
 have hne:=Hh (by decide) hb ho
 rcases ho.2 with h0|⟨g,cap,cur,hv,hg,hh,r⟩
 ·exact Or.inl h0
 ·refine Or.inr ⟨g,cap,cur,hv,hg,?_,r⟩;rw[hC w ⟨b,j,none⟩ _ g (by rintro e;apply hne;rw[hv];simp[Value.ownBlock,e])];exact hh
theorem look_text (hB:B<=w.heap.size) (hnm:nm.size<=2000) (hpl:pl<=201) (hst:st<=2000) (hlk:lk<=200) (hn:Aq nm) (hl:lk≠200) (hy:lk<ys.length) (hyl:ys.length<=200) (hr:Nx w ra ys) (hh:(rx ys lk).has=true) (hcd:(rx ys lk).code=0) (hown:Pn B w sa cp stack) (h50:stack.length<50) :
  Calls Tryz.prog 144 #[.agg #[.int .i64 12,.string t,.int .i64 n],Ds pl (.slice sa stack.length cp) st lk,.string nm,.string place,.slice ra ys.length rcap] w fun e w'=>Below B w w'/\∃ a' cp',e=.returned (Ds pl (.slice a' (stack.length+1) cp') st ((lk:Int)+1))/\Pn B w' a' cp' (stack++[(rx ys lk).text]):=by
 have hnb:=Dn hn
 have d1:((lk:Int) == 200)=false:=by simp;omega
 have hyI:(lk:Int)<(ys.length:Int):=by omega
 obtain⟨b,off,rfl,e1,e2,e3⟩:=hr lk hy
 rw[hh] at e1
 rw[hcd] at e2
 generalize rx ys lk=y at *
 clear hr hn hl
 clear hh
 have hal:∀(x y z:Obj) (p:Addr) (v:Value),w.cell? p=some v->(((w.alloc x).alloc y).alloc z).cell? p=some v:=fun x y z p v h=>by
  have hb:=World.block_lt_of_cell? _ _ h;rw[World.cell?_alloc_lt _ _ _ (by simp;omega),World.cell?_alloc_lt _ _ _ (by simp;omega),World.cell?_alloc_lt _ _ _ hb];exact h
 have a1:=fun x y z=>hal x y z _ _ e1
 have a2:=fun x y z=>hal x y z _ _ e2
 have a3:=fun x y z=>hal x y z _ _ e3
 clear hal
 have hb0:Below w.heap.size w ((((w.alloc (.cells #[.int .i64 12,.string t,.int .i64 n] 106)).alloc (.cells #[.int .i64 pl,.slice sa stack.length cp,.int .i64 st,.int .i64 ((lk:Int)+1),.bool false,.int .i64 0,.string ⟨#[]⟩,.bool false,.string ⟨#[]⟩,.bool false] 193)).alloc (.cells #[.int .i64 0,.slice none 0 0,.int .i64 0,.int .i64 0,.bool false,.int .i64 0,.string ⟨#[]⟩,.bool false,.string ⟨#[]⟩,.bool false] 193)).alloc (.cells #[.bool true,.int .i64 0,.string y.text] 122)):=(((aN _ _).alloc (by simp) _).alloc (by simp;omega) _).alloc (by simp;omega) _
 have hR2:B<=w.heap.size+1+1:=by omega
 have hR1:B<=w.heap.size+1:=by omega
 have hz:=blk4 w (.cells #[.int .i64 12,.string t,.int .i64 n] 106) (.cells #[.int .i64 pl,.slice sa stack.length cp,.int .i64 st,.int .i64 ((lk:Int)+1),.bool false,.int .i64 0,.string ⟨#[]⟩,.bool false,.string ⟨#[]⟩,.bool false] 193) (.cells #[.int .i64 0,.slice none 0 0,.int .i64 0,.int .i64 0,.bool false,.int .i64 0,.string ⟨#[]⟩,.bool false,.string ⟨#[]⟩,.bool false] 193) (.cells #[.bool true,.int .i64 0,.string y.text] 122)
 have hown5:=((((hown.alloc (.cells #[.int .i64 12,.string t,.int .i64 n] 106)).alloc (.cells #[.int .i64 pl,.slice sa stack.length cp,.int .i64 st,.int .i64 ((lk:Int)+1),.bool false,.int .i64 0,.string ⟨#[]⟩,.bool false,.string ⟨#[]⟩,.bool false] 193)).alloc (.cells #[.int .i64 0,.slice none 0 0,.int .i64 0,.int .i64 0,.bool false,.int .i64 0,.string ⟨#[]⟩,.bool false,.string ⟨#[]⟩,.bool false] 193)).alloc (.cells #[.bool true,.int .i64 0,.string y.text] 122)).alloc (.cells #[.string y.text] 9)
 obtain⟨i0,hi,hz0,hzz1,hzz2⟩:=info_parts Tryz.info9b
 unfold Pn at hown
 unfold Ds
 go_enter Tryz.func144,Tryz.ntmps144
 go_wp2_with (first|(go_at_call 19;refine(Db nm _ (by omega)).mono ?_;rintro e w9 ⟨rfl,rfl⟩)|(at_builtin;refine wpList_append_own _ rfl (.tmp 70) (.tmp 73) 30 rfl B 9 i0 (.string ⟨#[]⟩) 1 16 Tryz.underlying30 hi hz0 hzz1 hzz2 rfl (by decide) _ _ _ rfl hown5 ⟨w.heap.size+1+1+1+1,0,none⟩ 1 1 [.string y.text] rfl rfl ?_ (by intro u hu;simp at hu;subst hu;rfl) (by unfold maxLen;omega) (by omega) (by simp;omega) ?_;(focus (have:=cell_one_new ((((w.alloc (.cells #[.int .i64 12,.string t,.int .i64 n] 106)).alloc (.cells #[.int .i64 pl,.slice sa stack.length cp,.int .i64 st,.int .i64 ((lk:Int)+1),.bool false,.int .i64 0,.string ⟨#[]⟩,.bool false,.string ⟨#[]⟩,.bool false] 193)).alloc (.cells #[.int .i64 0,.slice none 0 0,.int .i64 0,.int .i64 0,.bool false,.int .i64 0,.string ⟨#[]⟩,.bool false,.string ⟨#[]⟩,.bool false] 193)).alloc (.cells #[.bool true,.int .i64 0,.string y.text] 122)) (.string y.text) 9;simpa using this));intro v' w2 hown' hgrow hnil;clear hnil;have hq1:w2.heap[w.heap.size+1]?=some (.cells #[.int .i64 pl,.slice sa stack.length cp,.int .i64 st,.int .i64 ((lk:Int)+1),.bool false,.int .i64 0,.string ⟨#[]⟩,.bool false,.string ⟨#[]⟩,.bool false] 193 (0,0)):=Fl hgrow (fun b' cs' T' hT' hb'=>Hh hT' (by rw[Lib.alloc_old _ _ _ (Af hb')];exact hb') hown5) _ _ 193 (by decide) hz.2;have hq2:w2.heap[w.heap.size+1+1]?=some (.cells #[.int .i64 0,.slice none 0 0,.int .i64 0,.int .i64 0,.bool false,.int .i64 0,.string ⟨#[]⟩,.bool false,.string ⟨#[]⟩,.bool false] 193 (0,0)):=Fl hgrow (fun b' cs' T' hT' hb'=>Hh hT' (by rw[Lib.alloc_old _ _ _ (Af hb')];exact hb') hown5) _ _ 193 (by decide) hz.1;have hbB:Below B w w2:=((hb0.mono hB).alloc (by simp;omega) _).grown hgrow (by simp;omega) (fun k hk=>(hown.lt k hk).1);obtain⟨g',cap2,hv'⟩:∃ g cap,v'=.slice (some ⟨g,0,none⟩) (stack.length+1) cap:=(by rcases hown'.2 with ⟨_,h0⟩|⟨g,cap,cur,hv,_⟩;omega;exact⟨g,cap,hv⟩);rw[hv'] at hown' ⊢;have k0:=cH hq2 0;have k1:=cH hq2 1;have k2:=cH hq2 2;have k3:=cH hq2 3;have k4:=cH hq2 4;have k5:=cH hq2 5;have k6:=cH hq2 6;have k7:=cH hq2 7;have k8:=cH hq2 8;have k9:=cH hq2 9;simp only[gA,gB,gC] at k0 k1 k2 k3 k4 k5 k6 k7 k8 k9;have m0:=cH hq1 0;have m1:=cH hq1 1;have m2:=cH hq1 2;have m3:=cH hq1 3;have m4:=cH hq1 4;have m5:=cH hq1 5;have m6:=cH hq1 6;have m7:=cH hq1 7;have m8:=cH hq1 8;have m9:=cH hq1 9;simp only[gA,gB,gC] at m0 m1 m2 m3 m4 m5 m6 m7 m8 m9;have f0:∀ j,w2.frozen? ⟨w.heap.size+1+1,j,none⟩=false:=(fun j=>fH hq2 j);have f1:∀ j,w2.frozen? ⟨w.heap.size+1,j,none⟩=false:=(fun j=>fH hq1 j);have HQ1:Hd (w2.heap[w.heap.size+1]?=some (.cells #[.int .i64 pl,.slice sa stack.length cp,.int .i64 st,.int .i64 ((lk:Int)+1),.bool false,.int .i64 0,.string ⟨#[]⟩,.bool false,.string ⟨#[]⟩,.bool false] 193 (0,0))):=hq1;have HQ2:Hd (w2.heap[w.heap.size+1+1]?=some (.cells #[.int .i64 0,.slice none 0 0,.int .i64 0,.int .i64 0,.bool false,.int .i64 0,.string ⟨#[]⟩,.bool false,.string ⟨#[]⟩,.bool false] 193 (0,0))):=hq2;have HOW:Hd (w2.ownsRow B 9 1 (.slice (some ⟨g',0,none⟩) (stack.length+1) cap2) (stack.length+1) (Bf stack++[.string y.text])):=hown';clear hq1 hq2 hown' hgrow a1 a2 a3))
 refine bR (v:=Ds pl (.slice (some ⟨g',0,none⟩) (stack.length+1) cap2) st ((lk:Int)+1)) (by simp[results,Tryz.results144,go_sem,Ds,k0,k1,k2,k3,k4,k5,k6,k7,k8,k9]) rfl ⟨b10 ((hbB.setCell (p:=⟨w.heap.size+1,1,none⟩) hR1 _)) hR2,_,_,rfl,?_⟩
 have h1:=Eg ⟨HOW.o,_,HQ1.o⟩ 1 (.slice (some ⟨g',0,none⟩) (stack.length+1) cap2)
 have h2:∃ cs,(w2.setCell ⟨w.heap.size+1,1,none⟩ (.slice (some ⟨g',0,none⟩) (stack.length+1) cap2)).heap[w.heap.size+1+1]?=some (.cells cs 193 (0,0)):=⟨_,by rw[hC w2 ⟨w.heap.size+1,1,none⟩ _ _ (by simp)];exact HQ2.o⟩
 have e:Bf (stack++[y.text])=Bf stack++[.string y.text]:=by simp[Bf]
 unfold Pn
 rw[e,List.length_append,List.length_singleton]
 exact((Eg (Eg (Eg (Eg (Eg (Eg (Eg (Eg (Eg (Eg ⟨h1.1,h2⟩ 0 _) 1 _) 2 _) 3 _) 4 _) 5 _) 6 _) 7 _) 8 _) 9 _)).1
end
end Go.Proofs.YtjlnkepkkdefdaaGreatDoor
