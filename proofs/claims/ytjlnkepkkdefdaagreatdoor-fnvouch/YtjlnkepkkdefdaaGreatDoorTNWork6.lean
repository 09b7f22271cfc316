import Derived.Test.YtjlnkepkkdefdaaGreatDoorTNWork2
import Derived.Deep.RegionHeld3
namespace Go.Proofs.YtjlnkepkkdefdaaGreatDoor
open Go.RowKit
set_option linter.unusedVariables false
set_option maxHeartbeats 8000000
set_option maxRecDepth 100000
set_option linter.unusedSimpArgs false
theorem Ye (b:Nat) (cs:Array Value) (B m:Nat) (ss:List ByteArray) (cd:Value) (pl st lk:Int) (t:ByteArray) (w:World) (hM:Bx B w m ss cd pl st lk) (hB:B<=w.heap.size) (h1:t.size<=2000) (h2:ss.length<50) (hbk:w.heap[b]?=some (.cells cs 106 (0,0))) (hbm:b≠m) :
  Calls Tryz.prog 121 #[.pointer (some ⟨m,0,none⟩),.string t] w fun e w'=>e=.returned (.bool true)/\KB B m w w'/\Bx B w' m (ss++[t]) cd pl st lk/\w'.heap[b]?=some (.cells cs 106 (0,0)):=
 (Gl B m ss cd pl st lk t w hM hB h1 h2).mono fun e w' ⟨k1,k2,k3⟩=>⟨k1,k2,k3,k2.keep b cs 106 (by decide) hbm hbk⟩
theorem work_cut (B m:Nat) (r:List ByteArray) (x:ByteArray) (cd:Value) (pl st lk:Int) (t:ByteArray) (n:Nat) (w:World) (hM:Bx B w m (r++[x]) cd pl st lk) (hB:B<=w.heap.size) (hp0:0<=pl) (hp1:pl<=2000) (hn:n<=2000) (h2:r.length+1<=50) (hx:x.size<=2000) (z:Nat) (hmin:min (n:Int) (x.size:Int)=(z:Int)) (hpc:(x.extract 0 z).size<=2000) :
  Calls Tryz.prog 120 #[.pointer (some ⟨m,0,none⟩),.agg #[.int .i64 3,.string t,.int .i64 n]] w fun e w'=>e=.returned (.bool true)/\KB B m w w'/\Bx B w' m (r++[x.extract 0 z]) cd (pl+1) st lk:=by
 have hba:Below w.heap.size w (w.alloc (.cells #[.int .i64 3,.string t,.int .i64 n] 106)):=aN _ _
 have hmw:=hM.cell2.2.2.1
 have hM1:=hM.bl hba
 obtain⟨c2,f2,hml,hBm⟩:=hM1.cell2
 have hs1:B<=(w.alloc (.cells #[.int .i64 3,.string t,.int .i64 n] 106)).heap.size:=by simp;omega
 have HP:Hd (∀ W:World,Bx B W m r cd pl st lk->B<=W.heap.size->W.heap[w.heap.size]?=some (.cells #[.int .i64 3,.string t,.int .i64 n] 106 (0,0))->Calls Tryz.prog 121 #[.pointer (some ⟨m,0,none⟩),.string (x.extract 0 z)] W fun e w'=>e=.returned (.bool true)/\KB B m W w'/\Bx B w' m (r++[x.extract 0 z]) cd pl st lk/\w'.heap[w.heap.size]?=some (.cells #[.int .i64 3,.string t,.int .i64 n] 106 (0,0))):=fun W h1 h2 h3=>Ye w.heap.size _ B m r cd pl st lk (x.extract 0 z) W h1 h2 hpc (by omega) h3 (by omega)
 have HT:Hd (Calls Tryz.prog 119 #[.pointer (some ⟨m,0,none⟩)] (w.alloc (.cells #[.int .i64 3,.string t,.int .i64 n] 106)) fun e w'=>e=.returned (.string x)/\KB B m (w.alloc (.cells #[.int .i64 3,.string t,.int .i64 n] 106)) w'/\Bx B w' m r cd pl st lk/\∀ b,b≠m->w'.heap[b]?=(w.alloc (.cells #[.int .i64 3,.string t,.int .i64 n] 106)).heap[b]?):=Cd B m r x cd pl st lk _ hM1 hs1 (by omega)
 have HBA:Hd (Below w.heap.size w (w.alloc (.cells #[.int .i64 3,.string t,.int .i64 n] 106))):=hba
 clear hM hM1 hba hpc
 go_enter Tryz.func120,Tryz.ntmps120
 go_wp2_with (first|(go_at_call 119;refine(HT.o).mono ?_;rintro e w1 ⟨rfl,hb1,hM2,hk1⟩))
 have hs2:B<=w1.heap.size:=Nat.le_trans hs1 hb1.size
 have hbk1:w1.heap[w.heap.size]?=some (.cells #[.int .i64 3,.string t,.int .i64 n] 106 (0,0)):=by rw[hk1 w.heap.size (by omega),Aj]
 have cn:w1.cell? ⟨w.heap.size,2,none⟩=some (.int .i64 (n:Int)):=by rw[cH hbk1];rfl
 have HK1:Hd (w1.heap[w.heap.size]?=some (.cells #[.int .i64 3,.string t,.int .i64 n] 106 (0,0))):=hbk1
 have HM2:Hd (Bx B w1 m r cd pl st lk):=hM2
 have hz1:z<=x.size:=by omega
 have hz2:z<=n:=by omega
 clear hk1 hM2 HT hbk1
 have hn0:(0:Int)<=(n:Int):=by omega
 have hnI:(z:Int)<=(x.size:Int):=by omega
 go_region_held3 (fun w'=>w'.cell? ⟨w.heap.size,2,none⟩=some (.int .i64 (n:Int)))
  (first|assumption|(simp[*];done)|(rw[cH hkk];rfl))
  (first|(go_at_call 121;refine(HP.o _ ?_ ?_ ?_).mono ?_;(focus (exact HM2.o.bl (Below.refl _ _).drew));(focus (simpa using hs2));(focus (exact HK1.o));rintro e w2 ⟨rfl,hb2,hM3,hkk⟩))
 all_goals
  obtain⟨d2,e2,_,_⟩:=hM3.cell2;have HM3:Hd (Bx B w2 m (r++[x.extract 0 z]) cd pl st lk):=hM3;clear hM3 hkk;go_wp2;go_ret;exact⟨rfl,(((KB.old HBA.o hB).trans hb1).drew.trans hb2).setM 2 hBm _,HM3.o.place _⟩
theorem work_rest (B m:Nat) (r:List ByteArray) (x:ByteArray) (cd:Value) (pl st lk:Int) (t:ByteArray) (n:Nat) (w:World) (hM:Bx B w m (r++[x]) cd pl st lk) (hB:B<=w.heap.size) (hp0:0<=pl) (hp1:pl<=2000) (hn:n<=2000) (h2:r.length+1<=50) (hx:x.size<=2000) (z:Nat) (hmin:min (n:Int) (x.size:Int)=(z:Int)) (hpc:(x.extract z x.size).size<=2000) :
  Calls Tryz.prog 120 #[.pointer (some ⟨m,0,none⟩),.agg #[.int .i64 4,.string t,.int .i64 n]] w fun e w'=>e=.returned (.bool true)/\KB B m w w'/\Bx B w' m (r++[x.extract z x.size]) cd (pl+1) st lk:=by
 have hba:Below w.heap.size w (w.alloc (.cells #[.int .i64 4,.string t,.int .i64 n] 106)):=aN _ _
 have hmw:=hM.cell2.2.2.1
 have hM1:=hM.bl hba
 obtain⟨c2,f2,hml,hBm⟩:=hM1.cell2
 have hs1:B<=(w.alloc (.cells #[.int .i64 4,.string t,.int .i64 n] 106)).heap.size:=by simp;omega
 have HP:Hd (∀ W:World,Bx B W m r cd pl st lk->B<=W.heap.size->W.heap[w.heap.size]?=some (.cells #[.int .i64 4,.string t,.int .i64 n] 106 (0,0))->Calls Tryz.prog 121 #[.pointer (some ⟨m,0,none⟩),.string (x.extract z x.size)] W fun e w'=>e=.returned (.bool true)/\KB B m W w'/\Bx B w' m (r++[x.extract z x.size]) cd pl st lk/\w'.heap[w.heap.size]?=some (.cells #[.int .i64 4,.string t,.int .i64 n] 106 (0,0))):=fun W h1 h2 h3=>Ye w.heap.size _ B m r cd pl st lk (x.extract z x.size) W h1 h2 hpc (by omega) h3 (by omega)
 have HT:Hd (Calls Tryz.prog 119 #[.pointer (some ⟨m,0,none⟩)] (w.alloc (.cells #[.int .i64 4,.string t,.int .i64 n] 106)) fun e w'=>e=.returned (.string x)/\KB B m (w.alloc (.cells #[.int .i64 4,.string t,.int .i64 n] 106)) w'/\Bx B w' m r cd pl st lk/\∀ b,b≠m->w'.heap[b]?=(w.alloc (.cells #[.int .i64 4,.string t,.int .i64 n] 106)).heap[b]?):=Cd B m r x cd pl st lk _ hM1 hs1 (by omega)
 have HBA:Hd (Below w.heap.size w (w.alloc (.cells #[.int .i64 4,.string t,.int .i64 n] 106))):=hba
 clear hM hM1 hba hpc
 go_enter Tryz.func120,Tryz.ntmps120
 go_wp2_with (first|(go_at_call 119;refine(HT.o).mono ?_;rintro e w1 ⟨rfl,hb1,hM2,hk1⟩))
 have hs2:B<=w1.heap.size:=Nat.le_trans hs1 hb1.size
 have hbk1:w1.heap[w.heap.size]?=some (.cells #[.int .i64 4,.string t,.int .i64 n] 106 (0,0)):=by rw[hk1 w.heap.size (by omega),Aj]
 have cn:w1.cell? ⟨w.heap.size,2,none⟩=some (.int .i64 (n:Int)):=by rw[cH hbk1];rfl
 have HK1:Hd (w1.heap[w.heap.size]?=some (.cells #[.int .i64 4,.string t,.int .i64 n] 106 (0,0))):=hbk1
 have HM2:Hd (Bx B w1 m r cd pl st lk):=hM2
 have hz1:z<=x.size:=by omega
 have hz2:z<=n:=by omega
 clear hk1 hM2 HT hbk1
 have hn0:(0:Int)<=(n:Int):=by omega
 have hnI:(z:Int)<=(x.size:Int):=by omega
 go_region_held3 (fun w'=>w'.cell? ⟨w.heap.size,2,none⟩=some (.int .i64 (n:Int)))
  (first|assumption|(simp[*];done)|(rw[cH hkk];rfl))
  (first|(go_at_call 121;refine(HP.o _ ?_ ?_ ?_).mono ?_;(focus (exact HM2.o.bl (Below.refl _ _).drew));(focus (simpa using hs2));(focus (exact HK1.o));rintro e w2 ⟨rfl,hb2,hM3,hkk⟩))
 all_goals
  obtain⟨d2,e2,_,_⟩:=hM3.cell2;have HM3:Hd (Bx B w2 m (r++[x.extract z x.size]) cd pl st lk):=hM3;clear hM3 hkk;go_wp2;go_ret;exact⟨rfl,(((KB.old HBA.o hB).trans hb1).drew.trans hb2).setM 2 hBm _,HM3.o.place _⟩
theorem work_word (B m:Nat) (r:List ByteArray) (x:ByteArray) (cd:Value) (pl st lk:Int) (t:ByteArray) (n:Nat) (w:World) (hM:Bx B w m (r++[x]) cd pl st lk) (hB:B<=w.heap.size) (hp0:0<=pl) (hp1:pl<=2000) (hn:n<=2000) (h2:r.length+1<=50) (hx:x.size<=2000) (hpc:(Kd x n).size<=2000) :
  Calls Tryz.prog 120 #[.pointer (some ⟨m,0,none⟩),.agg #[.int .i64 5,.string t,.int .i64 n]] w fun e w'=>e=.returned (.bool true)/\KB B m w w'/\Bx B w' m (r++[Kd x n]) cd (pl+1) st lk:=by
 have hba:Below w.heap.size w (w.alloc (.cells #[.int .i64 5,.string t,.int .i64 n] 106)):=aN _ _
 have hmw:=hM.cell2.2.2.1
 have hM1:=hM.bl hba
 obtain⟨c2,f2,hml,hBm⟩:=hM1.cell2
 have hs1:B<=(w.alloc (.cells #[.int .i64 5,.string t,.int .i64 n] 106)).heap.size:=by simp;omega
 go_enter Tryz.func120,Tryz.ntmps120
 go_wp2_with fail
 go_region_with (first|(go_at_call 135;refine(wordAt_any x n _ hx hn).mono ?_;rintro e w9 ⟨rfl,rfl⟩)|(go_at_call 119;refine(Cd B m (r) x cd pl st lk _ ?_ ?_ ?_).mono ?_;(focus (exact hM1));(focus (exact hs1));(focus (first|omega|(simp;omega)));rintro e w1 ⟨rfl,hb1,hM2,hk1⟩;have hs2:B<=w1.heap.size:=(Nat.le_trans hs1 hb1.size);obtain⟨dd1,ee1,_,_⟩:=hM2.cell2;have cn:w1.cell? ⟨w.heap.size,2,none⟩=some (.int .i64 (n:Int)):=(by rw[World.cell?_of_block (hk1 w.heap.size (by omega))];simp[go_sem]);clear hk1)|(go_at_call 121;refine(Gl B m (r) cd pl st lk (Kd x n) _ ?_ ?_ hpc ?_).mono ?_;(focus (exact hM2));(focus (exact hs2));(focus (first|omega|(simp;omega)));rintro e w2 ⟨rfl,hb2,hM3⟩;have hs3:B<=w2.heap.size:=(Nat.le_trans hs2 hb2.size);obtain⟨dd2,ee2,_,_⟩:=hM3.cell2))
 all_goals
  go_wp2;go_ret;exact⟨rfl,(((KB.old hba hB).drew.trans hb1).trans hb2).setM 2 hBm _,hM3.place _⟩
theorem work_same (B m:Nat) (r:List ByteArray) (x y:ByteArray) (cd:Value) (pl st lk:Int) (t:ByteArray) (n:Nat) (w:World) (hM:Bx B w m (r++[x]++[y]) cd pl st lk) (hB:B<=w.heap.size) (hp0:0<=pl) (hp1:pl<=2000) (hn:n<=2000) (h2:r.length+2<=50) (hx:x.size<=2000) (hy:y.size<=2000) (hf:(Cw (x.toList == y.toList)).size<=2000) :
  Calls Tryz.prog 120 #[.pointer (some ⟨m,0,none⟩),.agg #[.int .i64 6,.string t,.int .i64 n]] w fun e w'=>e=.returned (.bool true)/\KB B m w w'/\Bx B w' m (r++[Cw (x.toList == y.toList)]) cd (pl+1) st lk:=by
 have hba:Below w.heap.size w (w.alloc (.cells #[.int .i64 6,.string t,.int .i64 n] 106)):=aN _ _
 have hmw:=hM.cell2.2.2.1
 have hM1:=hM.bl hba
 obtain⟨c2,f2,hml,hBm⟩:=hM1.cell2
 have hs1:B<=(w.alloc (.cells #[.int .i64 6,.string t,.int .i64 n] 106)).heap.size:=by simp;omega
 go_enter Tryz.func120,Tryz.ntmps120
 go_wp2_with fail
 go_region_with (first|(go_at_call 119;refine(Cd B m (r) x cd pl st lk _ ?_ ?_ ?_).mono ?_;(focus (exact hM2));(focus (exact hs2));(focus (first|omega|(simp;omega)));rintro e w2 ⟨rfl,hb2,hM3,hk2⟩;have hs3:B<=w2.heap.size:=(Nat.le_trans hs2 hb2.size);obtain⟨dd2,ee2,_,_⟩:=hM3.cell2;clear hk2)|(go_at_call 119;refine(Cd B m (r++[x]) y cd pl st lk _ ?_ ?_ ?_).mono ?_;(focus (exact hM1));(focus (exact hs1));(focus (first|omega|(simp;omega)));rintro e w1 ⟨rfl,hb1,hM2,hk1⟩;have hs2:B<=w1.heap.size:=(Nat.le_trans hs1 hb1.size);obtain⟨dd1,ee1,_,_⟩:=hM2.cell2;clear hk1))
 all_goals
  go_wp2_with fail
  go_region_with (first|(go_at_call 91;refine(Km _ _).mono ?_;rintro e w9 ⟨rfl,rfl⟩)|(go_at_call 121;refine(Gl B m (r) cd pl st lk (Cw (x.toList == y.toList)) _ ?_ ?_ hf ?_).mono ?_;(focus (exact hM3));(focus (exact hs3));(focus (first|omega|(simp;omega)));rintro e w3 ⟨rfl,hb3,hM4⟩;have hs4:B<=w3.heap.size:=(Nat.le_trans hs3 hb3.size);obtain⟨dd3,ee3,_,_⟩:=hM4.cell2))
  all_goals
   go_wp2;go_ret;exact⟨rfl,(((KB.old hba hB).drew.trans hb1).trans (hb2.trans ((KB.refl _ _ _).drew.trans hb3))).setM 2 hBm _,hM4.place _⟩
theorem Wt (B m:Nat) (r:List ByteArray) (x:ByteArray) (cd:Value) (pl st lk:Int) (t:ByteArray) (n:Nat) (w:World) (hM:Bx B w m (r++[x]) cd pl st lk) (hB:B<=w.heap.size) (hp0:0<=pl) (hp1:pl<=2000) (hn:n<=2000) (h2:r.length+2<=50) (hx:x.size<=2000) :
  Calls Tryz.prog 120 #[.pointer (some ⟨m,0,none⟩),.agg #[.int .i64 7,.string t,.int .i64 n]] w fun e w'=>e=.returned (.bool true)/\KB B m w w'/\Bx B w' m (r++[x]++[x]) cd (pl+1) st lk:=by
 have hba:Below w.heap.size w (w.alloc (.cells #[.int .i64 7,.string t,.int .i64 n] 106)):=aN _ _
 have hmw:=hM.cell2.2.2.1
 have hM1:=hM.bl hba
 obtain⟨c2,f2,hml,hBm⟩:=hM1.cell2
 have hs1:B<=(w.alloc (.cells #[.int .i64 7,.string t,.int .i64 n] 106)).heap.size:=by simp;omega
 go_enter Tryz.func120,Tryz.ntmps120
 go_wp2_with (first|(go_at_call 119;refine(Cd B m (r) x cd pl st lk _ ?_ ?_ ?_).mono ?_;(focus (exact hM1));(focus (exact hs1));(focus (first|omega|(simp;omega)));rintro e w1 ⟨rfl,hb1,hM2,hk1⟩;have hs2:B<=w1.heap.size:=(Nat.le_trans hs1 hb1.size);obtain⟨dd1,ee1,_,_⟩:=hM2.cell2;clear hk1)|(go_at_call 121;refine(Gl B m (r++[x]) cd pl st lk (x) _ ?_ ?_ hx ?_).mono ?_;(focus (exact hM3));(focus (exact hs3));(focus (first|omega|(simp;omega)));rintro e w3 ⟨rfl,hb3,hM4⟩;have hs4:B<=w3.heap.size:=(Nat.le_trans hs3 hb3.size);obtain⟨dd3,ee3,_,_⟩:=hM4.cell2)|(go_at_call 121;refine(Gl B m (r) cd pl st lk (x) _ ?_ ?_ hx ?_).mono ?_;(focus (exact hM2));(focus (exact hs2));(focus (first|omega|(simp;omega)));rintro e w2 ⟨rfl,hb2,hM3⟩;have hs3:B<=w2.heap.size:=(Nat.le_trans hs2 hb2.size);obtain⟨dd2,ee2,_,_⟩:=hM3.cell2))
 go_ret
 exact⟨rfl,(((KB.old hba hB).trans hb1).trans (hb2.trans hb3)).setM 2 hBm _,hM4.place _⟩
theorem Wu (B m:Nat) (r:List ByteArray) (x:ByteArray) (cd:Value) (pl st lk:Int) (t:ByteArray) (n:Nat) (w:World) (hM:Bx B w m (r++[x]) cd pl st lk) (hB:B<=w.heap.size) (hp0:0<=pl) (hp1:pl<=2000) (hn:n<=2000) (h2:r.length+1=50) (hx:x.size<=2000) :
  Calls Tryz.prog 120 #[.pointer (some ⟨m,0,none⟩),.agg #[.int .i64 7,.string t,.int .i64 n]] w fun e w'=>e=.returned (.bool false)/\KB B m w w'/\Bx B w' m (r++[x]) cd pl st lk:=by
 have hba:Below w.heap.size w (w.alloc (.cells #[.int .i64 7,.string t,.int .i64 n] 106)):=aN _ _
 have hmw:=hM.cell2.2.2.1
 have hM1:=hM.bl hba
 obtain⟨c2,f2,hml,hBm⟩:=hM1.cell2
 have hs1:B<=(w.alloc (.cells #[.int .i64 7,.string t,.int .i64 n] 106)).heap.size:=by simp;omega
 go_enter Tryz.func120,Tryz.ntmps120
 go_wp2_with (first|(go_at_call 119;refine(Cd B m (r) x cd pl st lk _ ?_ ?_ ?_).mono ?_;(focus (exact hM1));(focus (exact hs1));(focus (first|omega|(simp;omega)));rintro e w1 ⟨rfl,hb1,hM2,hk1⟩;have hs2:B<=w1.heap.size:=(Nat.le_trans hs1 hb1.size);obtain⟨dd1,ee1,_,_⟩:=hM2.cell2;clear hk1)|(go_at_call 121;refine(put_no B m (r++[x]) cd pl st lk (x) _ ?_ ?_ ?_ ?_).mono ?_;(focus (exact hM3));(focus (first|omega|(simp;omega)));(focus (first|omega|(simp;omega)));(focus (right;simp;omega));rintro e w3 ⟨rfl,rfl⟩)|(go_at_call 121;refine(Gl B m (r) cd pl st lk (x) _ ?_ ?_ hx ?_).mono ?_;(focus (exact hM2));(focus (exact hs2));(focus (first|omega|(simp;omega)));rintro e w2 ⟨rfl,hb2,hM3⟩;have hs3:B<=w2.heap.size:=(Nat.le_trans hs2 hb2.size);obtain⟨dd2,ee2,_,_⟩:=hM3.cell2))
 go_ret
 exact⟨rfl,(((KB.old hba hB).trans hb1).trans hb2),hM3⟩
theorem work_swap (B m:Nat) (r:List ByteArray) (x y:ByteArray) (cd:Value) (pl st lk:Int) (t:ByteArray) (n:Nat) (w:World) (hM:Bx B w m (r++[x]++[y]) cd pl st lk) (hB:B<=w.heap.size) (hp0:0<=pl) (hp1:pl<=2000) (hn:n<=2000) (h2:r.length+2<=50) (hx:x.size<=2000) (hy:y.size<=2000) :
  Calls Tryz.prog 120 #[.pointer (some ⟨m,0,none⟩),.agg #[.int .i64 8,.string t,.int .i64 n]] w fun e w'=>e=.returned (.bool true)/\KB B m w w'/\Bx B w' m (r++[y]++[x]) cd (pl+1) st lk:=by
 have hba:Below w.heap.size w (w.alloc (.cells #[.int .i64 8,.string t,.int .i64 n] 106)):=aN _ _
 have hM1:=hM.bl hba
 obtain⟨c2,f2,hml,hBm⟩:=hM1.cell2
 have hs1:B<=(w.alloc (.cells #[.int .i64 8,.string t,.int .i64 n] 106)).heap.size:=by simp;omega
 have HBA:Hd (Below w.heap.size w (w.alloc (.cells #[.int .i64 8,.string t,.int .i64 n] 106))):=hba
 have HM1:Hd (Bx B (w.alloc (.cells #[.int .i64 8,.string t,.int .i64 n] 106)) m (r++[x]++[y]) cd pl st lk):=hM1
 clear hM hM1 hba
 go_enter Tryz.func120,Tryz.ntmps120
 go_wp2_with fail
 go_region_held3 (fun w'=>B<=w'.heap.size)
  (first|assumption|(simpa using hs1)|exact Nat.le_trans hs2 hb2.size|exact Nat.le_trans hs1 (by simpa using hb1.size))
  (first|(go_at_call 119;refine(Cd B m (r) x cd pl st lk _ ?_ ?_ ?_).mono ?_;(focus (exact HM2.o));(focus (exact hs2));(focus (omega));rintro e w2 ⟨rfl,hb2,hM3,hk2⟩;have HM3:Hd (Bx B w2 m r cd pl st lk):=hM3;clear hM3 hk2)|(go_at_call 119;refine(Cd B m (r++[x]) y cd pl st lk _ ?_ ?_ ?_).mono ?_;(focus (exact HM1.o.bl (Below.refl _ _).drew));(focus (simpa using hs1));(focus (simp;omega));rintro e w1 ⟨rfl,hb1,hM2,hk1⟩;have hs2:B<=w1.heap.size:=(Nat.le_trans hs1 (by simpa using hb1.size));have HM2:Hd (Bx B w1 m (r++[x]) cd pl st lk):=hM2;clear hM2 hk1))
 have hs3:B<=w2.heap.size:=Nat.le_trans hs2 hb2.size
 have hB2:KB B m w w2:=((KB.old HBA.o hB).drew.trans hb1).trans hb2
 clear hb1 hb2 HM1 HM2
 go_wp2_with fail
 refine(Gl B m r cd pl st lk y _ HM3.o hs3 hy (by omega)).mono ?_
 rintro e w3 ⟨rfl,hb3,hM4⟩
 have HM4:Hd (Bx B w3 m (r++[y]) cd pl st lk):=hM4
 have hs4:B<=w3.heap.size:=Nat.le_trans hs3 hb3.size
 have hB3:=hB2.trans hb3
 clear hM4 HM3 hb3 hB2
 go_wp2_with fail
 refine(Gl B m (r++[y]) cd pl st lk x _ HM4.o hs4 hx (by simp;omega)).mono ?_
 rintro e w4 ⟨rfl,hb4,hM5⟩
 obtain⟨d2,e2,_,_⟩:=hM5.cell2
 have HM5:Hd (Bx B w4 m (r++[y]++[x]) cd pl st lk):=hM5
 have hB4:=hB3.trans hb4
 clear hM5 HM4 hb4 hB3
 go_wp2
 go_ret
 exact⟨rfl,hB4.setM 2 hBm _,HM5.o.place _⟩
end Go.Proofs.YtjlnkepkkdefdaaGreatDoor
