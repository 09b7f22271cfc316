import Derived.Test.YtoihflimijabjaaGreatDoorTValid
namespace Go.Proofs.YtoihflimijabjaaGreatDoor
open Value renaming slice->J,string->S,bool->F,agg->G
open Option renaming some->M,none->N
open Obj renaming cells->O
open Go renaming World->E
open Ending renaming returned->H
open _root_ renaming List->L,Nat->X
set_option maxHeartbeats 400000
open _root_.Go.Proofs.Tryz Go.RowKit
set_option linter.unusedVariables false
set_option linter.unusedSimpArgs false
def hstep(v c:Int):Int:=IntKind.u64.wrap (bits BinOp.xor IntKind.u64 v (IntKind.u64.wrap c)*1099511628211)
def Cd(l:L UInt8):Int:=l.foldl (λv c=>hstep v c.toNat) 14695981039346656037
theorem hash_snoc(l:L UInt8)(c:UInt8):Cd (l++[c])=hstep (Cd l) c.toNat:=by simp[Cd,List.foldl_append]
theorem Vx(x:Int):0≤IntKind.u64.wrap x∧IntKind.u64.wrap x<18446744073709551616:=by
 have e:IntKind.u64.wrap x=x % 2 ^ 64:=rfl;rw[e];omega
theorem Hh(l:L UInt8):0≤Cd l∧Cd l<18446744073709551616:=by
 unfold Cd
 rcases List.eq_nil_or_concat l with rfl|⟨l',c,rfl⟩
 ·simp
 ·rw[List.concat_eq_append,List.foldl_append];exact Vx _
def dig(V:Int)(k:X):UInt8:=UInt8.ofNat ((V / 256 ^ k).toNat % 256)
def Ho(V:Int):X→L UInt8
 | 0=>[]
 | k+1=>dig V k::Ho V k
theorem Gd(V:Int):∀k,(Ho V k).length=k
 | 0=>rfl
 | k+1=>by simp[Ho,Gd V k]
theorem div_bd(V:Int)(k:X)(h:0≤V)(h2:V<18446744073709551616):0≤V / 256 ^ k∧V / 256 ^ k<18446744073709551616:=by
 have hp:(0:Int)<256 ^ k:=Int.pow_pos qg;exact⟨Int.ediv_nonneg h (Int.le_of_lt hp),Int.lt_of_le_of_lt (Int.ediv_le_self _ h) h2⟩
theorem Ue(V:Int)(h:0≤V)(k:X):((dig V k).toNat:Int)=V / 256 ^ k % 256:=by
 have:0≤V / 256 ^ k:=Int.ediv_nonneg h (Int.le_of_lt (Int.pow_pos qg));unfold dig;rw[UInt8.toNat_ofNat'];omega
theorem div_succ(V:Int)(k:X):V / 256 ^ (k+1)=V / 256 ^ k / 256:=by
 rw[Int.pow_succ,Int.ediv_ediv_of_nonneg (Int.le_of_lt (Int.pow_pos qg))]
def Iz(V:Int)(k:X):L Value:=(Ho V k).map λb=>Value.int .u8 b.toNat
theorem Td(V:Int)(k:X):(Iz V k).length=k:=by simp[Iz,Gd]
theorem Xz(V:Int)(h:0≤V)(k:X):Iz V (k+1)=[Value.int .u8 (V / 256 ^ k % 256)]++Iz V k:=by
 simp[Iz,Ho,Ue V h]
theorem Qax(V:Int)(k:X):∀u∈Iz V k,u.oneCell'=true:=by
 intro u hu;obtain⟨_,_,rfl⟩:=List.mem_map.1 hu;rfl
theorem Yq(s:By)(k:X)(h:k<s.size):s.data.toList.take (k+1)=s.data.toList.take k++[s[k]]:=by
 rw[List.take_succ_eq_append_getElem Zl];rfl
def Cj(V:Int)(n j:X):Int:=if j<n then V / 256 ^ (n-1-j) % 256 else 0
def Bc(V:Int)(n:X):Array Value:=
 #[.int .u8 (Cj V n 0),.int .u8 (Cj V n 1),.int .u8 (Cj V n 2),.int .u8 (Cj V n 3),.int .u8 (Cj V n 4),.int .u8 (Cj V n 5),.int .u8 (Cj V n 6),.int .u8 (Cj V n 7)]
theorem Xy(V:Int):∀(n j:X)(h:j<(Ho V n).length),(Ho V n)[j]=dig V (n-1-j)
 | 0,j,h=>by simp[Ho]at h
 | n+1,0,h=>by simp[Ho]
 | n+1,j+1,h=>by
   (have h':j<(Ho V n).length:=by simpa [Ho] using h);have:=Xy V n j h';simp only[Ho,List.getElem_cons_succ,this];congr 1;omega
theorem Qbg(V:Int)(hV:0≤V)(n j:X)(h:j<(Ho V n).length):Value.int .u8 (Cj V n j)=.int .u8 ((Ho V n)[j].toNat:Int):=by
 have hn:j<n:=by simpa [Gd] using h
 rw[Xy,Ue V hV,Cj,if_pos hn]
open Go.RowKit
theorem Tryz.info5:(prog.info? 5).map (λi=>(i.zero,i.size,i.bytes))=M (M (.int .u8 0),1,1):=qk
theorem Jk(n:Int)(w:E)(h1:1≤n)(h2:n≤8):Calls prog 17 #[I n] w λe w'=>e=H (F true)∧w=w':=by
 exact qer
theorem Qak(n:Int)(w:E)(h:n<1∨8<n):Calls prog 17 #[I n] w λe w'=>e=H (F false)∧w=w':=by
 rcases h with h|h
 ·have h':decide (1≤n)=false:=qj
  exact qer
 ·have h':1≤n:=qg
  have h'':decide (n≤8)=false:=qj;exact qer
theorem Kw(n:Int)(w:E)(h1:1≤n)(h2:n≤8):Calls prog 28 #[I n] w λe w'=>e=H (F true)∧w=w':=by
 exact qeq
theorem Su(n:Int)(w:E)(h:n<1∨8<n):Calls prog 28 #[I n] w λe w'=>e=H (F false)∧w=w':=by
 rcases h with h|h
 ·have h':decide (1≤n)=false:=qj
  exact qeq
 ·have h':1≤n:=qg
  have h'':decide (n≤8)=false:=qj;exact qeq
theorem Ur{w wr w1:E}{V:Int}{j:X}{v':Value}(hV:0≤V)(iz:w.heap.size≤wr.heap.size)(dj:Bw w wr)(af:w1.ownsRow w.heap.size 5 1 v' (1+j) ([Value.int .u8 (V / 256 ^ j % 256)]++Iz V j))(ae:(wr.alloc (O #[Value.int .u8 (V / 256 ^ j % 256)] 5)).grownBy w1 (Value.slice (p_ wr.heap.size) 1 1).ownBlock)(bn:v'=nS↔Value.slice (p_ wr.heap.size) 1 1=nS∧j=0):∃g cap:X,v'=J (p_ g) (j+1) cap∧w1.ownsRow w.heap.size 5 1 (J (p_ g) (j+1) cap) (j+1) (Iz V (j+1))∧Bw w w1:=by
 rw[←Xz V hV,Nat.add_comm 1 j]at af;have hb:Bw w w1:=(dj.alloc iz _).grown ae qj qfl;have h2:=af.2
 rcases h2 with⟨h,_⟩|⟨g,cap,cur,hv,_⟩
 ·have:=bn.1 h;simp at this
 ·subst hv;exact⟨g,cap,rfl,af,hb⟩
theorem Cl(s:By)(n:X)(w:E)(hs:s.size≤1048576)(h1:1≤n)(h2:n≤8):Calls prog 18 #[S s,I n] w λe w'=>e=H (S ⟨(Ho (Cd s.data.toList) n).toArray⟩)∧Bw w w':=by
 obtain⟨i0,hi,bm,bg,bi⟩:=info_parts Tryz.info5;obtain⟨E0,K6⟩:=Hh s.data.toList;generalize hV:Cd s.data.toList=V at *;have HV:Hd (Cd s.data.toList=V):=hV;clear hV;go_enter func18,ntmps18
 go_wp2_with (first|(go_at_call 17;refine(Jk _ _ qg qg).mono ?_;rintro e w' ⟨rfl,rfl⟩))
 go_loop [5,6] (λv i=>∃k:X,k≤s.size∧i=I k∧v=.int .u64 (Cd (s.data.toList.take k))) (λ_ i=>s.size-(intOf i).toNat)
 case atStart=>exact⟨0,Nat.zero_le _,rfl,rfl⟩
 case round=>
  obtain⟨k,hk,rfl,rfl⟩:=hrel
  by_cases au:k<s.size
  ·exact qar
  ·rw[show s.data.toList.take k=s.data.toList from List.take_of_length_le qj]
   rw[HV.o];go_wp2
   go_loopw [5,7,8] (λv o i wr=>∃k:X,∃g cap:X,k≤n∧i=I k∧v=.int .u64 (V / 256 ^ k)∧o=J (p_ g) k cap∧
    wr.ownsRow w.heap.size 5 1 (J (p_ g) k cap) k (Iz V k)∧Bw w wr)
    (λ_ _ i _=>n-(intOf i).toNat)
   case atStart=>
    refine⟨0,w.heap.size,0,Nat.zero_le _,rfl,qi,rfl,?_,aN _ _⟩;exact World.ownsRow_lit w #[] 0 (Nat.le_refl _) qn qi
   case round=>
    obtain⟨j,g,cap,hj,rfl,rfl,rfl,ak,dj⟩:=hrel;obtain⟨hd1,hd2⟩:=div_bd V j E0 K6;have iz:=dj.size
    by_cases hjn:j<n
    ·have hnew:=World.ownsRow_lit (base:=w.heap.size) (e:=5) (size:=1) wr #[Value.int .u8 (V / 256 ^ j % 256)] 1 iz qn qi
     have hcs:=(ak.alloc (O #[Value.int .u8 (V / 256 ^ j % 256)] 5)).cells (g:=g) rfl
     go_wp2_with (first|(at_builtin;refine wpList_append_own _ rfl (.tmp 34) (.tmp 35) 22 rfl w.heap.size 5 i0 (.int .u8 0) 1 1 underlying22 hi bm bg bi rfl qh _ _ _ rfl hnew ⟨g,0,N⟩ j cap (Iz V j) rfl (by simp[Td]) hcs (Qax V j) qn qg qj ?_;intro v' w1 af ae bn;obtain⟨g',ai,ym,R⟩:=Ur E0 iz dj af ae bn;clear af ae bn hnew hcs ak dj;rw[ym];clear ym))
     go_roundw
     case rel=>exact⟨j+1,g',ai,qg,qp,by rw[div_succ],rfl,R.1,R.2⟩
     case measure=>simp[intOf];omega
    ·have ej:j=n:=qg
     have hcv:(convert 22 9 (J (p_ g) j cap)).run prog wr=.ok (S ⟨(Ho V j).toArray⟩) wr:=by
      have:=run_convert_bytes_back (P:=prog) wr 22 9 5 ⟨g,0,N⟩ cap (Ho V j) underlying22 underlying5 underlying9 (λt ht=>ak.cells rfl t _ (by rw[Iz,List.getElem?_map,gQ ht];rfl))
      rwa [Gd]at this
     have Hej:Hd (j=n):=ej;clear ej;go_wp2;go_ret;exact⟨by rw[Hej.o];rfl,dj⟩
open Go.RowKit
open Go.RowKit

open Go.RowKit
theorem cells8_1(V:Int):Bc V 1=#[.int .u8 (V % 256),.int .u8 (0),.int .u8 (0),.int .u8 (0),.int .u8 (0),.int .u8 (0),.int .u8 (0),.int .u8 (0)]:=by
 simp[Bc,Cj]
theorem Yz(s:By)(w:E)(hs:s.size≤1048576):Calls prog 29 #[S s,I 1] w λe w'=>e=H (G (Bc (Cd s.data.toList) 1))∧
 (w.alloc (O (Bc (Cd s.data.toList) 1) 67)).alloc (O (Bc (Cd s.data.toList) 1) 67)=w':=by
 obtain⟨E0,K6⟩:=Hh s.data.toList;generalize hV:Cd s.data.toList=V at *;have HV:Hd (Cd s.data.toList=V):=hV;clear hV;rw[cells8_1];go_enter func29,ntmps29;go_wp2
 go_loop [5,6,11] (λv _ i=>∃k:X,k≤s.size∧i=I k∧v=.int .u64 (Cd (s.data.toList.take k))) (λ_ _ i=>s.size-(intOf i).toNat)
 case atStart=>exact⟨0,Nat.zero_le _,rfl,rfl⟩
 case round=>
  obtain⟨k,hk,rfl,rfl⟩:=hrel
  by_cases au:k<s.size
  ·exact qar
  ·rw[show s.data.toList.take k=s.data.toList from List.take_of_length_le qj]
   rw[HV.o];go_wp2;refine wp_loop_rounds 2 ?_
   iterate 2 (rw[rounds_succ];go_wp2)
   exact bR (v:=G #[.int .u8 (V % 256),.int .u8 (0),.int .u8 (0),.int .u8 (0),.int .u8 (0),.int .u8 (0),.int .u8 (0),.int .u8 (0)]) qbd rfl ⟨rfl,rfl⟩
theorem cells8_2(V:Int):Bc V 2=#[.int .u8 (V / 256 % 256),.int .u8 (V % 256),.int .u8 (0),.int .u8 (0),.int .u8 (0),.int .u8 (0),.int .u8 (0),.int .u8 (0)]:=by
 simp[Bc,Cj]
theorem Yy(s:By)(w:E)(hs:s.size≤1048576):Calls prog 29 #[S s,I 2] w λe w'=>e=H (G (Bc (Cd s.data.toList) 2))∧
 (w.alloc (O (Bc (Cd s.data.toList) 2) 67)).alloc (O (Bc (Cd s.data.toList) 2) 67)=w':=by
 obtain⟨E0,K6⟩:=Hh s.data.toList;generalize hV:Cd s.data.toList=V at *;have HV:Hd (Cd s.data.toList=V):=hV;clear hV;rw[cells8_2];go_enter func29,ntmps29;go_wp2
 go_loop [5,6,11] (λv _ i=>∃k:X,k≤s.size∧i=I k∧v=.int .u64 (Cd (s.data.toList.take k))) (λ_ _ i=>s.size-(intOf i).toNat)
 case atStart=>exact⟨0,Nat.zero_le _,rfl,rfl⟩
 case round=>
  obtain⟨k,hk,rfl,rfl⟩:=hrel
  by_cases au:k<s.size
  ·exact qar
  ·rw[show s.data.toList.take k=s.data.toList from List.take_of_length_le qj]
   rw[HV.o];go_wp2;refine wp_loop_rounds 3 ?_
   iterate 3 (rw[rounds_succ];go_wp2)
   exact bR (v:=G #[.int .u8 (V / 256 % 256),.int .u8 (V % 256),.int .u8 (0),.int .u8 (0),.int .u8 (0),.int .u8 (0),.int .u8 (0),.int .u8 (0)]) qbd rfl ⟨rfl,rfl⟩
theorem cells8_3(V:Int):Bc V 3=#[.int .u8 (V / 256 / 256 % 256),.int .u8 (V / 256 % 256),.int .u8 (V % 256),.int .u8 (0),.int .u8 (0),.int .u8 (0),.int .u8 (0),.int .u8 (0)]:=by
 simp[Bc,Cj];omega
theorem Yx(s:By)(w:E)(hs:s.size≤1048576):Calls prog 29 #[S s,I 3] w λe w'=>e=H (G (Bc (Cd s.data.toList) 3))∧
 (w.alloc (O (Bc (Cd s.data.toList) 3) 67)).alloc (O (Bc (Cd s.data.toList) 3) 67)=w':=by
 obtain⟨E0,K6⟩:=Hh s.data.toList;generalize hV:Cd s.data.toList=V at *;have HV:Hd (Cd s.data.toList=V):=hV;clear hV;rw[cells8_3];go_enter func29,ntmps29;go_wp2
 go_loop [5,6,11] (λv _ i=>∃k:X,k≤s.size∧i=I k∧v=.int .u64 (Cd (s.data.toList.take k))) (λ_ _ i=>s.size-(intOf i).toNat)
 case atStart=>exact⟨0,Nat.zero_le _,rfl,rfl⟩
 case round=>
  obtain⟨k,hk,rfl,rfl⟩:=hrel
  by_cases au:k<s.size
  ·exact qar
  ·rw[show s.data.toList.take k=s.data.toList from List.take_of_length_le qj]
   rw[HV.o];go_wp2;refine wp_loop_rounds 4 ?_
   iterate 4 (rw[rounds_succ];go_wp2)
   exact bR (v:=G #[.int .u8 (V / 256 / 256 % 256),.int .u8 (V / 256 % 256),.int .u8 (V % 256),.int .u8 (0),.int .u8 (0),.int .u8 (0),.int .u8 (0),.int .u8 (0)]) qbd rfl ⟨rfl,rfl⟩
theorem cells8_4(V:Int):Bc V 4=#[.int .u8 (V / 256 / 256 / 256 % 256),.int .u8 (V / 256 / 256 % 256),.int .u8 (V / 256 % 256),.int .u8 (V % 256),.int .u8 (0),.int .u8 (0),.int .u8 (0),.int .u8 (0)]:=by
 simp[Bc,Cj];omega
theorem Yw(s:By)(w:E)(hs:s.size≤1048576):Calls prog 29 #[S s,I 4] w λe w'=>e=H (G (Bc (Cd s.data.toList) 4))∧
 (w.alloc (O (Bc (Cd s.data.toList) 4) 67)).alloc (O (Bc (Cd s.data.toList) 4) 67)=w':=by
 obtain⟨E0,K6⟩:=Hh s.data.toList;generalize hV:Cd s.data.toList=V at *;have HV:Hd (Cd s.data.toList=V):=hV;clear hV;rw[cells8_4];go_enter func29,ntmps29;go_wp2
 go_loop [5,6,11] (λv _ i=>∃k:X,k≤s.size∧i=I k∧v=.int .u64 (Cd (s.data.toList.take k))) (λ_ _ i=>s.size-(intOf i).toNat)
 case atStart=>exact⟨0,Nat.zero_le _,rfl,rfl⟩
 case round=>
  obtain⟨k,hk,rfl,rfl⟩:=hrel
  by_cases au:k<s.size
  ·exact qar
  ·rw[show s.data.toList.take k=s.data.toList from List.take_of_length_le qj]
   rw[HV.o];go_wp2;refine wp_loop_rounds 5 ?_
   iterate 5 (rw[rounds_succ];go_wp2)
   exact bR (v:=G #[.int .u8 (V / 256 / 256 / 256 % 256),.int .u8 (V / 256 / 256 % 256),.int .u8 (V / 256 % 256),.int .u8 (V % 256),.int .u8 (0),.int .u8 (0),.int .u8 (0),.int .u8 (0)]) qbd rfl ⟨rfl,rfl⟩
theorem cells8_5(V:Int):Bc V 5=#[.int .u8 (V / 256 / 256 / 256 / 256 % 256),.int .u8 (V / 256 / 256 / 256 % 256),.int .u8 (V / 256 / 256 % 256),.int .u8 (V / 256 % 256),.int .u8 (V % 256),.int .u8 (0),.int .u8 (0),.int .u8 (0)]:=by
 simp[Bc,Cj];omega
theorem Yv(s:By)(w:E)(hs:s.size≤1048576):Calls prog 29 #[S s,I 5] w λe w'=>e=H (G (Bc (Cd s.data.toList) 5))∧
 (w.alloc (O (Bc (Cd s.data.toList) 5) 67)).alloc (O (Bc (Cd s.data.toList) 5) 67)=w':=by
 obtain⟨E0,K6⟩:=Hh s.data.toList;generalize hV:Cd s.data.toList=V at *;have HV:Hd (Cd s.data.toList=V):=hV;clear hV;rw[cells8_5];go_enter func29,ntmps29;go_wp2
 go_loop [5,6,11] (λv _ i=>∃k:X,k≤s.size∧i=I k∧v=.int .u64 (Cd (s.data.toList.take k))) (λ_ _ i=>s.size-(intOf i).toNat)
 case atStart=>exact⟨0,Nat.zero_le _,rfl,rfl⟩
 case round=>
  obtain⟨k,hk,rfl,rfl⟩:=hrel
  by_cases au:k<s.size
  ·exact qar
  ·rw[show s.data.toList.take k=s.data.toList from List.take_of_length_le qj]
   rw[HV.o];go_wp2;refine wp_loop_rounds 6 ?_
   iterate 6 (rw[rounds_succ];go_wp2)
   exact bR (v:=G #[.int .u8 (V / 256 / 256 / 256 / 256 % 256),.int .u8 (V / 256 / 256 / 256 % 256),.int .u8 (V / 256 / 256 % 256),.int .u8 (V / 256 % 256),.int .u8 (V % 256),.int .u8 (0),.int .u8 (0),.int .u8 (0)]) qbd rfl ⟨rfl,rfl⟩
theorem cells8_6(V:Int):Bc V 6=#[.int .u8 (V / 256 / 256 / 256 / 256 / 256 % 256),.int .u8 (V / 256 / 256 / 256 / 256 % 256),.int .u8 (V / 256 / 256 / 256 % 256),.int .u8 (V / 256 / 256 % 256),.int .u8 (V / 256 % 256),.int .u8 (V % 256),.int .u8 (0),.int .u8 (0)]:=by
 simp[Bc,Cj];omega
theorem Yu(s:By)(w:E)(hs:s.size≤1048576):Calls prog 29 #[S s,I 6] w λe w'=>e=H (G (Bc (Cd s.data.toList) 6))∧
 (w.alloc (O (Bc (Cd s.data.toList) 6) 67)).alloc (O (Bc (Cd s.data.toList) 6) 67)=w':=by
 obtain⟨E0,K6⟩:=Hh s.data.toList;generalize hV:Cd s.data.toList=V at *;have HV:Hd (Cd s.data.toList=V):=hV;clear hV;rw[cells8_6];go_enter func29,ntmps29;go_wp2
 go_loop [5,6,11] (λv _ i=>∃k:X,k≤s.size∧i=I k∧v=.int .u64 (Cd (s.data.toList.take k))) (λ_ _ i=>s.size-(intOf i).toNat)
 case atStart=>exact⟨0,Nat.zero_le _,rfl,rfl⟩
 case round=>
  obtain⟨k,hk,rfl,rfl⟩:=hrel
  by_cases au:k<s.size
  ·exact qar
  ·rw[show s.data.toList.take k=s.data.toList from List.take_of_length_le qj]
   rw[HV.o];go_wp2;refine wp_loop_rounds 7 ?_
   iterate 7 (rw[rounds_succ];go_wp2)
   exact bR (v:=G #[.int .u8 (V / 256 / 256 / 256 / 256 / 256 % 256),.int .u8 (V / 256 / 256 / 256 / 256 % 256),.int .u8 (V / 256 / 256 / 256 % 256),.int .u8 (V / 256 / 256 % 256),.int .u8 (V / 256 % 256),.int .u8 (V % 256),.int .u8 (0),.int .u8 (0)]) qbd rfl ⟨rfl,rfl⟩
theorem cells8_7(V:Int):Bc V 7=#[.int .u8 (V / 256 / 256 / 256 / 256 / 256 / 256 % 256),.int .u8 (V / 256 / 256 / 256 / 256 / 256 % 256),.int .u8 (V / 256 / 256 / 256 / 256 % 256),.int .u8 (V / 256 / 256 / 256 % 256),.int .u8 (V / 256 / 256 % 256),.int .u8 (V / 256 % 256),.int .u8 (V % 256),.int .u8 (0)]:=by
 simp[Bc,Cj];omega
theorem Yt(s:By)(w:E)(hs:s.size≤1048576):Calls prog 29 #[S s,I 7] w λe w'=>e=H (G (Bc (Cd s.data.toList) 7))∧
 (w.alloc (O (Bc (Cd s.data.toList) 7) 67)).alloc (O (Bc (Cd s.data.toList) 7) 67)=w':=by
 obtain⟨E0,K6⟩:=Hh s.data.toList;generalize hV:Cd s.data.toList=V at *;have HV:Hd (Cd s.data.toList=V):=hV;clear hV;rw[cells8_7];go_enter func29,ntmps29;go_wp2
 go_loop [5,6,11] (λv _ i=>∃k:X,k≤s.size∧i=I k∧v=.int .u64 (Cd (s.data.toList.take k))) (λ_ _ i=>s.size-(intOf i).toNat)
 case atStart=>exact⟨0,Nat.zero_le _,rfl,rfl⟩
 case round=>
  obtain⟨k,hk,rfl,rfl⟩:=hrel
  by_cases au:k<s.size
  ·exact qar
  ·rw[show s.data.toList.take k=s.data.toList from List.take_of_length_le qj]
   rw[HV.o];go_wp2;refine wp_loop_rounds 8 ?_
   iterate 8 (rw[rounds_succ];go_wp2)
   exact bR (v:=G #[.int .u8 (V / 256 / 256 / 256 / 256 / 256 / 256 % 256),.int .u8 (V / 256 / 256 / 256 / 256 / 256 % 256),.int .u8 (V / 256 / 256 / 256 / 256 % 256),.int .u8 (V / 256 / 256 / 256 % 256),.int .u8 (V / 256 / 256 % 256),.int .u8 (V / 256 % 256),.int .u8 (V % 256),.int .u8 (0)]) qbd rfl ⟨rfl,rfl⟩
theorem cells8_8(V:Int)(h1:0≤V)(h2:V<18446744073709551616):Bc V 8=#[.int .u8 (V / 256 / 256 / 256 / 256 / 256 / 256 / 256),.int .u8 (V / 256 / 256 / 256 / 256 / 256 / 256 % 256),.int .u8 (V / 256 / 256 / 256 / 256 / 256 % 256),.int .u8 (V / 256 / 256 / 256 / 256 % 256),.int .u8 (V / 256 / 256 / 256 % 256),.int .u8 (V / 256 / 256 % 256),.int .u8 (V / 256 % 256),.int .u8 (V % 256)]:=by
 simp[Bc,Cj];omega
theorem Ys(s:By)(w:E)(hs:s.size≤1048576):Calls prog 29 #[S s,I 8] w λe w'=>e=H (G (Bc (Cd s.data.toList) 8))∧
 (w.alloc (O (Bc (Cd s.data.toList) 8) 67)).alloc (O (Bc (Cd s.data.toList) 8) 67)=w':=by
 obtain⟨E0,K6⟩:=Hh s.data.toList;generalize hV:Cd s.data.toList=V at *;have HV:Hd (Cd s.data.toList=V):=hV;clear hV;rw[cells8_8 V E0 K6];go_enter func29,ntmps29;go_wp2
 go_loop [5,6,11] (λv _ i=>∃k:X,k≤s.size∧i=I k∧v=.int .u64 (Cd (s.data.toList.take k))) (λ_ _ i=>s.size-(intOf i).toNat)
 case atStart=>exact⟨0,Nat.zero_le _,rfl,rfl⟩
 case round=>
  obtain⟨k,hk,rfl,rfl⟩:=hrel
  by_cases au:k<s.size
  ·exact qar
  ·rw[show s.data.toList.take k=s.data.toList from List.take_of_length_le qj]
   rw[HV.o];go_wp2;refine wp_loop_rounds 9 ?_
   iterate 9 (rw[rounds_succ];go_wp2)
   exact bR (v:=G #[.int .u8 (V / 256 / 256 / 256 / 256 / 256 / 256 / 256),.int .u8 (V / 256 / 256 / 256 / 256 / 256 / 256 % 256),.int .u8 (V / 256 / 256 / 256 / 256 / 256 % 256),.int .u8 (V / 256 / 256 / 256 / 256 % 256),.int .u8 (V / 256 / 256 / 256 % 256),.int .u8 (V / 256 / 256 % 256),.int .u8 (V / 256 % 256),.int .u8 (V % 256)]) qbd rfl ⟨rfl,rfl⟩
theorem Uq(s:By)(n:X)(w:E)(hs:s.size≤1048576)(h1:1≤n)(h2:n≤8):Calls prog 29 #[S s,I n] w λe w'=>e=H (G (Bc (Cd s.data.toList) n))∧
 (w.alloc (O (Bc (Cd s.data.toList) n) 67)).alloc (O (Bc (Cd s.data.toList) n) 67)=w':=by
 rcases(show n=1∨n=2∨n=3∨n=4∨n=5∨n=6∨n=7∨n=8 from qg)with rfl|rfl|rfl|rfl|rfl|rfl|rfl|rfl
 ·exact Yz s w hs
 ·exact Yy s w hs
 ·exact Yx s w hs
 ·exact Yw s w hs
 ·exact Yv s w hs
 ·exact Yu s w hs
 ·exact Yt s w hs
 ·exact Ys s w hs
open Go.RowKit
theorem slice8(n:X)(h2:n≤8)(a:Addr)(w:E):(Instr.sliceAt 67 (.pointer (M a)) N (M (I n)) N).run prog w=.ok (J (M a) n 8) w:=by
 have hl:prog.arrayLen 67=8:=qk;rw[run_sliceAt_array_h w 67 a qk .i64 n qg (by rw[hl];omega),hl];simp[go_sem]
theorem Up(s:By)(n:X)(V:Int)(w:E)(HV:Hd (Cd s.data.toList=V))(hs:s.size≤1048576)(h1:1≤n)(h2:n≤8):Calls prog 29 #[S s,I n] w λe w'=>e=H (G #[.int .u8 (Cj V n 0),.int .u8 (Cj V n 1),.int .u8 (Cj V n 2),.int .u8 (Cj V n 3),.int .u8 (Cj V n 4),.int .u8 (Cj V n 5),.int .u8 (Cj V n 6),.int .u8 (Cj V n 7)])∧
 (w.alloc (O #[.int .u8 (Cj V n 0),.int .u8 (Cj V n 1),.int .u8 (Cj V n 2),.int .u8 (Cj V n 3),.int .u8 (Cj V n 4),.int .u8 (Cj V n 5),.int .u8 (Cj V n 6),.int .u8 (Cj V n 7)] 67)).alloc (O #[.int .u8 (Cj V n 0),.int .u8 (Cj V n 1),.int .u8 (Cj V n 2),.int .u8 (Cj V n 3),.int .u8 (Cj V n 4),.int .u8 (Cj V n 5),.int .u8 (Cj V n 6),.int .u8 (Cj V n 7)] 67)=w':=by
 have h:=Uq s n w hs h1 h2;rw[HV.o]at h;exact h
theorem Lm(s:By)(n:X)(w:E)(hs:s.size≤1048576)(h1:1≤n)(h2:n≤8):Calls prog 11 #[S s,I n] w λe w'=>e=H (S ⟨(Ho (Cd s.data.toList) n).toArray⟩)∧Bw w w':=by
 obtain⟨E0,K6⟩:=Hh s.data.toList;generalize hV:Cd s.data.toList=V at *;have HV:Hd (Cd s.data.toList=V):=hV;clear hV
 have hcv:(convert 22 9 (J (p_ (w.heap.size+1+1)) n 8)).run prog (((w.alloc (O (Bc V n) 67)).alloc (O (Bc V n) 67)).alloc (O (Bc V n) 67))=.ok (S ⟨(Ho V n).toArray⟩) (((w.alloc (O (Bc V n) 67)).alloc (O (Bc V n) 67)).alloc (O (Bc V n) 67)):=by
  have:=run_convert_bytes_back (P:=prog) (((w.alloc (O (Bc V n) 67)).alloc (O (Bc V n) 67)).alloc (O (Bc V n) 67)) 22 9 5 ⟨w.heap.size+1+1,0,N⟩ 8 (Ho V n) underlying22 underlying5 underlying9 (λt ht=>by
   rw[←Qbg V E0 n t ht];have hn:t<n:=by simpa [Gd] using ht
   rcases(show t=0∨t=1∨t=2∨t=3∨t=4∨t=5∨t=6∨t=7 from qg)with rfl|rfl|rfl|rfl|rfl|rfl|rfl|rfl<;>simp[Bc,Addr.add,go_sem])
  rwa [Gd]at this
 simp only[Bc]at hcv;have hsl:=slice8 n h2;go_enter func11,ntmps11
 go_wp2_with (first|(go_at_call 28;refine(Kw _ _ qg qg).mono ?_;rintro e w' ⟨rfl,rfl⟩)|(go_at_call 29;refine(Up s n V _ HV hs h1 h2).mono ?_;rintro e w' ⟨rfl,rfl⟩))
 go_ret;exact⟨rfl,((aN _ _).alloc qi _).alloc qj _⟩
end Go.Proofs.YtoihflimijabjaaGreatDoor
