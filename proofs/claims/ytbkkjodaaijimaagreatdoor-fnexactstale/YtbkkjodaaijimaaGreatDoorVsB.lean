import Derived.Test.YtbkkjodaaijimaaGreatDoorEdD
namespace Go.Proofs.YtbkkjodaaijimaaGreatDoor
open Value renaming slice->J,string->S,bool->F,agg->G
open Option renaming some->M,none->N
open Obj renaming cells->O
open Go renaming Value->Z,World->E
open Ending renaming returned->H
open _root_ renaming List->L,Nat->X
set_option maxHeartbeats 4000000
set_option maxRecDepth 100000
open _root_.Go.Proofs.Tryz Go.RowKit
set_option linter.unusedVariables false
set_option linter.unusedSimpArgs false
variable {w w':E} {a:Option Addr} {rs:L T3} {n:X}
def hstep(v c:Int):Int:=IntKind.u64.wrap (bits BinOp.xor IntKind.u64 v (IntKind.u64.wrap c)*1099511628211)
def Ci(l:L UInt8):Int:=l.foldl (λv c=>hstep v c.toNat) 14695981039346656037
theorem hash_snoc(l:L UInt8)(c:UInt8):Ci (l++[c])=hstep (Ci l) c.toNat:=by simp[Ci,List.foldl_append]
theorem Zn(x:Int):0≤IntKind.u64.wrap x∧IntKind.u64.wrap x<18446744073709551616:=by
 have e:IntKind.u64.wrap x=x % 2 ^ 64:=rfl;rw[e];omega
theorem Ik(l:L UInt8):0≤Ci l∧Ci l<18446744073709551616:=by
 unfold Ci
 rcases List.eq_nil_or_concat l with rfl|⟨l',c,rfl⟩
 ·simp
 ·rw[List.concat_eq_append,List.foldl_append];exact Zn _
def dig(V:Int)(k:X):UInt8:=UInt8.ofNat ((V / 256 ^ k).toNat % 256)
def Ib(V:Int):X→L UInt8
 | 0=>[]
 | k+1=>dig V k::Ib V k
theorem Gr(V:Int):∀k,(Ib V k).length=k
 | 0=>rfl
 | k+1=>by simp[Ib,Gr V k]
theorem div_bd(V:Int)(k:X)(h:0≤V)(h2:V<18446744073709551616):0≤V / 256 ^ k∧V / 256 ^ k<18446744073709551616:=by
 have hp:(0:Int)<256 ^ k:=Int.pow_pos qb;exact⟨Int.ediv_nonneg h (Int.le_of_lt hp),Int.lt_of_le_of_lt (Int.ediv_le_self _ h) h2⟩
theorem Xb(V:Int)(h:0≤V)(k:X):((dig V k).toNat:Int)=V / 256 ^ k % 256:=by
 have:0≤V / 256 ^ k:=Int.ediv_nonneg h (Int.le_of_lt (Int.pow_pos qb));unfold dig;rw[UInt8.toNat_ofNat'];omega
theorem div_succ(V:Int)(k:X):V / 256 ^ (k+1)=V / 256 ^ k / 256:=by
 rw[Int.pow_succ,Int.ediv_ediv_of_nonneg (Int.le_of_lt (Int.pow_pos qb))]
def Ju(V:Int)(k:X):L Z:=(Ib V k).map λb=>Value.int .u8 b.toNat
theorem Vy(V:Int)(k:X):(Ju V k).length=k:=by simp[Ju,Gr]
theorem dcells_succ(V:Int)(h:0≤V)(k:X):Ju V (k+1)=[Value.int .u8 (V / 256 ^ k % 256)]++Ju V k:=by
 simp[Ju,Ib,Xb V h]
theorem dcells_one(V:Int)(k:X):∀u∈Ju V k,u.oneCell'=true:=by
 intro u hu;obtain⟨_,_,rfl⟩:=List.mem_map.1 hu;rfl
theorem take_snocV(s:By)(k:X)(h:k<s.size):s.data.toList.take (k+1)=s.data.toList.take k++[s[k]]:=by
 rw[List.take_succ_eq_append_getElem qar];rfl
def Cq(V:Int)(n j:X):Int:=if j<n then V / 256 ^ (n-1-j) % 256 else 0
def Be(V:Int)(n:X):Array Z:=
 #[.int .u8 (Cq V n 0),.int .u8 (Cq V n 1),.int .u8 (Cq V n 2),.int .u8 (Cq V n 3),.int .u8 (Cq V n 4),.int .u8 (Cq V n 5),.int .u8 (Cq V n 6),.int .u8 (Cq V n 7)]
theorem digs_get(V:Int):∀(n j:X)(h:j<(Ib V n).length),(Ib V n)[j]=dig V (n-1-j)
 | 0,j,h=>by simp[Ib]at h
 | n+1,0,h=>by simp[Ib]
 | n+1,j+1,h=>by
   (have h':j<(Ib V n).length:=by simpa [Ib] using h);have:=digs_get V n j h';simp only[Ib,List.getElem_cons_succ,this];congr 1;omega
theorem cell8_digs(V:Int)(hV:0≤V)(n j:X)(h:j<(Ib V n).length):Value.int .u8 (Cq V n j)=.int .u8 ((Ib V n)[j].toNat:Int):=by
 have hn:j<n:=by simpa [Gr] using h
 rw[digs_get,Xb V hV,Cq,if_pos hn]
theorem Tryz.info5:(prog.info? 5).map (λi=>(i.zero,i.size,i.bytes))=M (M (.int .u8 0),1,1):=qi
theorem Kk(n:Int)(w:E)(h1:1≤n)(h2:n≤8):Calls prog 57 #[I n] w λe w'=>e=H (F true)∧w=w':=by
 exact qfb
theorem l1Width_no(n:Int)(w:E)(h:n<1∨8<n):Calls prog 57 #[I n] w λe w'=>e=H (F false)∧w=w':=by
 rcases h with h|h
 ·have h':decide (1≤n)=false:=qh
  exact qfb
 ·have h':1≤n:=qb
  have h'':decide (n≤8)=false:=qh;exact qfb
theorem Jl(n:Int)(w:E)(h1:1≤n)(h2:n≤8):Calls prog 137 #[I n] w λe w'=>e=H (F true)∧w=w':=by
 exact qfa
theorem Ux(n:Int)(w:E)(h:n<1∨8<n):Calls prog 137 #[I n] w λe w'=>e=H (F false)∧w=w':=by
 rcases h with h|h
 ·have h':decide (1≤n)=false:=qh
  exact qfa
 ·have h':1≤n:=qb
  have h'':decide (n≤8)=false:=qh;exact qfa
theorem Ya{wr w1:E}{V:Int}{j:X}{v':Z}(hV:0≤V)(cz:w.heap.size≤wr.heap.size)(am:Bw w wr)(au:w1.ownsRow w.heap.size 5 1 v' (1+j) ([Value.int .u8 (V / 256 ^ j % 256)]++Ju V j))(ae:(wr.alloc (O #[Value.int .u8 (V / 256 ^ j % 256)] 5)).grownBy w1 (Value.slice (p_ wr.heap.size) 1 1).ownBlock)(cu:v'=nS↔Value.slice (p_ wr.heap.size) 1 1=nS∧j=0):∃g cap:X,v'=J (p_ g) (j+1) cap∧w1.ownsRow w.heap.size 5 1 (J (p_ g) (j+1) cap) (j+1) (Ju V (j+1))∧Bw w w1:=by
 rw[←dcells_succ V hV,Nat.add_comm 1 j]at au;have hb:Bw w w1:=(am.alloc cz _).grown ae qh (by intro k hk;simp[Value.ownBlock]at hk;omega);have h2:=au.2
 rcases h2 with⟨h,_⟩|⟨g,cap,cur,hv,_⟩
 ·have:=cu.1 h;simp at this
 ·subst hv;exact⟨g,cap,rfl,au,hb⟩
theorem Fo(s:By)(n:X)(w:E)(hs:s.size≤1048576)(h1:1≤n)(h2:n≤8):Calls prog 58 #[S s,I n] w λe w'=>e=H (S ⟨(Ib (Ci s.data.toList) n).toArray⟩)∧Bw w w':=by
 obtain⟨i0,hi,bq,bg,bv⟩:=info_parts Tryz.info5;obtain⟨N5,X9⟩:=Ik s.data.toList;generalize hV:Ci s.data.toList=V at *;have HV:Hd (Ci s.data.toList=V):=hV;clear hV;go_enter func58,ntmps58
 go_wp2_with (first|(go_at_call 57;refine(Kk _ _ qb qb).mono ?_;rintro e w' ⟨rfl,rfl⟩))
 go_loop [5,6] (λv i=>∃k:X,k≤s.size∧i=I k∧v=.int .u64 (Ci (s.data.toList.take k))) (λ_ i=>s.size-(intOf i).toNat)
 case atStart=>exact⟨0,Nat.zero_le _,rfl,rfl⟩
 case round=>
  obtain⟨k,hk,rfl,rfl⟩:=hrel
  by_cases aj:k<s.size
  ·exact qao
  ·rw[show s.data.toList.take k=s.data.toList from List.take_of_length_le qh]
   rw[HV.o];go_wp2
   go_loopw [5,7,8] (λv o i wr=>∃k:X,∃g cap:X,k≤n∧i=I k∧v=.int .u64 (V / 256 ^ k)∧o=J (p_ g) k cap∧
    wr.ownsRow w.heap.size 5 1 (J (p_ g) k cap) k (Ju V k)∧Bw w wr)
    (λ_ _ i _=>n-(intOf i).toNat)
   case atStart=>
    refine⟨0,w.heap.size,0,Nat.zero_le _,rfl,qg,rfl,?_,aN _ _⟩;exact World.ownsRow_lit w #[] 0 (Nat.le_refl _) qm qg
   case round=>
    obtain⟨j,g,cap,hj,rfl,rfl,rfl,ah,am⟩:=hrel;obtain⟨hd1,hd2⟩:=div_bd V j N5 X9;have cz:=am.size
    by_cases hjn:j<n
    ·have hnew:=World.ownsRow_lit (base:=w.heap.size) (e:=5) (size:=1) wr #[Value.int .u8 (V / 256 ^ j % 256)] 1 cz qm qg
     have ir:=(ah.alloc (O #[Value.int .u8 (V / 256 ^ j % 256)] 5)).cells (g:=g) rfl
     go_wp2_with (first|(at_builtin;refine wpList_append_own _ rfl (.tmp 34) (.tmp 35) 110 rfl w.heap.size 5 i0 (.int .u8 0) 1 1 underlying110 hi bq bg bv rfl qd _ _ _ rfl hnew ⟨g,0,N⟩ j cap (Ju V j) rfl (by simp[Vy]) ir (dcells_one V j) qm qb qh ?_;intro v' w1 au ae cu;obtain⟨g',ai,L9,R⟩:=Ya N5 cz am au ae cu;clear au ae cu hnew ir ah am;rw[L9];clear L9))
     go_roundw
     case rel=>exact⟨j+1,g',ai,qb,qj,by rw[div_succ],rfl,R.1,R.2⟩
     case measure=>simp[intOf];omega
    ·have ej:j=n:=qb
     have hcv:(convert 110 9 (J (p_ g) j cap)).run prog wr=.ok (S ⟨(Ib V j).toArray⟩) wr:=by
      have:=run_convert_bytes_back (P:=prog) wr 110 9 5 ⟨g,0,N⟩ cap (Ib V j) underlying110 underlying5 underlying9 (λt ht=>ah.cells rfl t _ (by rw[Ju,List.getElem?_map,Ix ht];rfl))
      rwa [Gr]at this
     have Hej:Hd (j=n):=ej;clear ej;go_wp2;go_ret;exact⟨by rw[Hej.o];rfl,am⟩
theorem cells8_1(V:Int):Be V 1=#[.int .u8 (V % 256),.int .u8 (0),.int .u8 (0),.int .u8 (0),.int .u8 (0),.int .u8 (0),.int .u8 (0),.int .u8 (0)]:=by
 simp[Be,Cq]
theorem sumBytes_1(s:By)(w:E)(hs:s.size≤1048576):Calls prog 172 #[S s,I 1] w λe w'=>e=H (G (Be (Ci s.data.toList) 1))∧
 (w.alloc (O (Be (Ci s.data.toList) 1) 251)).alloc (O (Be (Ci s.data.toList) 1) 251)=w':=by
 obtain⟨N5,X9⟩:=Ik s.data.toList;generalize hV:Ci s.data.toList=V at *;have HV:Hd (Ci s.data.toList=V):=hV;clear hV;rw[cells8_1];go_enter func172,ntmps172;go_wp2
 go_loop [5,6,11] (λv _ i=>∃k:X,k≤s.size∧i=I k∧v=.int .u64 (Ci (s.data.toList.take k))) (λ_ _ i=>s.size-(intOf i).toNat)
 case atStart=>exact⟨0,Nat.zero_le _,rfl,rfl⟩
 case round=>
  obtain⟨k,hk,rfl,rfl⟩:=hrel
  by_cases aj:k<s.size
  ·exact qao
  ·rw[show s.data.toList.take k=s.data.toList from List.take_of_length_le qh]
   rw[HV.o];go_wp2;refine wp_loop_rounds 2 ?_
   iterate 2 (rw[rounds_succ];go_wp2)
   exact bR (v:=G #[.int .u8 (V % 256),.int .u8 (0),.int .u8 (0),.int .u8 (0),.int .u8 (0),.int .u8 (0),.int .u8 (0),.int .u8 (0)]) qaz rfl ⟨rfl,rfl⟩
theorem cells8_2(V:Int):Be V 2=#[.int .u8 (V / 256 % 256),.int .u8 (V % 256),.int .u8 (0),.int .u8 (0),.int .u8 (0),.int .u8 (0),.int .u8 (0),.int .u8 (0)]:=by
 simp[Be,Cq]
theorem sumBytes_2(s:By)(w:E)(hs:s.size≤1048576):Calls prog 172 #[S s,I 2] w λe w'=>e=H (G (Be (Ci s.data.toList) 2))∧
 (w.alloc (O (Be (Ci s.data.toList) 2) 251)).alloc (O (Be (Ci s.data.toList) 2) 251)=w':=by
 obtain⟨N5,X9⟩:=Ik s.data.toList;generalize hV:Ci s.data.toList=V at *;have HV:Hd (Ci s.data.toList=V):=hV;clear hV;rw[cells8_2];go_enter func172,ntmps172;go_wp2
 go_loop [5,6,11] (λv _ i=>∃k:X,k≤s.size∧i=I k∧v=.int .u64 (Ci (s.data.toList.take k))) (λ_ _ i=>s.size-(intOf i).toNat)
 case atStart=>exact⟨0,Nat.zero_le _,rfl,rfl⟩
 case round=>
  obtain⟨k,hk,rfl,rfl⟩:=hrel
  by_cases aj:k<s.size
  ·exact qao
  ·rw[show s.data.toList.take k=s.data.toList from List.take_of_length_le qh]
   rw[HV.o];go_wp2;refine wp_loop_rounds 3 ?_
   iterate 3 (rw[rounds_succ];go_wp2)
   exact bR (v:=G #[.int .u8 (V / 256 % 256),.int .u8 (V % 256),.int .u8 (0),.int .u8 (0),.int .u8 (0),.int .u8 (0),.int .u8 (0),.int .u8 (0)]) qaz rfl ⟨rfl,rfl⟩
theorem cells8_3(V:Int):Be V 3=#[.int .u8 (V / 256 / 256 % 256),.int .u8 (V / 256 % 256),.int .u8 (V % 256),.int .u8 (0),.int .u8 (0),.int .u8 (0),.int .u8 (0),.int .u8 (0)]:=by
 simp[Be,Cq];omega
theorem sumBytes_3(s:By)(w:E)(hs:s.size≤1048576):Calls prog 172 #[S s,I 3] w λe w'=>e=H (G (Be (Ci s.data.toList) 3))∧
 (w.alloc (O (Be (Ci s.data.toList) 3) 251)).alloc (O (Be (Ci s.data.toList) 3) 251)=w':=by
 obtain⟨N5,X9⟩:=Ik s.data.toList;generalize hV:Ci s.data.toList=V at *;have HV:Hd (Ci s.data.toList=V):=hV;clear hV;rw[cells8_3];go_enter func172,ntmps172;go_wp2
 go_loop [5,6,11] (λv _ i=>∃k:X,k≤s.size∧i=I k∧v=.int .u64 (Ci (s.data.toList.take k))) (λ_ _ i=>s.size-(intOf i).toNat)
 case atStart=>exact⟨0,Nat.zero_le _,rfl,rfl⟩
 case round=>
  obtain⟨k,hk,rfl,rfl⟩:=hrel
  by_cases aj:k<s.size
  ·exact qao
  ·rw[show s.data.toList.take k=s.data.toList from List.take_of_length_le qh]
   rw[HV.o];go_wp2;refine wp_loop_rounds 4 ?_
   iterate 4 (rw[rounds_succ];go_wp2)
   exact bR (v:=G #[.int .u8 (V / 256 / 256 % 256),.int .u8 (V / 256 % 256),.int .u8 (V % 256),.int .u8 (0),.int .u8 (0),.int .u8 (0),.int .u8 (0),.int .u8 (0)]) qaz rfl ⟨rfl,rfl⟩
theorem cells8_4(V:Int):Be V 4=#[.int .u8 (V / 256 / 256 / 256 % 256),.int .u8 (V / 256 / 256 % 256),.int .u8 (V / 256 % 256),.int .u8 (V % 256),.int .u8 (0),.int .u8 (0),.int .u8 (0),.int .u8 (0)]:=by
 simp[Be,Cq];omega
theorem sumBytes_4(s:By)(w:E)(hs:s.size≤1048576):Calls prog 172 #[S s,I 4] w λe w'=>e=H (G (Be (Ci s.data.toList) 4))∧
 (w.alloc (O (Be (Ci s.data.toList) 4) 251)).alloc (O (Be (Ci s.data.toList) 4) 251)=w':=by
 obtain⟨N5,X9⟩:=Ik s.data.toList;generalize hV:Ci s.data.toList=V at *;have HV:Hd (Ci s.data.toList=V):=hV;clear hV;rw[cells8_4];go_enter func172,ntmps172;go_wp2
 go_loop [5,6,11] (λv _ i=>∃k:X,k≤s.size∧i=I k∧v=.int .u64 (Ci (s.data.toList.take k))) (λ_ _ i=>s.size-(intOf i).toNat)
 case atStart=>exact⟨0,Nat.zero_le _,rfl,rfl⟩
 case round=>
  obtain⟨k,hk,rfl,rfl⟩:=hrel
  by_cases aj:k<s.size
  ·exact qao
  ·rw[show s.data.toList.take k=s.data.toList from List.take_of_length_le qh]
   rw[HV.o];go_wp2;refine wp_loop_rounds 5 ?_
   iterate 5 (rw[rounds_succ];go_wp2)
   exact bR (v:=G #[.int .u8 (V / 256 / 256 / 256 % 256),.int .u8 (V / 256 / 256 % 256),.int .u8 (V / 256 % 256),.int .u8 (V % 256),.int .u8 (0),.int .u8 (0),.int .u8 (0),.int .u8 (0)]) qaz rfl ⟨rfl,rfl⟩
theorem cells8_5(V:Int):Be V 5=#[.int .u8 (V / 256 / 256 / 256 / 256 % 256),.int .u8 (V / 256 / 256 / 256 % 256),.int .u8 (V / 256 / 256 % 256),.int .u8 (V / 256 % 256),.int .u8 (V % 256),.int .u8 (0),.int .u8 (0),.int .u8 (0)]:=by
 simp[Be,Cq];omega
theorem sumBytes_5(s:By)(w:E)(hs:s.size≤1048576):Calls prog 172 #[S s,I 5] w λe w'=>e=H (G (Be (Ci s.data.toList) 5))∧
 (w.alloc (O (Be (Ci s.data.toList) 5) 251)).alloc (O (Be (Ci s.data.toList) 5) 251)=w':=by
 obtain⟨N5,X9⟩:=Ik s.data.toList;generalize hV:Ci s.data.toList=V at *;have HV:Hd (Ci s.data.toList=V):=hV;clear hV;rw[cells8_5];go_enter func172,ntmps172;go_wp2
 go_loop [5,6,11] (λv _ i=>∃k:X,k≤s.size∧i=I k∧v=.int .u64 (Ci (s.data.toList.take k))) (λ_ _ i=>s.size-(intOf i).toNat)
 case atStart=>exact⟨0,Nat.zero_le _,rfl,rfl⟩
 case round=>
  obtain⟨k,hk,rfl,rfl⟩:=hrel
  by_cases aj:k<s.size
  ·exact qao
  ·rw[show s.data.toList.take k=s.data.toList from List.take_of_length_le qh]
   rw[HV.o];go_wp2;refine wp_loop_rounds 6 ?_
   iterate 6 (rw[rounds_succ];go_wp2)
   exact bR (v:=G #[.int .u8 (V / 256 / 256 / 256 / 256 % 256),.int .u8 (V / 256 / 256 / 256 % 256),.int .u8 (V / 256 / 256 % 256),.int .u8 (V / 256 % 256),.int .u8 (V % 256),.int .u8 (0),.int .u8 (0),.int .u8 (0)]) qaz rfl ⟨rfl,rfl⟩
theorem cells8_6(V:Int):Be V 6=#[.int .u8 (V / 256 / 256 / 256 / 256 / 256 % 256),.int .u8 (V / 256 / 256 / 256 / 256 % 256),.int .u8 (V / 256 / 256 / 256 % 256),.int .u8 (V / 256 / 256 % 256),.int .u8 (V / 256 % 256),.int .u8 (V % 256),.int .u8 (0),.int .u8 (0)]:=by
 simp[Be,Cq];omega
theorem sumBytes_6(s:By)(w:E)(hs:s.size≤1048576):Calls prog 172 #[S s,I 6] w λe w'=>e=H (G (Be (Ci s.data.toList) 6))∧
 (w.alloc (O (Be (Ci s.data.toList) 6) 251)).alloc (O (Be (Ci s.data.toList) 6) 251)=w':=by
 obtain⟨N5,X9⟩:=Ik s.data.toList;generalize hV:Ci s.data.toList=V at *;have HV:Hd (Ci s.data.toList=V):=hV;clear hV;rw[cells8_6];go_enter func172,ntmps172;go_wp2
 go_loop [5,6,11] (λv _ i=>∃k:X,k≤s.size∧i=I k∧v=.int .u64 (Ci (s.data.toList.take k))) (λ_ _ i=>s.size-(intOf i).toNat)
 case atStart=>exact⟨0,Nat.zero_le _,rfl,rfl⟩
 case round=>
  obtain⟨k,hk,rfl,rfl⟩:=hrel
  by_cases aj:k<s.size
  ·exact qao
  ·rw[show s.data.toList.take k=s.data.toList from List.take_of_length_le qh]
   rw[HV.o];go_wp2;refine wp_loop_rounds 7 ?_
   iterate 7 (rw[rounds_succ];go_wp2)
   exact bR (v:=G #[.int .u8 (V / 256 / 256 / 256 / 256 / 256 % 256),.int .u8 (V / 256 / 256 / 256 / 256 % 256),.int .u8 (V / 256 / 256 / 256 % 256),.int .u8 (V / 256 / 256 % 256),.int .u8 (V / 256 % 256),.int .u8 (V % 256),.int .u8 (0),.int .u8 (0)]) qaz rfl ⟨rfl,rfl⟩
theorem cells8_7(V:Int):Be V 7=#[.int .u8 (V / 256 / 256 / 256 / 256 / 256 / 256 % 256),.int .u8 (V / 256 / 256 / 256 / 256 / 256 % 256),.int .u8 (V / 256 / 256 / 256 / 256 % 256),.int .u8 (V / 256 / 256 / 256 % 256),.int .u8 (V / 256 / 256 % 256),.int .u8 (V / 256 % 256),.int .u8 (V % 256),.int .u8 (0)]:=by
 simp[Be,Cq];omega
theorem sumBytes_7(s:By)(w:E)(hs:s.size≤1048576):Calls prog 172 #[S s,I 7] w λe w'=>e=H (G (Be (Ci s.data.toList) 7))∧
 (w.alloc (O (Be (Ci s.data.toList) 7) 251)).alloc (O (Be (Ci s.data.toList) 7) 251)=w':=by
 obtain⟨N5,X9⟩:=Ik s.data.toList;generalize hV:Ci s.data.toList=V at *;have HV:Hd (Ci s.data.toList=V):=hV;clear hV;rw[cells8_7];go_enter func172,ntmps172;go_wp2
 go_loop [5,6,11] (λv _ i=>∃k:X,k≤s.size∧i=I k∧v=.int .u64 (Ci (s.data.toList.take k))) (λ_ _ i=>s.size-(intOf i).toNat)
 case atStart=>exact⟨0,Nat.zero_le _,rfl,rfl⟩
 case round=>
  obtain⟨k,hk,rfl,rfl⟩:=hrel
  by_cases aj:k<s.size
  ·exact qao
  ·rw[show s.data.toList.take k=s.data.toList from List.take_of_length_le qh]
   rw[HV.o];go_wp2;refine wp_loop_rounds 8 ?_
   iterate 8 (rw[rounds_succ];go_wp2)
   exact bR (v:=G #[.int .u8 (V / 256 / 256 / 256 / 256 / 256 / 256 % 256),.int .u8 (V / 256 / 256 / 256 / 256 / 256 % 256),.int .u8 (V / 256 / 256 / 256 / 256 % 256),.int .u8 (V / 256 / 256 / 256 % 256),.int .u8 (V / 256 / 256 % 256),.int .u8 (V / 256 % 256),.int .u8 (V % 256),.int .u8 (0)]) qaz rfl ⟨rfl,rfl⟩
theorem cells8_8(V:Int)(h1:0≤V)(h2:V<18446744073709551616):Be V 8=#[.int .u8 (V / 256 / 256 / 256 / 256 / 256 / 256 / 256),.int .u8 (V / 256 / 256 / 256 / 256 / 256 / 256 % 256),.int .u8 (V / 256 / 256 / 256 / 256 / 256 % 256),.int .u8 (V / 256 / 256 / 256 / 256 % 256),.int .u8 (V / 256 / 256 / 256 % 256),.int .u8 (V / 256 / 256 % 256),.int .u8 (V / 256 % 256),.int .u8 (V % 256)]:=by
 simp[Be,Cq];omega
theorem sumBytes_8(s:By)(w:E)(hs:s.size≤1048576):Calls prog 172 #[S s,I 8] w λe w'=>e=H (G (Be (Ci s.data.toList) 8))∧
 (w.alloc (O (Be (Ci s.data.toList) 8) 251)).alloc (O (Be (Ci s.data.toList) 8) 251)=w':=by
 obtain⟨N5,X9⟩:=Ik s.data.toList;generalize hV:Ci s.data.toList=V at *;have HV:Hd (Ci s.data.toList=V):=hV;clear hV;rw[cells8_8 V N5 X9];go_enter func172,ntmps172;go_wp2
 go_loop [5,6,11] (λv _ i=>∃k:X,k≤s.size∧i=I k∧v=.int .u64 (Ci (s.data.toList.take k))) (λ_ _ i=>s.size-(intOf i).toNat)
 case atStart=>exact⟨0,Nat.zero_le _,rfl,rfl⟩
 case round=>
  obtain⟨k,hk,rfl,rfl⟩:=hrel
  by_cases aj:k<s.size
  ·exact qao
  ·rw[show s.data.toList.take k=s.data.toList from List.take_of_length_le qh]
   rw[HV.o];go_wp2;refine wp_loop_rounds 9 ?_
   iterate 9 (rw[rounds_succ];go_wp2)
   exact bR (v:=G #[.int .u8 (V / 256 / 256 / 256 / 256 / 256 / 256 / 256),.int .u8 (V / 256 / 256 / 256 / 256 / 256 / 256 % 256),.int .u8 (V / 256 / 256 / 256 / 256 / 256 % 256),.int .u8 (V / 256 / 256 / 256 / 256 % 256),.int .u8 (V / 256 / 256 / 256 % 256),.int .u8 (V / 256 / 256 % 256),.int .u8 (V / 256 % 256),.int .u8 (V % 256)]) qaz rfl ⟨rfl,rfl⟩
theorem Xx(s:By)(n:X)(w:E)(hs:s.size≤1048576)(h1:1≤n)(h2:n≤8):Calls prog 172 #[S s,I n] w λe w'=>e=H (G (Be (Ci s.data.toList) n))∧
 (w.alloc (O (Be (Ci s.data.toList) n) 251)).alloc (O (Be (Ci s.data.toList) n) 251)=w':=by
 rcases(show n=1∨n=2∨n=3∨n=4∨n=5∨n=6∨n=7∨n=8 from qb)with rfl|rfl|rfl|rfl|rfl|rfl|rfl|rfl
 ·exact sumBytes_1 s w hs
 ·exact sumBytes_2 s w hs
 ·exact sumBytes_3 s w hs
 ·exact sumBytes_4 s w hs
 ·exact sumBytes_5 s w hs
 ·exact sumBytes_6 s w hs
 ·exact sumBytes_7 s w hs
 ·exact sumBytes_8 s w hs
theorem slice8(n:X)(h2:n≤8)(a:Addr)(w:E):(Instr.sliceAt 251 (.pointer (M a)) N (M (I n)) N).run prog w=.ok (J (M a) n 8) w:=by
 have hl:prog.arrayLen 251=8:=qi;rw[run_sliceAt_array_h w 251 a qi .i64 n qb (by rw[hl];omega),hl];simp[go_sem]
theorem Xw(s:By)(n:X)(V:Int)(w:E)(HV:Hd (Ci s.data.toList=V))(hs:s.size≤1048576)(h1:1≤n)(h2:n≤8):Calls prog 172 #[S s,I n] w λe w'=>e=H (G #[.int .u8 (Cq V n 0),.int .u8 (Cq V n 1),.int .u8 (Cq V n 2),.int .u8 (Cq V n 3),.int .u8 (Cq V n 4),.int .u8 (Cq V n 5),.int .u8 (Cq V n 6),.int .u8 (Cq V n 7)])∧
 (w.alloc (O #[.int .u8 (Cq V n 0),.int .u8 (Cq V n 1),.int .u8 (Cq V n 2),.int .u8 (Cq V n 3),.int .u8 (Cq V n 4),.int .u8 (Cq V n 5),.int .u8 (Cq V n 6),.int .u8 (Cq V n 7)] 251)).alloc (O #[.int .u8 (Cq V n 0),.int .u8 (Cq V n 1),.int .u8 (Cq V n 2),.int .u8 (Cq V n 3),.int .u8 (Cq V n 4),.int .u8 (Cq V n 5),.int .u8 (Cq V n 6),.int .u8 (Cq V n 7)] 251)=w':=by
 have h:=Xx s n w hs h1 h2;rw[HV.o]at h;exact h
theorem Ir(s:By)(n:X)(w:E)(hs:s.size≤1048576)(h1:1≤n)(h2:n≤8):Calls prog 156 #[S s,I n] w λe w'=>e=H (S ⟨(Ib (Ci s.data.toList) n).toArray⟩)∧Bw w w':=by
 obtain⟨N5,X9⟩:=Ik s.data.toList;generalize hV:Ci s.data.toList=V at *;have HV:Hd (Ci s.data.toList=V):=hV;clear hV
 have hcv:(convert 110 9 (J (p_ (w.heap.size+1+1)) n 8)).run prog (((w.alloc (O (Be V n) 251)).alloc (O (Be V n) 251)).alloc (O (Be V n) 251))=.ok (S ⟨(Ib V n).toArray⟩) (((w.alloc (O (Be V n) 251)).alloc (O (Be V n) 251)).alloc (O (Be V n) 251)):=by
  have:=run_convert_bytes_back (P:=prog) (((w.alloc (O (Be V n) 251)).alloc (O (Be V n) 251)).alloc (O (Be V n) 251)) 110 9 5 ⟨w.heap.size+1+1,0,N⟩ 8 (Ib V n) underlying110 underlying5 underlying9 (λt ht=>by
   rw[←cell8_digs V N5 n t ht];have hn:t<n:=by simpa [Gr] using ht
   rcases(show t=0∨t=1∨t=2∨t=3∨t=4∨t=5∨t=6∨t=7 from qb)with rfl|rfl|rfl|rfl|rfl|rfl|rfl|rfl<;>simp[Be,Addr.add,go_sem])
  rwa [Gr]at this
 simp only[Be]at hcv;have hsl:=slice8 n h2;go_enter func156,ntmps156
 go_wp2_with (first|(go_at_call 137;refine(Jl _ _ qb qb).mono ?_;rintro e w' ⟨rfl,rfl⟩)|(go_at_call 172;refine(Xw s n V _ HV hs h1 h2).mono ?_;rintro e w' ⟨rfl,rfl⟩))
 go_ret;exact⟨rfl,((aN _ _).alloc qg _).alloc qh _⟩



def Av(n:X)(s:By):By:=⟨(Ib (Ci s.data.toList) n).toArray⟩
def Ml(n:X)(g:G3):Prop:=Ar g.name∧g.sum.size=n
def Hk(n:X)(r:T3):Prop:=Au r.code=true∧r.out.size=n∧r.looks.length≤200∧∀i,i<r.looks.length→Ml n (gx r.looks i)
def Uk(n:X)(ts:L By):Prop:=ts.length≤5000∧(∀i,i<ts.length→(nx ts i).size≤2002)∧Fs (ts.map (Av n))
def Jy(n:X)(ts:L By)(rs:L T3):Prop:=Uk n ts∧rs.length≤2000∧∀i,i<rs.length→Hk n (qx rs i)
theorem Hb(n:X)(ts:L By)(i:X)(h:i<ts.length):nx (ts.map (Av n)) i=Av n (nx ts i):=by
 unfold nx;exact qkz
theorem Uj{b:Bool}{P:Prop}(h:b=true↔P):(P∧b=true)∨(¬ P∧b=false):=by
 cases b
 ·exact Or.inr ⟨λp=>absurd (h.2 p) qg,rfl⟩
 ·exact Or.inl ⟨h.1 rfl,rfl⟩
structure Wd (w:E) (a:Option Addr) (is:L I3) (la:Option Addr) (gs:L G3):Prop where
 rc:Bu w a is
 rg:Fr w la gs
 lc:is.length≤1048576
 lg:gs.length≤1048576
 xc:∀i,(ix is i).text.size≤maxLen
 ng:∀i,(gx gs i).name.size≤maxLen
 sg:∀i,(gx gs i).sum.size≤maxLen
theorem Rq(a la:Option Addr)(cap lc:X)(is:L I3)(gs:L G3)(out:By)(n:X)(w:E)(hT:Kd w)(h8:n≤8)(h:Wd w a is la gs)(ho:out.size≤maxLen):Calls prog 155 #[G #[J a is.length cap,J la gs.length lc,S out],I n] w λe w'=>Bw w w'∧∃b,e=H (F b)∧(b=true↔Hk n ⟨is,gs,out⟩):=by
 have ak:Bw w (w.alloc (O #[J a is.length cap,J la gs.length lc,S out] 94)):=aN _ _;have k1:(w.alloc (O #[J a is.length cap,J la gs.length lc,S out] 94)).cell? ⟨w.heap.size,1,N⟩=M (J la gs.length lc):=qk;have k2:(w.alloc (O #[J a is.length cap,J la gs.length lc,S out] 94)).cell? ⟨w.heap.size,2,N⟩=M (S out):=qk;unfold maxLen at ho;have hlg:=h.lg;have HRG:Hd (Fr w la gs):=h.rg;have HNG:Hd (∀i,(gx gs i).name.size≤maxLen):=h.ng;have uw:Hd (∀i,(gx gs i).sum.size≤maxLen):=h.sg;obtain⟨v,ev⟩:=Aj (Au is);have EV:Hd (Au is=v):=ev;go_enter func155,ntmps155;go_wp2_with fail;refine(Kt a cap is _ (hT.bl ak) (h.rc.bl ak) h.lc h.xc).mono ?_;rintro e w1 ⟨af,rfl⟩;rw[ev];have bh:=bt ak af;have L5:=Aa af k1;have L4:=Aa af k2;clear ak af k1 k2 h ev;cases v
 ·exact qle
 ·by_cases h2:out.size=n
  ·have d2:((out.size:Int) != (n:Int))=false:=qh
   have H2:Hd (out.size=n):=h2;clear h2
   by_cases h3:200<gs.length
   ·exact qjg
   ·have d3:decide ((200:Int)<(gs.length:Int))=false:=qh
    go_wp2
    go_loopw [27] (λi wr=>∃k:X,k≤gs.length∧i=I k∧Hd (∀i,i<k→Ml n (gx gs i))∧Bw w wr) (λi _=>gs.length-(intOf i).toNat)
    case atStart=>exact⟨0,Nat.zero_le _,rfl,(λi hi=>by omega:∀i,i<0→Ml n (gx gs i)),bh⟩
    case round=>
     obtain⟨k,hk,rfl,HK,bc⟩:=hrel
     by_cases aj:k<gs.length
     ·obtain⟨b,off,rfl,c1,c2,c3⟩:=(HRG.o.bl bc) k aj
      have M4:=HNG.o k;have fx:=uw.o k;have HG1:Hd (Ml n (gx gs k)→∀i,i<k+1→Ml n (gx gs i)):=λhg=>Co HK.o hg;have P0:Hd (¬ Ml n (gx gs k)→¬ Hk n ⟨is,gs,out⟩):=λhg h=>hg (h.2.2.2 k aj);generalize gx gs k=g at *;unfold maxLen at M4 fx;clear L5 L4
      by_cases g1:Ar g.name
      ·have e1:=Cs g1
       by_cases g2:g.sum.size=n
       ·have d4:((g.sum.size:Int) != (n:Int))=false:=qh
        have HO:Hd (∀i,i<k+1→Ml n (gx gs i)):=HG1.o ⟨g1,g2⟩;clear g2
        go_wp2_with (first|(go_at_call 126;refine(Df g.name _ M4).mono ?_;rintro e w9 ⟨rfl,rfl⟩;rw[e1]))
        go_roundw
        case rel=>exact⟨k+1,qb,qj,HO.o,bc.alloc bc.size _⟩
        case measure=>simp[intOf];omega
       ·have d4:((g.sum.size:Int) != (n:Int))=true:=qh
        have HO:Hd (¬ Hk n ⟨is,gs,out⟩):=P0.o (λh=>g2 h.2);clear g2;exact qje
      ·have e1:=Cn g1
       have HO:Hd (¬ Hk n ⟨is,gs,out⟩):=P0.o (λh=>g1 h.1);exact qje
     ·have HO:Hd (Hk n ⟨is,gs,out⟩):=⟨EV.o,H2.o,by show gs.length≤200;omega,λi hi=>HK.o i (by simp only at hi;omega)⟩
      go_wp2;exact qfj
  ·exact qkd
structure QsIn (w:E) (a:Option Addr) (rs:L T3):Prop where
 rq:Lw w a rs
 ok:QsOk rs
 sm:Fk rs
theorem QsIn.bl(h:QsIn w a rs)(hb:Bw w w'):QsIn w' a rs:=⟨h.rq.bl hb,h.ok,h.sm⟩
theorem Pz(a:Option Addr)(cap:X)(rs:L T3)(n:X)(w:E)(hT:Kd w)(h8:n≤8)(h:QsIn w a rs):Calls prog 139 #[J a rs.length cap,I n] w λe w'=>Bw w w'∧∃b,e=H (F b)∧(b=true↔rs.length≤2000∧∀i,i<rs.length→Hk n (qx rs i)):=by
 have hl:=h.sm.1;have HQ:Hd (QsIn w a rs):=h;have HT:Hd (Kd w):=hT;clear h hT
 by_cases h1:2000<rs.length
 ·have d1:decide ((2000:Int)<(rs.length:Int))=true:=qh
  go_enter func139,ntmps139;go_wp2;go_ret;exact⟨Below.refl _ _,false,rfl,Ea (λh=>qb)⟩
 ·have d1:decide ((2000:Int)<(rs.length:Int))=false:=qh
  go_enter func139,ntmps139;go_wp2
  go_loopw [12] (λi wr=>∃k:X,k≤rs.length∧i=I k∧Hd (∀i,i<k→Hk n (qx rs i))∧Bw w wr) (λi _=>rs.length-(intOf i).toNat)
  case atStart=>exact⟨0,Nat.zero_le _,rfl,(λi hi=>by omega:∀i,i<0→Hk n (qx rs i)),Below.refl _ _⟩
  case round=>
   obtain⟨k,hk,rfl,HK,bc⟩:=hrel
   by_cases aj:k<rs.length
   ·have hq:=HQ.o.bl bc
    obtain⟨b,off,rfl,ca,cc,la,lc,c1,c2,c3,c4,c5⟩:=hq.rq k aj;have l7:Wd wr ca (qx rs k).code la (qx rs k).looks:=⟨c4,c5,(hq.sm.2 k aj).1,(hq.sm.2 k aj).2,hq.ok.xc k,hq.ok.ng k,hq.ok.sg k⟩;have hou:=hq.ok.so k;have HG1:Hd (Hk n (qx rs k)→∀i,i<k+1→Hk n (qx rs i)):=λhg=>Co HK.o hg;have P0:Hd (¬ Hk n (qx rs k)→¬ (rs.length≤2000∧∀i,i<rs.length→Hk n (qx rs i))):=λhg h=>hg (h.2 k aj);clear hq c4 c5;generalize qx rs k=x at *;obtain⟨xc,xl,xo⟩:=x;simp only at *;have pj:Hd (Wd wr ca xc la xl):=l7;clear l7;have ak:Bw wr (wr.alloc (O #[J ca xc.length cc,J la xl.length lc,S xo] 94)):=aN _ _;have hin2:Wd (wr.alloc (O #[J ca xc.length cc,J la xl.length lc,S xo] 94)) ca xc la xl:=⟨pj.o.rc.bl ak,pj.o.rg.bl ak,pj.o.lc,pj.o.lg,pj.o.xc,pj.o.ng,pj.o.sg⟩;have E0:Hd (Wd (wr.alloc (O #[J ca xc.length cc,J la xl.length lc,S xo] 94)) ca xc la xl):=hin2;clear hin2;go_wp2_with fail;refine(Rq ca la cc lc xc xl xo n _ ((HT.o.bl bc).bl ak) h8 E0.o hou).mono ?_;rintro e w2 ⟨ag,b,rfl,hb⟩;have be:=bt bc (bt ak ag)
    rcases Uj hb with⟨hg,rfl⟩|⟨hg,rfl⟩
    ·have HO:Hd (∀i,i<k+1→Hk n (qx rs i)):=HG1.o hg
     clear hb hg ak ag;go_wp2;go_roundw
     case rel=>exact⟨k+1,qb,qj,HO.o,be⟩
     case measure=>simp[intOf];omega
    ·have HO:Hd (¬ (rs.length≤2000∧∀i,i<rs.length→Hk n (qx rs i))):=P0.o hg
     clear hb hg ak ag;go_wp2;go_ret;exact⟨be,false,rfl,Ea HO.o⟩
   ·go_wp2
    go_ret;exact⟨bc,true,rfl,Gi ⟨qb,λi hi=>HK.o i qb⟩⟩
theorem Mt{B cap:X}{ss:L By}(hn:n=ss.length)(h:w.ownsRow B 9 1 (J a n cap) n (ss.map .string)):Cc w a ss:=by
 subst hn;intro i hi
 rcases h.2 with⟨hv,h0⟩|⟨g,ai,cur,hv,_⟩
 ·omega
 ·simp only[Value.slice.injEq]at hv
  obtain⟨rfl,_,_⟩:=hv;refine⟨g,0,rfl,?_⟩;rw[Nat.zero_add,h.cellAt i qb,List.getElem?_map,Ix hi,gG,Ix hi];rfl
theorem sumsOf_any(a:Option Addr)(cap:X)(ts:L By)(n:X)(w:E)(h1:1≤n)(h8:n≤8)(hc:Cc w a ts)(hl:ts.length≤1048576)(hs:∀i,i<ts.length→(nx ts i).size≤2002):Calls prog 140 #[J a ts.length cap,I n] w λe w'=>Bw w w'∧∃g:X,e=H (J (p_ g) ts.length ts.length)∧w.heap.size≤g∧w'.ownsRow w.heap.size 9 1 (J (p_ g) ts.length ts.length) ts.length ((ts.map (Av n)).map .string):=by
 have HC:Hd (Cc w a ts):=hc;have HS:Hd (∀i,i<ts.length→(nx ts i).size≤2002):=hs;clear hc hs;obtain⟨i0,hi,bq,bg,bv⟩:=info_parts Tryz.info9;obtain⟨ss,ess⟩:=Aj (ts.map (Av n));have ou:Hd (ss.length=ts.length):=by show ss.length=ts.length;rw[←ess,List.length_map]
 have od:Hd (∀i,i<ts.length→nx ss i=Av n (nx ts i)):=λi h=>by rw[←ess];exact Hb n ts i h
 rw[ess];clear ess;go_enter func140,ntmps140
 go_wp2_with (first|(at_make;refine wpList_make_full _ rfl (.tmp 9) (.tmp 9) 22 rfl w.heap.size 9 i0 (S ByteArray.empty) 1 underlying22 hi bq bg .i64 .i64 _ _ ts.length rfl rfl rfl rfl qan qm (Nat.le_refl _) ?_;intro w1 ah ae))
 rw[Pm]at ah;have fq:Bw w w1:=(Below.refl _ _).grown ae (Nat.le_refl _) qg;clear ae
 go_loopw [13] (λi wr=>∃k:X,k≤ts.length∧i=I k∧Hd (wr.ownsRow w.heap.size 9 1 (J (p_ w.heap.size) ts.length ts.length) ts.length (Ej ss k ss.length))∧Bw w wr) (λi _=>ts.length-(intOf i).toNat)
 case atStart=>exact⟨0,Nat.zero_le _,rfl,by show World.ownsRow _ _ _ _ _ _ _;rw[ou.o];simpa [Ej] using ah,fq⟩
 case round=>
  obtain⟨k,hk,rfl,HO,bc⟩:=hrel
  by_cases aj:k<ts.length
  ·obtain⟨b,off,rfl,c1⟩:=(HC.o.bl bc) k aj
   replace c1:wr.cell? ⟨b,off+k,N⟩=M (S (nx ts k)):=c1;have fx:=HS.o k aj;have HX:Hd (nx ss k=Av n (nx ts k)):=od.o k aj;generalize nx ts k=x at *;have hx0:x.size≤1048576:=qb;go_wp2_with fail;refine(Ir x n _ hx0 h1 h8).mono ?_;rintro e w2 ⟨rfl,ag⟩;obtain⟨q,eq⟩:=Aj ((⟨(Ib (Ci x.data.toList) n).toArray⟩:By));rw[eq];(have HQ:Hd (ss.getD k ByteArray.empty=q):=by show ss.getD k ByteArray.empty=q;have:=HX.o;unfold nx at this;rw[this,←eq];rfl);have ah:=Ab HO.o ag;have be:=bt bc ag;have hks:k<ss.length:=zo ou.o;have de:=ah.stored k (S (ss.getD k ByteArray.empty));rw[Ub ss k hks,HQ.o]at de;have bx:=ah.frozenAt k
   have hce:w2.cell? ⟨w.heap.size,k,N⟩=M ((Ej ss k ss.length)[k]'(by rw[Im ss k qb];exact hks)):=by
    rw[ah.cellAt k qb];exact Ix _
   generalize (Ej ss k ss.length)[k]'(by rw[Im ss k qb];exact hks)=old at hce;have X0:Bw w (w2.setCell ⟨w.heap.size,k,N⟩ (S q)):=be.setCell (Nat.le_refl _) _;have fh:Hd ((w2.setCell ⟨w.heap.size,k,N⟩ (S q)).ownsRow w.heap.size 9 1 (J (p_ w.heap.size) ts.length ts.length) ts.length (Ej ss (k+1) ss.length)):=de.1;clear ah bc ag de c1 eq;go_wp2;go_roundw
   case rel=>exact⟨k+1,qb,qj,fh.o,X0⟩
   case measure=>simp[intOf];omega
  ·obtain rfl:k=ts.length:=qb
   have yr:Hd (wr.ownsRow w.heap.size 9 1 (J (p_ w.heap.size) ts.length ts.length) ts.length (ss.map .string)):=by
    have:=HO.o;(have e:Ej ss ts.length ss.length=ss.map .string:=by rw[←ou.o];simp[Ej]);rw[e]at this;exact this
   go_wp2_with fail;go_ret;exact⟨bc,_,rfl,Nat.le_refl _,yr.o⟩
theorem Tc(a:Option Addr)(cap:X)(ts:L By)(w:E)(hc:Cc w a ts)(hl:ts.length≤1048576)(hs:∀i,(nx ts i).size≤maxLen):Calls prog 138 #[J a ts.length cap] w λe w'=>Bw w w'∧∃b,e=H (F b)∧(b=true↔ts.length≤5000∧∀i,i<ts.length→(nx ts i).size≤2002):=by
 have HC:Hd (Cc w a ts):=hc;have HS:Hd (∀i,(nx ts i).size≤maxLen):=hs;clear hc hs
 by_cases h2:5000<ts.length
 ·have d1:decide ((5000:Int)<(ts.length:Int))=true:=qh
  go_enter func138,ntmps138;go_wp2;go_ret;exact⟨Below.refl _ _,false,rfl,Ea (λh=>by have:=h.1;omega)⟩
 ·have d1:decide ((5000:Int)<(ts.length:Int))=false:=qh
  go_enter func138,ntmps138;go_wp2
  go_loopw [10] (λi wr=>∃(k:X),k≤ts.length∧i=I k∧Hd (∀i,i<k→(nx ts i).size≤2002)∧Bw w wr) (λi _=>ts.length-(intOf i).toNat)
  case atStart=>exact⟨0,Nat.zero_le _,rfl,(λi hi=>by omega:∀i,i<0→(nx ts i).size≤2002),Below.refl _ _⟩
  case round=>
   obtain⟨k,hk,rfl,HK,bc⟩:=hrel
   by_cases aj:k<ts.length
   ·obtain⟨b,off,rfl,c1⟩:=(HC.o.bl bc) k aj
    replace c1:wr.cell? ⟨b,off+k,N⟩=M (S (nx ts k)):=c1;have fx:=HS.o k
    by_cases h3:2002<(nx ts k).size
    ·have HN:Hd (¬ (ts.length≤5000∧∀i,i<ts.length→(nx ts i).size≤2002)):=λh=>by have:=h.2 k aj;omega
     exact qjb
    ·have du:Hd (∀i,i<k+1→(nx ts i).size≤2002):=Co HK.o qb
     generalize nx ts k=x at *;have d3:decide ((2002:Int)<(x.size:Int))=false:=qh;unfold maxLen at fx;go_wp2_with fail;go_roundw
     case rel=>exact⟨k+1,qb,qj,du.o,bc⟩
     case measure=>simp[intOf];omega
   ·have O3:Hd (ts.length≤5000∧∀i,i<ts.length→(nx ts i).size≤2002):=⟨qb,λi hi=>HK.o i qb⟩
    go_wp2_with fail;go_ret;exact⟨bc,true,rfl,Gi O3.o⟩
structure Nm (w:E) (ta:Option Addr) (ts:L By) (ra:Option Addr) (rs:L T3):Prop where
 st:Cc w ta ts
 lt:ts.length≤1048576
 xt:∀i,(nx ts i).size≤maxLen
 qs:QsIn w ra rs
theorem Nm.bl{ta ra:Option Addr}{ts:L By}(h:Nm w ta ts ra rs)(hb:Bw w w'):Nm w' ta ts ra rs:=⟨h.st.bl hb,h.lt,h.xt,h.qs.bl hb⟩
def Ke(n:Int)(ts:L By)(rs:L T3):Prop:=1≤n∧n≤8∧Jy n.toNat ts rs
theorem own_low{base wb e size:X}{v:Z}{xs:L Z}(h:w.ownsRow base e size v n xs)(hb:wb≤base):w.ownsRow wb e size v n xs:=by
 refine⟨h.1,?_⟩
 rcases h.2 with h2|⟨g,cap,cur,hv,hg,r⟩
 ·exact Or.inl h2
 ·exact Or.inr ⟨g,cap,cur,hv,Nat.le_trans hb hg,r⟩
theorem heap_at_new(w:E)(o:Obj):(w.alloc o).heap[w.heap.size]?=M o:=qeb
theorem alB(w:E)(o:Obj):Bw w (w.alloc o):=aN _ _
def Em(w:E)(g:X)(n:Int)(ta ra:Option Addr)(tl tc rl rc:X)(sv:Z):Prop:=w.heap[g]?=M (O #[I n,J ta tl tc,J ra rl rc,sv] 171 (0,0))
theorem Vl(n:Int)(ta ra:Option Addr)(tc rc:X)(ts:L By)(rs:L T3)(w:E)(hT:Kd w)(h:Nm w ta ts ra rs):Calls prog 116 #[G #[I n,J ta ts.length tc,J ra rs.length rc]] w λe w'=>Bw w w'∧((¬ Ke n ts rs∧∃v,e=H (.tuple #[v,F false]))∨(Ke n ts rs∧∃g sg,e=H (.tuple #[.pointer (p_ g),F true])∧Em w' g n ta ra ts.length tc rs.length rc (J (p_ sg) ts.length ts.length)∧Cc w' (p_ sg) (ts.map (Av n.toNat))∧w.heap.size≤g∧w'.ownsRow w.heap.size 9 1 (J (p_ sg) ts.length ts.length) ts.length ((ts.map (Av n.toNat)).map .string))):=by
 have ak:Bw w (w.alloc (O #[I n,J ta ts.length tc,J ra rs.length rc] 35)):=aN _ _;have k0:(w.alloc (O #[I n,J ta ts.length tc,J ra rs.length rc] 35)).cell? ⟨w.heap.size,0,N⟩=M (I n):=qk;have k1:(w.alloc (O #[I n,J ta ts.length tc,J ra rs.length rc] 35)).cell? ⟨w.heap.size,1,N⟩=M (J ta ts.length tc):=qk;have k2:(w.alloc (O #[I n,J ta ts.length tc,J ra rs.length rc] 35)).cell? ⟨w.heap.size,2,N⟩=M (J ra rs.length rc):=qk;have HI:Hd (Nm w ta ts ra rs):=h;have HT:Hd (Kd w):=hT;clear h hT
 by_cases hn:1≤n∧n≤8
 ·obtain⟨m,rfl⟩:=Int.eq_ofNat_of_zero_le (show 0≤n from qb)
  have h1:1≤m:=qb;have h8:m≤8:=qb;have HN:Hd (1≤(m:Int)∧(m:Int)≤8):=hn;clear hn;go_enter func116,ntmps116
  go_wp2_with (first|(go_at_call 137;refine(Jl _ _ qb qb).mono ?_;rintro e w9 ⟨rfl,rfl⟩))
  refine(Tc ta tc ts _ (HI.o.st.bl ak) HI.o.lt HI.o.xt).mono ?_;rintro e w1 ⟨af,b,rfl,hb⟩;have bh:=bt ak af;have S8:=Aa af k0;have L5:=Aa af k1;have L4:=Aa af k2
  rcases Uj hb with⟨hg,rfl⟩|⟨hg,rfl⟩
  ·have HG:Hd (ts.length≤5000∧∀i,i<ts.length→(nx ts i).size≤2002):=hg
   clear hb hg ak af k0 k1 k2;go_wp2_with fail;refine(Pz ra rc rs m _ (HT.o.bl bh) h8 (HI.o.qs.bl bh)).mono ?_;rintro e w2 ⟨ag,b,rfl,hb⟩;have be:=bt bh ag;have k20:=Aa ag S8;have k21:=Aa ag L5;have k22:=Aa ag L4
   rcases Uj hb with⟨hg,rfl⟩|⟨hg,rfl⟩
   ·have HR:Hd (rs.length≤2000∧∀i,i<rs.length→Hk m (qx rs i)):=hg
    have dp:Hd (∀W:E,Bw w W→Calls prog 140 #[J ta ts.length tc,I m] W λe w'=>Bw W w'∧∃g:X,e=H (J (p_ g) ts.length ts.length)∧W.heap.size≤g∧w'.ownsRow W.heap.size 9 1 (J (p_ g) ts.length ts.length) ts.length ((ts.map (Av m)).map .string)):=λW hW=>sumsOf_any ta tc ts m W h1 h8 (HI.o.st.bl hW) HI.o.lt HG.o.2;clear hb hg ag bh S8 L5 L4;go_wp2_with fail;have Gt:Bw w2 w2.drew:=(Below.refl _ _).drew
    go_region_held3 (λw'=>w'.cell? ⟨w.heap.size,0,N⟩=M (I m)∧w'.cell? ⟨w.heap.size,1,N⟩=M (J ta ts.length tc)∧w'.cell? ⟨w.heap.size,2,N⟩=M (J ra rs.length rc))
     (first|exact⟨k20,k21,k22⟩|(with_reducible exact⟨s0,s1,s2⟩)|exact⟨Aa (alB _ _) s0,Aa (alB _ _) s1,Aa (alB _ _) s2⟩)
     (first|(go_at_call 140;refine(dp.o _ be.drew).mono ?_;rintro e w3 ⟨ba,sg,rfl,hsg,how⟩;have s0:=Aa (bt Gt ba) k20;have s1:=Aa (bt Gt ba) k21;have s2:=Aa (bt Gt ba) k22))
    go_wp2_with fail;obtain⟨w4,e4⟩:=Aj (w3.alloc (O #[I m,J ta ts.length tc,J ra rs.length rc,J (p_ sg) ts.length ts.length] 171));(have co:Bw w3 w4:=by rw[←e4];exact alB _ _);(have K3:Hd (Em w4 w3.heap.size m ta ra ts.length tc rs.length rc (J (p_ sg) ts.length ts.length)):=by show Em _ _ _ _ _ _ _ _ _ _;rw[←e4];unfold Em;exact heap_at_new _ _);have fh:Hd (Cc w4 (p_ sg) (ts.map (Av m))):=(Mt (by rw[List.length_map]) how).bl co;have ii:Bw w w4:=bt (bt (bt be Gt) ba) co
    have je:Hd (∀W:E,Cc W (p_ sg) (ts.map (Av m))→Calls prog 120 #[J (p_ sg) ts.length ts.length] W λe w'=>Bw W w'∧∃b,e=H (F b)∧(b=true↔Fs (ts.map (Av m)))):=λW hW=>by
     have:=Oi (p_ sg) ts.length (ts.map (Av m)) W hW (by rw[List.length_map];exact HI.o.lt);rw[List.length_map]at this;exact this
    have HOW4:Hd (w4.ownsRow w.heap.size 9 1 (J (p_ sg) ts.length ts.length) ts.length ((ts.map (Av m)).map .string)):=Ab (own_low how (bt be Gt).size) co;have HG3:Hd (w.heap.size≤w3.heap.size):=(bt (bt be Gt) ba).size;rw[e4];clear e4 co how ba Gt hsg;refine(je.o _ fh.o).mono ?_;rintro e w5 ⟨cj,b,rfl,hb⟩;have yj:=bt ii cj
    have HSH5:Hd (Em w5 w3.heap.size m ta ra ts.length tc rs.length rc (J (p_ sg) ts.length ts.length)):=by
     have h4:=K3.o;unfold Em at h4;show _=_;rw[cj.block _ (by rcases Nat.lt_or_ge w3.heap.size w4.heap.size with h'|h';(focus exact h');rw[Array.getElem?_eq_none h']at h4;cases h4)];exact h4
    rcases Uj hb with⟨hg,rfl⟩|⟨hg,rfl⟩
    ·have HW:Hd (Ke m ts rs):=⟨HN.o.1,HN.o.2,⟨HG.o.1,HG.o.2,hg⟩,HR.o⟩
     clear hb hg;go_wp2_with fail;exact bR (results_tmp2 rfl _ _ _) rfl ⟨yj,Or.inr ⟨HW.o,_,sg,rfl,HSH5.o,fh.o.bl cj,HG3.o,Ab HOW4.o cj⟩⟩
    ·have R4:Hd (¬ Ke m ts rs):=λh=>hg h.2.2.1.2.2
     clear hb hg;go_wp2_with fail;exact bR (results_tmp2 rfl _ _ _) rfl ⟨yj,Or.inl ⟨R4.o,_,rfl⟩⟩
   ·have R4:Hd (¬ Ke m ts rs):=λh=>hg h.2.2.2
    clear hb hg;go_wp2_with fail;exact bR (results_tmp2 rfl _ _ _) rfl ⟨be,Or.inl ⟨R4.o,_,rfl⟩⟩
  ·have R4:Hd (¬ Ke m ts rs):=λh=>hg ⟨h.2.2.1.1,h.2.2.1.2.1⟩
   clear hb hg;go_wp2_with fail;exact bR (results_tmp2 rfl _ _ _) rfl ⟨bh,Or.inl ⟨R4.o,_,rfl⟩⟩
 ·have hn':n<1∨8<n:=qb
  have HN:Hd (¬ Ke n ts rs):=λh=>hn ⟨h.1,h.2.1⟩;clear hn;go_enter func116,ntmps116
  go_wp2_with (first|(go_at_call 137;refine(Ux _ _ hn').mono ?_;rintro e w9 ⟨rfl,rfl⟩))
  exact bR (results_tmp2 rfl _ _ _) rfl ⟨ak,Or.inl ⟨HN.o,_,rfl⟩⟩
end Go.Proofs.YtbkkjodaaijimaaGreatDoor
