import Derived.Test.YtfgoholldpeabaaGreatDoorTNLookS
namespace Go.Proofs.YtfgoholldpeabaaGreatDoor
set_option maxHeartbeats 400000
open _root_.Go.Proofs.Tryz Go.RowKit
set_option linter.unusedVariables false
set_option linter.unusedSimpArgs false
def hstep (v c:Int):Int:=IntKind.u64.wrap (bits BinOp.xor IntKind.u64 v (IntKind.u64.wrap c)*1099511628211)
def Cx (l:List UInt8):Int:=l.foldl (fun v c=>hstep v c.toNat) 14695981039346656037
theorem hash_snoc (l:List UInt8) (c:UInt8):Cx (l++[c])=hstep (Cx l) c.toNat:=by simp[Cx,List.foldl_append]
theorem Zv (x:Int):0 ≤ IntKind.u64.wrap x∧IntKind.u64.wrap x<18446744073709551616:=by
  have e:IntKind.u64.wrap x=x % 2 ^ 64:=rfl;rw[e];omega
theorem Hy (l:List UInt8):0 ≤ Cx l∧Cx l<18446744073709551616:=by
  unfold Cx
  rcases List.eq_nil_or_concat l with rfl|⟨l',c,rfl⟩
  · simp
  · rw[List.concat_eq_append,List.foldl_append];exact Zv _
def dig (V:Int) (k:Nat):UInt8:=UInt8.ofNat ((V / 256 ^ k).toNat % 256)
def Hm (V:Int):Nat→List UInt8
  | 0=>[]
  | k+1=>dig V k :: Hm V k
theorem Gh (V:Int):∀ k,(Hm V k).length=k
  | 0=>rfl
  | k+1=>by simp[Hm,Gh V k]
theorem div_bd (V:Int) (k:Nat) (h:0 ≤ V) (h2:V<18446744073709551616):0 ≤ V / 256 ^ k∧V / 256 ^ k<18446744073709551616:=by
  have hp:(0:Int)<256 ^ k:=Int.pow_pos qb;exact⟨Int.ediv_nonneg h (Int.le_of_lt hp),Int.lt_of_le_of_lt (Int.ediv_le_self _ h) h2⟩
theorem Xg (V:Int) (h:0 ≤ V) (k:Nat):((dig V k).toNat:Int)=V / 256 ^ k % 256:=by
  have:0 ≤ V / 256 ^ k:=Int.ediv_nonneg h (Int.le_of_lt (Int.pow_pos qb));unfold dig;rw[UInt8.toNat_ofNat'];omega
theorem div_succ (V:Int) (k:Nat):V / 256 ^ (k+1)=V / 256 ^ k / 256:=by
  rw[Int.pow_succ,Int.ediv_ediv_of_nonneg (Int.le_of_lt (Int.pow_pos qb))]
def Jo (V:Int) (k:Nat):List Value:=(Hm V k).map fun b=>Value.int .u8 b.toNat
theorem Wd (V:Int) (k:Nat):(Jo V k).length=k:=by simp[Jo,Gh]
theorem Qcd (V:Int) (h:0 ≤ V) (k:Nat):Jo V (k+1)=[Value.int .u8 (V / 256 ^ k % 256)]++Jo V k:=by
  simp[Jo,Hm,Xg V h]
theorem dcells_one (V:Int) (k:Nat):∀ u∈Jo V k,u.oneCell'=true:=by
  intro u hu;obtain⟨_,_,rfl⟩:=List.mem_map.1 hu;rfl
theorem take_snocV (s:By) (k:Nat) (h:k<s.size):s.data.toList.take (k+1)=s.data.toList.take k++[s[k]]:=by
  rw[List.take_succ_eq_append_getElem qas];rfl
def Cr (V:Int) (n j:Nat):Int:=if j<n then V / 256 ^ (n-1-j) % 256 else 0
def Bd (V:Int) (n:Nat):Array Value:=
  #[.int .u8 (Cr V n 0),.int .u8 (Cr V n 1),.int .u8 (Cr V n 2),.int .u8 (Cr V n 3),.int .u8 (Cr V n 4),.int .u8 (Cr V n 5),.int .u8 (Cr V n 6),.int .u8 (Cr V n 7)]
theorem Qcc (V:Int):∀(n j:Nat) (h:j<(Hm V n).length),(Hm V n)[j]=dig V (n-1-j)
  | 0,j,h=>by simp[Hm] at h
  | n+1,0,h=>by simp[Hm]
  | n+1,j+1,h=>by
    (have h':j<(Hm V n).length:=by simpa [Hm] using h);have:=Qcc V n j h';simp only[Hm,List.getElem_cons_succ,this];congr 1;omega
theorem cell8_digs (V:Int) (hV:0 ≤ V) (n j:Nat) (h:j<(Hm V n).length):Value.int .u8 (Cr V n j)=.int .u8 ((Hm V n)[j].toNat:Int):=by
  have hn:j<n:=by simpa [Gh] using h
  rw[Qcc,Xg V hV,Cr,if_pos hn]
theorem Tryz.info5:(prog.info? 5).map (fun i=>(i.zero,i.size,i.bytes))=some (some (.int .u8 0),1,1):=qi
theorem Jz (n:Int) (w:World) (h1:1 ≤ n) (h2:n ≤ 8) :
    Calls prog 44 #[I n] w fun e w'=>e=.returned (.bool true)∧w=w':=by
  exact qfk
theorem l1Width_no (n:Int) (w:World) (h:n<1∨8<n) :
    Calls prog 44 #[I n] w fun e w'=>e=.returned (.bool false)∧w=w':=by
  rcases h with h|h
  · have h':decide (1 ≤ n)=false:=qh
    exact qfk
  · have h':1 ≤ n:=qb
    have h'':decide (n ≤ 8)=false:=qh;exact qfk
theorem Je (n:Int) (w:World) (h1:1 ≤ n) (h2:n ≤ 8) :
    Calls prog 119 #[I n] w fun e w'=>e=.returned (.bool true)∧w=w':=by
  exact qfj
theorem Va (n:Int) (w:World) (h:n<1∨8<n) :
    Calls prog 119 #[I n] w fun e w'=>e=.returned (.bool false)∧w=w':=by
  rcases h with h|h
  · have h':decide (1 ≤ n)=false:=qh
    exact qfj
  · have h':1 ≤ n:=qb
    have h'':decide (n ≤ 8)=false:=qh;exact qfj
theorem Ye {w wr w1:World} {V:Int} {j:Nat} {v':Value} (hV:0 ≤ V) (de:w.heap.size ≤ wr.heap.size) (am:Bw w wr)
    (ba:w1.ownsRow w.heap.size 5 1 v' (1+j) ([Value.int .u8 (V / 256 ^ j % 256)]++Jo V j))
    (ae:(wr.alloc (.cells #[Value.int .u8 (V / 256 ^ j % 256)] 5)).grownBy w1 (Value.slice (p_ wr.heap.size) 1 1).ownBlock)
    (dp:v'=nS↔Value.slice (p_ wr.heap.size) 1 1=nS∧j=0) :
    ∃ g cap:Nat,v'=.slice (p_ g) (j+1) cap∧w1.ownsRow w.heap.size 5 1 (.slice (p_ g) (j+1) cap) (j+1) (Jo V (j+1))∧Bw w w1:=by
  rw[← Qcd V hV,Nat.add_comm 1 j] at ba;have hb:Bw w w1:=(am.alloc de _).grown ae qh (by intro k hk;simp[Value.ownBlock] at hk;omega);have h2:=ba.2
  rcases h2 with ⟨h,_⟩|⟨g,cap,cur,hv,_⟩
  · have:=dp.1 h;simp at this
  · subst hv;exact⟨g,cap,rfl,ba,hb⟩
theorem Fe (s:By) (n:Nat) (w:World) (hs:s.size ≤ 1048576) (h1:1 ≤ n) (h2:n ≤ 8) :
    Calls prog 45 #[.string s,I n] w fun e w'=>e=.returned (.string ⟨(Hm (Cx s.data.toList) n).toArray⟩)∧Bw w w':=by
  obtain⟨i0,hi,bp,bh,bv⟩:=info_parts Tryz.info5;obtain⟨S5,hV2⟩:=Hy s.data.toList;generalize hV:Cx s.data.toList=V at *;have HV:=hid hV;clear hV;go_enter func45,ntmps45
  go_wp2_with (first|(go_at_call 44;refine(Jz _ _ qb qb).mono ?_;rintro e w' ⟨rfl,rfl⟩))
  go_loop [5,6] (fun v i=>∃ k:Nat,k ≤ s.size∧i=I k∧v=.int .u64 (Cx (s.data.toList.take k))) (fun _ i=>s.size-(intOf i).toNat)
  case atStart=>exact⟨0,Nat.zero_le _,rfl,rfl⟩
  case round=>
    obtain⟨k,hk,rfl,rfl⟩:=hrel
    by_cases aj:k<s.size
    · exact qao
    · rw[show s.data.toList.take k=s.data.toList from List.take_of_length_le qh]
      rw[HV.o];go_wp2
      go_loopw [5,7,8] (fun v o i wr=>∃ k:Nat,∃ g cap:Nat,k ≤ n∧i=I k∧v=.int .u64 (V / 256 ^ k)∧o=.slice (p_ g) k cap∧
          wr.ownsRow w.heap.size 5 1 (.slice (p_ g) k cap) k (Jo V k)∧Bw w wr)
        (fun _ _ i _=>n-(intOf i).toNat)
      case atStart=>
        refine⟨0,w.heap.size,0,Nat.zero_le _,rfl,qg,rfl,?_,aN _ _⟩;exact World.ownsRow_lit w #[] 0 (Nat.le_refl _) qm qg
      case round=>
        obtain⟨j,g,cap,hj,rfl,rfl,rfl,ah,am⟩:=hrel;obtain⟨hd1,hd2⟩:=div_bd V j S5 hV2;have de:=am.size
        by_cases hjn:j<n
        · have hnew:=World.ownsRow_lit (base:=w.heap.size) (e:=5) (size:=1) wr #[Value.int .u8 (V / 256 ^ j % 256)] 1 de qm qg
          have iu:=(ah.alloc (.cells #[Value.int .u8 (V / 256 ^ j % 256)] 5)).cells (g:=g) rfl
          go_wp2_with (first|(at_builtin;refine wpList_append_own _ rfl (.tmp 34) (.tmp 35) 122 rfl w.heap.size 5 i0 (.int .u8 0) 1 1 underlying122 hi bp bh bv rfl qd _ _ _ rfl hnew ⟨g,0,none⟩ j cap (Jo V j) rfl (by simp[Wd]) iu (dcells_one V j) qm qb qh ?_;intro v' w1 ba ae dp;obtain⟨g',ai,Q5,R⟩:=Ye S5 de am ba ae dp;clear ba ae dp hnew iu ah am;rw[Q5];clear Q5))
          go_roundw
          case rel=>exact⟨j+1,g',ai,qb,qj,by rw[div_succ],rfl,R.1,R.2⟩
          case measure=>simp[intOf];omega
        · have ej:j=n:=qb
          have hcv:(convert 122 9 (.slice (p_ g) j cap)).run prog wr=.ok (.string ⟨(Hm V j).toArray⟩) wr:=by
            have:=run_convert_bytes_back (P:=prog) wr 122 9 5 ⟨g,0,none⟩ cap (Hm V j) underlying122 underlying5 underlying9 (fun t ht=>ah.cells rfl t _ (by rw[Jo,List.getElem?_map,Iu ht];rfl))
            rwa [Gh] at this
          have Hej:=hid ej;clear ej;go_wp2;go_ret;exact⟨by rw[Hej.o];rfl,am⟩
theorem cells8_1 (V:Int):Bd V 1=#[.int .u8 (V % 256),.int .u8 (0),.int .u8 (0),.int .u8 (0),.int .u8 (0),.int .u8 (0),.int .u8 (0),.int .u8 (0)]:=by
  simp[Bd,Cr]
theorem sumBytes_1 (s:By) (w:World) (hs:s.size ≤ 1048576) :
    Calls prog 156 #[.string s,I 1] w fun e w'=>e=.returned (.agg (Bd (Cx s.data.toList) 1))∧
      (w.alloc (.cells (Bd (Cx s.data.toList) 1) 231)).alloc (.cells (Bd (Cx s.data.toList) 1) 231)=w':=by
  obtain⟨S5,hV2⟩:=Hy s.data.toList;generalize hV:Cx s.data.toList=V at *;have HV:=hid hV;clear hV;rw[cells8_1];go_enter func156,ntmps156;go_wp2
  go_loop [5,6,11] (fun v _ i=>∃ k:Nat,k ≤ s.size∧i=I k∧v=.int .u64 (Cx (s.data.toList.take k))) (fun _ _ i=>s.size-(intOf i).toNat)
  case atStart=>exact⟨0,Nat.zero_le _,rfl,rfl⟩
  case round=>
    obtain⟨k,hk,rfl,rfl⟩:=hrel
    by_cases aj:k<s.size
    · exact qao
    · rw[show s.data.toList.take k=s.data.toList from List.take_of_length_le qh]
      rw[HV.o];go_wp2;refine wp_loop_rounds 2 ?_
      iterate 2 (rw[rounds_succ];go_wp2)
      exact bR (v:=.agg #[.int .u8 (V % 256),.int .u8 (0),.int .u8 (0),.int .u8 (0),.int .u8 (0),.int .u8 (0),.int .u8 (0),.int .u8 (0)]) qay rfl ⟨rfl,rfl⟩
theorem cells8_2 (V:Int):Bd V 2=#[.int .u8 (V / 256 % 256),.int .u8 (V % 256),.int .u8 (0),.int .u8 (0),.int .u8 (0),.int .u8 (0),.int .u8 (0),.int .u8 (0)]:=by
  simp[Bd,Cr]
theorem sumBytes_2 (s:By) (w:World) (hs:s.size ≤ 1048576) :
    Calls prog 156 #[.string s,I 2] w fun e w'=>e=.returned (.agg (Bd (Cx s.data.toList) 2))∧
      (w.alloc (.cells (Bd (Cx s.data.toList) 2) 231)).alloc (.cells (Bd (Cx s.data.toList) 2) 231)=w':=by
  obtain⟨S5,hV2⟩:=Hy s.data.toList;generalize hV:Cx s.data.toList=V at *;have HV:=hid hV;clear hV;rw[cells8_2];go_enter func156,ntmps156;go_wp2
  go_loop [5,6,11] (fun v _ i=>∃ k:Nat,k ≤ s.size∧i=I k∧v=.int .u64 (Cx (s.data.toList.take k))) (fun _ _ i=>s.size-(intOf i).toNat)
  case atStart=>exact⟨0,Nat.zero_le _,rfl,rfl⟩
  case round=>
    obtain⟨k,hk,rfl,rfl⟩:=hrel
    by_cases aj:k<s.size
    · exact qao
    · rw[show s.data.toList.take k=s.data.toList from List.take_of_length_le qh]
      rw[HV.o];go_wp2;refine wp_loop_rounds 3 ?_
      iterate 3 (rw[rounds_succ];go_wp2)
      exact bR (v:=.agg #[.int .u8 (V / 256 % 256),.int .u8 (V % 256),.int .u8 (0),.int .u8 (0),.int .u8 (0),.int .u8 (0),.int .u8 (0),.int .u8 (0)]) qay rfl ⟨rfl,rfl⟩
theorem cells8_3 (V:Int):Bd V 3=#[.int .u8 (V / 256 / 256 % 256),.int .u8 (V / 256 % 256),.int .u8 (V % 256),.int .u8 (0),.int .u8 (0),.int .u8 (0),.int .u8 (0),.int .u8 (0)]:=by
  simp[Bd,Cr];omega
theorem sumBytes_3 (s:By) (w:World) (hs:s.size ≤ 1048576) :
    Calls prog 156 #[.string s,I 3] w fun e w'=>e=.returned (.agg (Bd (Cx s.data.toList) 3))∧
      (w.alloc (.cells (Bd (Cx s.data.toList) 3) 231)).alloc (.cells (Bd (Cx s.data.toList) 3) 231)=w':=by
  obtain⟨S5,hV2⟩:=Hy s.data.toList;generalize hV:Cx s.data.toList=V at *;have HV:=hid hV;clear hV;rw[cells8_3];go_enter func156,ntmps156;go_wp2
  go_loop [5,6,11] (fun v _ i=>∃ k:Nat,k ≤ s.size∧i=I k∧v=.int .u64 (Cx (s.data.toList.take k))) (fun _ _ i=>s.size-(intOf i).toNat)
  case atStart=>exact⟨0,Nat.zero_le _,rfl,rfl⟩
  case round=>
    obtain⟨k,hk,rfl,rfl⟩:=hrel
    by_cases aj:k<s.size
    · exact qao
    · rw[show s.data.toList.take k=s.data.toList from List.take_of_length_le qh]
      rw[HV.o];go_wp2;refine wp_loop_rounds 4 ?_
      iterate 4 (rw[rounds_succ];go_wp2)
      exact bR (v:=.agg #[.int .u8 (V / 256 / 256 % 256),.int .u8 (V / 256 % 256),.int .u8 (V % 256),.int .u8 (0),.int .u8 (0),.int .u8 (0),.int .u8 (0),.int .u8 (0)]) qay rfl ⟨rfl,rfl⟩
theorem cells8_4 (V:Int):Bd V 4=#[.int .u8 (V / 256 / 256 / 256 % 256),.int .u8 (V / 256 / 256 % 256),.int .u8 (V / 256 % 256),.int .u8 (V % 256),.int .u8 (0),.int .u8 (0),.int .u8 (0),.int .u8 (0)]:=by
  simp[Bd,Cr];omega
theorem sumBytes_4 (s:By) (w:World) (hs:s.size ≤ 1048576) :
    Calls prog 156 #[.string s,I 4] w fun e w'=>e=.returned (.agg (Bd (Cx s.data.toList) 4))∧
      (w.alloc (.cells (Bd (Cx s.data.toList) 4) 231)).alloc (.cells (Bd (Cx s.data.toList) 4) 231)=w':=by
  obtain⟨S5,hV2⟩:=Hy s.data.toList;generalize hV:Cx s.data.toList=V at *;have HV:=hid hV;clear hV;rw[cells8_4];go_enter func156,ntmps156;go_wp2
  go_loop [5,6,11] (fun v _ i=>∃ k:Nat,k ≤ s.size∧i=I k∧v=.int .u64 (Cx (s.data.toList.take k))) (fun _ _ i=>s.size-(intOf i).toNat)
  case atStart=>exact⟨0,Nat.zero_le _,rfl,rfl⟩
  case round=>
    obtain⟨k,hk,rfl,rfl⟩:=hrel
    by_cases aj:k<s.size
    · exact qao
    · rw[show s.data.toList.take k=s.data.toList from List.take_of_length_le qh]
      rw[HV.o];go_wp2;refine wp_loop_rounds 5 ?_
      iterate 5 (rw[rounds_succ];go_wp2)
      exact bR (v:=.agg #[.int .u8 (V / 256 / 256 / 256 % 256),.int .u8 (V / 256 / 256 % 256),.int .u8 (V / 256 % 256),.int .u8 (V % 256),.int .u8 (0),.int .u8 (0),.int .u8 (0),.int .u8 (0)]) qay rfl ⟨rfl,rfl⟩
theorem cells8_5 (V:Int):Bd V 5=#[.int .u8 (V / 256 / 256 / 256 / 256 % 256),.int .u8 (V / 256 / 256 / 256 % 256),.int .u8 (V / 256 / 256 % 256),.int .u8 (V / 256 % 256),.int .u8 (V % 256),.int .u8 (0),.int .u8 (0),.int .u8 (0)]:=by
  simp[Bd,Cr];omega
theorem sumBytes_5 (s:By) (w:World) (hs:s.size ≤ 1048576) :
    Calls prog 156 #[.string s,I 5] w fun e w'=>e=.returned (.agg (Bd (Cx s.data.toList) 5))∧
      (w.alloc (.cells (Bd (Cx s.data.toList) 5) 231)).alloc (.cells (Bd (Cx s.data.toList) 5) 231)=w':=by
  obtain⟨S5,hV2⟩:=Hy s.data.toList;generalize hV:Cx s.data.toList=V at *;have HV:=hid hV;clear hV;rw[cells8_5];go_enter func156,ntmps156;go_wp2
  go_loop [5,6,11] (fun v _ i=>∃ k:Nat,k ≤ s.size∧i=I k∧v=.int .u64 (Cx (s.data.toList.take k))) (fun _ _ i=>s.size-(intOf i).toNat)
  case atStart=>exact⟨0,Nat.zero_le _,rfl,rfl⟩
  case round=>
    obtain⟨k,hk,rfl,rfl⟩:=hrel
    by_cases aj:k<s.size
    · exact qao
    · rw[show s.data.toList.take k=s.data.toList from List.take_of_length_le qh]
      rw[HV.o];go_wp2;refine wp_loop_rounds 6 ?_
      iterate 6 (rw[rounds_succ];go_wp2)
      exact bR (v:=.agg #[.int .u8 (V / 256 / 256 / 256 / 256 % 256),.int .u8 (V / 256 / 256 / 256 % 256),.int .u8 (V / 256 / 256 % 256),.int .u8 (V / 256 % 256),.int .u8 (V % 256),.int .u8 (0),.int .u8 (0),.int .u8 (0)]) qay rfl ⟨rfl,rfl⟩
theorem cells8_6 (V:Int):Bd V 6=#[.int .u8 (V / 256 / 256 / 256 / 256 / 256 % 256),.int .u8 (V / 256 / 256 / 256 / 256 % 256),.int .u8 (V / 256 / 256 / 256 % 256),.int .u8 (V / 256 / 256 % 256),.int .u8 (V / 256 % 256),.int .u8 (V % 256),.int .u8 (0),.int .u8 (0)]:=by
  simp[Bd,Cr];omega
theorem sumBytes_6 (s:By) (w:World) (hs:s.size ≤ 1048576) :
    Calls prog 156 #[.string s,I 6] w fun e w'=>e=.returned (.agg (Bd (Cx s.data.toList) 6))∧
      (w.alloc (.cells (Bd (Cx s.data.toList) 6) 231)).alloc (.cells (Bd (Cx s.data.toList) 6) 231)=w':=by
  obtain⟨S5,hV2⟩:=Hy s.data.toList;generalize hV:Cx s.data.toList=V at *;have HV:=hid hV;clear hV;rw[cells8_6];go_enter func156,ntmps156;go_wp2
  go_loop [5,6,11] (fun v _ i=>∃ k:Nat,k ≤ s.size∧i=I k∧v=.int .u64 (Cx (s.data.toList.take k))) (fun _ _ i=>s.size-(intOf i).toNat)
  case atStart=>exact⟨0,Nat.zero_le _,rfl,rfl⟩
  case round=>
    obtain⟨k,hk,rfl,rfl⟩:=hrel
    by_cases aj:k<s.size
    · exact qao
    · rw[show s.data.toList.take k=s.data.toList from List.take_of_length_le qh]
      rw[HV.o];go_wp2;refine wp_loop_rounds 7 ?_
      iterate 7 (rw[rounds_succ];go_wp2)
      exact bR (v:=.agg #[.int .u8 (V / 256 / 256 / 256 / 256 / 256 % 256),.int .u8 (V / 256 / 256 / 256 / 256 % 256),.int .u8 (V / 256 / 256 / 256 % 256),.int .u8 (V / 256 / 256 % 256),.int .u8 (V / 256 % 256),.int .u8 (V % 256),.int .u8 (0),.int .u8 (0)]) qay rfl ⟨rfl,rfl⟩
theorem cells8_7 (V:Int):Bd V 7=#[.int .u8 (V / 256 / 256 / 256 / 256 / 256 / 256 % 256),.int .u8 (V / 256 / 256 / 256 / 256 / 256 % 256),.int .u8 (V / 256 / 256 / 256 / 256 % 256),.int .u8 (V / 256 / 256 / 256 % 256),.int .u8 (V / 256 / 256 % 256),.int .u8 (V / 256 % 256),.int .u8 (V % 256),.int .u8 (0)]:=by
  simp[Bd,Cr];omega
theorem sumBytes_7 (s:By) (w:World) (hs:s.size ≤ 1048576) :
    Calls prog 156 #[.string s,I 7] w fun e w'=>e=.returned (.agg (Bd (Cx s.data.toList) 7))∧
      (w.alloc (.cells (Bd (Cx s.data.toList) 7) 231)).alloc (.cells (Bd (Cx s.data.toList) 7) 231)=w':=by
  obtain⟨S5,hV2⟩:=Hy s.data.toList;generalize hV:Cx s.data.toList=V at *;have HV:=hid hV;clear hV;rw[cells8_7];go_enter func156,ntmps156;go_wp2
  go_loop [5,6,11] (fun v _ i=>∃ k:Nat,k ≤ s.size∧i=I k∧v=.int .u64 (Cx (s.data.toList.take k))) (fun _ _ i=>s.size-(intOf i).toNat)
  case atStart=>exact⟨0,Nat.zero_le _,rfl,rfl⟩
  case round=>
    obtain⟨k,hk,rfl,rfl⟩:=hrel
    by_cases aj:k<s.size
    · exact qao
    · rw[show s.data.toList.take k=s.data.toList from List.take_of_length_le qh]
      rw[HV.o];go_wp2;refine wp_loop_rounds 8 ?_
      iterate 8 (rw[rounds_succ];go_wp2)
      exact bR (v:=.agg #[.int .u8 (V / 256 / 256 / 256 / 256 / 256 / 256 % 256),.int .u8 (V / 256 / 256 / 256 / 256 / 256 % 256),.int .u8 (V / 256 / 256 / 256 / 256 % 256),.int .u8 (V / 256 / 256 / 256 % 256),.int .u8 (V / 256 / 256 % 256),.int .u8 (V / 256 % 256),.int .u8 (V % 256),.int .u8 (0)]) qay rfl ⟨rfl,rfl⟩
theorem cells8_8 (V:Int) (h1:0 ≤ V) (h2:V<18446744073709551616):Bd V 8=#[.int .u8 (V / 256 / 256 / 256 / 256 / 256 / 256 / 256),.int .u8 (V / 256 / 256 / 256 / 256 / 256 / 256 % 256),.int .u8 (V / 256 / 256 / 256 / 256 / 256 % 256),.int .u8 (V / 256 / 256 / 256 / 256 % 256),.int .u8 (V / 256 / 256 / 256 % 256),.int .u8 (V / 256 / 256 % 256),.int .u8 (V / 256 % 256),.int .u8 (V % 256)]:=by
  simp[Bd,Cr];omega
theorem sumBytes_8 (s:By) (w:World) (hs:s.size ≤ 1048576) :
    Calls prog 156 #[.string s,I 8] w fun e w'=>e=.returned (.agg (Bd (Cx s.data.toList) 8))∧
      (w.alloc (.cells (Bd (Cx s.data.toList) 8) 231)).alloc (.cells (Bd (Cx s.data.toList) 8) 231)=w':=by
  obtain⟨S5,hV2⟩:=Hy s.data.toList;generalize hV:Cx s.data.toList=V at *;have HV:=hid hV;clear hV;rw[cells8_8 V S5 hV2];go_enter func156,ntmps156;go_wp2
  go_loop [5,6,11] (fun v _ i=>∃ k:Nat,k ≤ s.size∧i=I k∧v=.int .u64 (Cx (s.data.toList.take k))) (fun _ _ i=>s.size-(intOf i).toNat)
  case atStart=>exact⟨0,Nat.zero_le _,rfl,rfl⟩
  case round=>
    obtain⟨k,hk,rfl,rfl⟩:=hrel
    by_cases aj:k<s.size
    · exact qao
    · rw[show s.data.toList.take k=s.data.toList from List.take_of_length_le qh]
      rw[HV.o];go_wp2;refine wp_loop_rounds 9 ?_
      iterate 9 (rw[rounds_succ];go_wp2)
      exact bR (v:=.agg #[.int .u8 (V / 256 / 256 / 256 / 256 / 256 / 256 / 256),.int .u8 (V / 256 / 256 / 256 / 256 / 256 / 256 % 256),.int .u8 (V / 256 / 256 / 256 / 256 / 256 % 256),.int .u8 (V / 256 / 256 / 256 / 256 % 256),.int .u8 (V / 256 / 256 / 256 % 256),.int .u8 (V / 256 / 256 % 256),.int .u8 (V / 256 % 256),.int .u8 (V % 256)]) qay rfl ⟨rfl,rfl⟩
theorem Yb (s:By) (n:Nat) (w:World) (hs:s.size ≤ 1048576) (h1:1 ≤ n) (h2:n ≤ 8) :
    Calls prog 156 #[.string s,I n] w fun e w'=>e=.returned (.agg (Bd (Cx s.data.toList) n))∧
      (w.alloc (.cells (Bd (Cx s.data.toList) n) 231)).alloc (.cells (Bd (Cx s.data.toList) n) 231)=w':=by
  rcases (show n=1∨n=2∨n=3∨n=4∨n=5∨n=6∨n=7∨n=8 from qb) with rfl|rfl|rfl|rfl|rfl|rfl|rfl|rfl
  · exact sumBytes_1 s w hs
  · exact sumBytes_2 s w hs
  · exact sumBytes_3 s w hs
  · exact sumBytes_4 s w hs
  · exact sumBytes_5 s w hs
  · exact sumBytes_6 s w hs
  · exact sumBytes_7 s w hs
  · exact sumBytes_8 s w hs
theorem slice8 (n:Nat) (h2:n ≤ 8) (a:Addr) (w:World):(Instr.sliceAt 231 (.pointer (some a)) none (some (I n)) none).run prog w=.ok (.slice (some a) n 8) w:=by
  have hl:prog.arrayLen 231=8:=qi;rw[run_sliceAt_array_h w 231 a qi .i64 n qb (by rw[hl];omega),hl];simp[go_sem]
theorem Ya (s:By) (n:Nat) (V:Int) (w:World) (HV:Hd (Cx s.data.toList=V)) (hs:s.size ≤ 1048576) (h1:1 ≤ n) (h2:n ≤ 8) :
    Calls prog 156 #[.string s,I n] w fun e w'=>e=.returned (.agg #[.int .u8 (Cr V n 0),.int .u8 (Cr V n 1),.int .u8 (Cr V n 2),.int .u8 (Cr V n 3),.int .u8 (Cr V n 4),.int .u8 (Cr V n 5),.int .u8 (Cr V n 6),.int .u8 (Cr V n 7)])∧
      (w.alloc (.cells #[.int .u8 (Cr V n 0),.int .u8 (Cr V n 1),.int .u8 (Cr V n 2),.int .u8 (Cr V n 3),.int .u8 (Cr V n 4),.int .u8 (Cr V n 5),.int .u8 (Cr V n 6),.int .u8 (Cr V n 7)] 231)).alloc (.cells #[.int .u8 (Cr V n 0),.int .u8 (Cr V n 1),.int .u8 (Cr V n 2),.int .u8 (Cr V n 3),.int .u8 (Cr V n 4),.int .u8 (Cr V n 5),.int .u8 (Cr V n 6),.int .u8 (Cr V n 7)] 231)=w':=by
  have h:=Yb s n w hs h1 h2;rw[HV.o] at h;exact h
theorem Ie (s:By) (n:Nat) (w:World) (hs:s.size ≤ 1048576) (h1:1 ≤ n) (h2:n ≤ 8) :
    Calls prog 139 #[.string s,I n] w fun e w'=>e=.returned (.string ⟨(Hm (Cx s.data.toList) n).toArray⟩)∧Bw w w':=by
  obtain⟨S5,hV2⟩:=Hy s.data.toList;generalize hV:Cx s.data.toList=V at *;have HV:=hid hV;clear hV
  have hcv:(convert 122 9 (.slice (p_ (w.heap.size+1+1)) n 8)).run prog (((w.alloc (.cells (Bd V n) 231)).alloc (.cells (Bd V n) 231)).alloc (.cells (Bd V n) 231))=.ok (.string ⟨(Hm V n).toArray⟩) (((w.alloc (.cells (Bd V n) 231)).alloc (.cells (Bd V n) 231)).alloc (.cells (Bd V n) 231)):=by
    have:=run_convert_bytes_back (P:=prog) (((w.alloc (.cells (Bd V n) 231)).alloc (.cells (Bd V n) 231)).alloc (.cells (Bd V n) 231)) 122 9 5 ⟨w.heap.size+1+1,0,none⟩ 8 (Hm V n) underlying122 underlying5 underlying9 (fun t ht=>by
      rw[← cell8_digs V S5 n t ht];have hn:t<n:=by simpa [Gh] using ht
      rcases (show t=0∨t=1∨t=2∨t=3∨t=4∨t=5∨t=6∨t=7 from qb) with rfl|rfl|rfl|rfl|rfl|rfl|rfl|rfl<;>simp[Bd,Addr.add,go_sem])
    rwa [Gh] at this
  simp only[Bd] at hcv;have hsl:=slice8 n h2;go_enter func139,ntmps139
  go_wp2_with (first|(go_at_call 119;refine(Je _ _ qb qb).mono ?_;rintro e w' ⟨rfl,rfl⟩)|(go_at_call 156;refine(Ya s n V _ HV hs h1 h2).mono ?_;rintro e w' ⟨rfl,rfl⟩))
  go_ret;exact⟨rfl,((aN _ _).alloc qg _).alloc qh _⟩
end Go.Proofs.YtfgoholldpeabaaGreatDoor
