import Derived.Test.YtjlnkepkkdefdaaGreatDoorTChkS
import Derived.Test.YtjlnkepkkdefdaaGreatDoorTForm
import Derived.Test.YtjlnkepkkdefdaaGreatDoorTVoG
import Derived.Test.YtjlnkepkkdefdaaGreatDoorTOrd
import Derived.Below
import Derived.Deep.AppendLies
import Derived.Deep.RegionHeld3
import Derived.OpenShut
import Derived.ProofKit
import Derived.Shelf.SlSorted.Search
import Derived.WalkKit
import Derived.WalkLawsBesides
import Derived.WalkSpells
import Derived.Test.YtjlnkepkkdefdaaGreatDoorEdC
import Derived.Test.YtjlnkepkkdefdaaGreatDoorTClH
import Derived.BigQuiet
import Derived.Deep.QuietTactic
namespace Go.Proofs.YtjlnkepkkdefdaaGreatDoor
set_option maxHeartbeats 4000000
set_option maxRecDepth 100000
open Go.RowKit
set_option linter.unusedVariables false
set_option linter.unusedSimpArgs false
theorem row3_own {w:World} {B g n cap:Nat} {is:List I3} {xs:List Value} (hn:n=is.length) (h:w.ownsRow B 106 3 (.slice (some ⟨g,0,none⟩) n cap) n xs) (hf:Fw is n xs):Dr w (some ⟨g,0,none⟩) is:=by
 subst hn
 intro i hi
 obtain⟨h1,h2,h3⟩:=hf i hi
 refine⟨g,0,rfl,?_,?_,?_⟩
 ·rw[Nat.zero_add,h.cellAt _ (by omega)];exact h1
 ·rw[Nat.zero_add,h.cellAt _ (by omega)];exact h2
 ·rw[Nat.zero_add,h.cellAt _ (by omega)];exact h3

theorem Tryz.info9:(Tryz.prog.info? 9).map (fun i=>(i.zero,i.size,i.bytes))=some (some (.string ByteArray.empty),1,16):=by kernel_rfl
def Gb (ss:List ByteArray) (k n:Nat):List Value:=(ss.take k).map Value.string++List.replicate (n-k) (Value.string ByteArray.empty)
theorem Nf (ss:List ByteArray) (k:Nat) (h:k<=ss.length):(Gb ss k ss.length).length=ss.length:=by
 simp[Gb];omega
theorem filled_set (ss:List ByteArray) (k:Nat) (h:k<ss.length):(Gb ss k ss.length).set k (.string (ss.getD k ByteArray.empty))=Gb ss (k+1) ss.length:=by
 unfold Gb
 have e:ss.take (k+1)=ss.take k++[ss[k]]:=List.take_succ_eq_append_getElem h
 have hr:List.replicate (ss.length-k) (Value.string ByteArray.empty)=Value.string ByteArray.empty :: List.replicate (ss.length-(k+1)) (Value.string ByteArray.empty):=by
  rw[show ss.length-k=(ss.length-(k+1))+1 by omega,List.replicate_succ]
 rw[e,hr,List.set_append_right _ _ (by simp;omega)]
 have hk:k-((ss.take k).map Value.string).length=0:=by simp;omega
 rw[hk,gG,gQ h,List.map_append,List.append_assoc]
 rfl
theorem filled_get (ss:List ByteArray) (i:Nat) (h:i<ss.length):(Gb ss ss.length ss.length)[i]?=some (.string (ss.getD i ByteArray.empty)):=by
 simp[Gb,gG,gQ h]
theorem Wb (n:Nat):(madeCells (Value.string ByteArray.empty).cells (n*1)).toList=List.replicate n (.string ByteArray.empty):=by
 apply List.ext_getElem?
 intro i
 by_cases h:i<n<;>simp[madeCells,Value.cells,h,Nat.mod_one]
theorem Xy {w:World} {B g n cap T:Nat} {is:List G3} {xs:List Value} (hn:n=is.length) (h:w.ownsRow B T 3 (.slice (some ⟨g,0,none⟩) n cap) n xs) (hf:Fe is n xs):Ks w (some ⟨g,0,none⟩) is:=by
 subst hn
 intro i hi
 obtain⟨h1,h2,h3⟩:=hf i hi
 refine⟨g,0,rfl,?_,?_,?_⟩
 ·rw[Nat.zero_add,h.cellAt _ (by omega)];exact h1
 ·rw[Nat.zero_add,h.cellAt _ (by omega)];exact h2
 ·rw[Nat.zero_add,h.cellAt _ (by omega)];exact h3
structure RecOk (w:World) (a:Option Addr) (is:List I3) (la:Option Addr) (gs:List G3) (out:ByteArray):Prop where
 rc:Dr w a is
 rg:Ks w la gs
 lc:is.length<=maxLen
 lg:gs.length<=maxLen
 xc:∀ i,(ix is i).text.size<=maxLen
 ng:∀ i,(gx gs i).name.size<=maxLen
 sg:∀ i,(gx gs i).sum.size<=maxLen
 so:out.size<=maxLen
structure T3 where
 code:List I3
 looks:List G3
 out:ByteArray
def q00:T3:=⟨[],[],ByteArray.empty⟩
def qx (is:List T3) (i:Nat):T3:=is.getD i q00
def RowQ (w:World) (a:Option Addr) (is:List T3):Prop:=
 ∀ i,i<is.length->∃ b off,a=some ⟨b,off,none⟩/\∃ ca cc la lc,w.cell? ⟨b,off+i*3,none⟩=some (.slice ca (qx is i).code.length cc)/\w.cell? ⟨b,off+i*3+1,none⟩=some (.slice la (qx is i).looks.length lc)/\w.cell? ⟨b,off+i*3+2,none⟩=some (.string (qx is i).out)/\Dr w ca (qx is i).code/\Ks w la (qx is i).looks
theorem RowQ.bl {w w':World} {a:Option Addr} {is:List T3} (h:RowQ w a is) (hb:Below w.heap.size w w'):RowQ w' a is:=by
 intro i hi
 obtain⟨b,off,ha,ca,cc,la,lc,h1,h2,h3,h4,h5⟩:=h i hi
 exact⟨b,off,ha,ca,cc,la,lc,Ab hb h1,Ab hb h2,Ab hb h3,h4.bl hb,h5.bl hb⟩
structure QsOk (rs:List T3):Prop where
 lr:rs.length<=maxLen
 lc:∀ i,(qx rs i).code.length<=maxLen
 lg:∀ i,(qx rs i).looks.length<=maxLen
 xc:∀ i j,(ix (qx rs i).code j).text.size<=maxLen
 ng:∀ i j,(gx (qx rs i).looks j).name.size<=maxLen
 sg:∀ i j,(gx (qx rs i).looks j).sum.size<=maxLen
 so:∀ i,(qx rs i).out.size<=maxLen
def QsSmall (rs:List T3):Prop:=rs.length<=1048576/\∀ i,i<rs.length->(qx rs i).code.length<=1048576/\(qx rs i).looks.length<=1048576

section
variable {P:Program} {ops:Array Oper} {Q:Exit->Act->World->Prop} {S:World->Prop} {z:Nat}
end

def Po (ob:Option Nat) (w w':World):Prop:=∀ b,b<w.heap.size->some b≠ob->w'.heap[b]?=w.heap[b]?
theorem own_keep {w w':World} {B e sz n:Nat} {v:Value} {xs:List Value} {ob:Option Nat} (h:w.ownsRow B e sz v n xs) (hk:Po ob w w') (hne:∀ b,v.ownBlock=some b->some b≠ob):w'.ownsRow B e sz v n xs:=by
 refine⟨h.1,?_⟩
 rcases h.2 with h2|⟨g,cap,cur,hv,hg,hh,r⟩
 ·exact Or.inl h2
 ·refine Or.inr ⟨g,cap,cur,hv,hg,?_,r⟩;subst hv;rw[hk g (h.lt g rfl).2 (hne g rfl)];exact hh
theorem Ho {w:World} {B e sz n:Nat} {v:Value} {xs:List Value} (h:w.ownsRow B e sz v n xs):(v=.slice none 0 0/\n=0)\/∃ g cap,v=.slice (some ⟨g,0,none⟩) n cap:=by
 rcases h.2 with h|⟨g,cap,cur,hv,hg,r⟩
 ·exact Or.inl h
 ·exact Or.inr ⟨g,cap,hv⟩
theorem Dd.bl {w w':World} {lo hi e sz n:Nat} {v:Value} {xs:List Value} (h:Dd w lo hi e sz v n xs) (hb:Below w.heap.size w w'):Dd w' lo hi e sz v n xs:=h.same fun b e=>hb.block b (h.own.lt b e).2
theorem Dd.nil (w:World) (lo hi e sz:Nat):Dd w lo hi e sz (.slice none 0 0) 0 []:=⟨World.ownsRow_nil _ _ _ _,fun b e=>by simp[Value.ownBlock] at e⟩
theorem Dd.new {w:World} {lo e sz n:Nat} {v:Value} {xs:List Value} (h:w.ownsRow lo e sz v n xs):Dd w lo w.heap.size e sz v n xs:=⟨h,fun b e=>(h.lt b e).2⟩
def Mc (v c:Int):Int:=IntKind.u64.wrap (bits BinOp.xor IntKind.u64 v (IntKind.u64.wrap c)*1099511628211)
def Bs (l:List UInt8):Int:=l.foldl (fun v c=>Mc v c.toNat) 14695981039346656037
theorem Fu (l:List UInt8) (c:UInt8):Bs (l++[c])=Mc (Bs l) c.toNat:=by simp[Bs,List.foldl_append]
theorem Wq (x:Int):0<=IntKind.u64.wrap x/\IntKind.u64.wrap x<18446744073709551616:=by
 have e:IntKind.u64.wrap x=x % 2 ^ 64:=rfl
 rw[e];omega
theorem Hy (l:List UInt8):0<=Bs l/\Bs l<18446744073709551616:=by
 unfold Bs
 rcases List.eq_nil_or_concat l with rfl|⟨l',c,rfl⟩
 ·simp
 ·rw[List.concat_eq_append,List.foldl_append];exact Wq _
def dig (V:Int) (k:Nat):UInt8:=UInt8.ofNat ((V / 256 ^ k).toNat % 256)
def Hj (V:Int):Nat->List UInt8
 | 0=>[]
 | k+1=>dig V k :: Hj V k
theorem Gw (V:Int):∀ k,(Hj V k).length=k
 | 0=>rfl
 | k+1=>by simp[Hj,Gw V k]
theorem div_bd (V:Int) (k:Nat) (h:0<=V) (h2:V<18446744073709551616):0<=V / 256 ^ k/\V / 256 ^ k<18446744073709551616:=by
 have hp:(0:Int)<256 ^ k:=Int.pow_pos (by omega)
 exact⟨Int.ediv_nonneg h (Int.le_of_lt hp),Int.lt_of_le_of_lt (Int.ediv_le_self _ h) h2⟩
theorem Ve (V:Int) (h:0<=V) (k:Nat):((dig V k).toNat:Int)=V / 256 ^ k % 256:=by
 have:0<=V / 256 ^ k:=Int.ediv_nonneg h (Int.le_of_lt (Int.pow_pos (by omega)))
 unfold dig
 rw[UInt8.toNat_ofNat']
 omega
theorem div_succ (V:Int) (k:Nat):V / 256 ^ (k+1)=V / 256 ^ k / 256:=by
 rw[Int.pow_succ,Int.ediv_ediv_of_nonneg (Int.le_of_lt (Int.pow_pos (by omega)))]
def Jm (V:Int) (k:Nat):List Value:=(Hj V k).map fun b=>Value.int .u8 b.toNat
theorem Ui (V:Int) (k:Nat):(Jm V k).length=k:=by simp[Jm,Gw]
theorem Zx (V:Int) (h:0<=V) (k:Nat):Jm V (k+1)=[Value.int .u8 (V / 256 ^ k % 256)]++Jm V k:=by
 simp[Jm,Hj,Ve V h]
theorem dcells_one (V:Int) (k:Nat):∀ u∈Jm V k,u.oneCell'=true:=by
 intro u hu;obtain⟨_,_,rfl⟩:=List.mem_map.1 hu;rfl
theorem Ez (s:ByteArray) (k:Nat) (h:k<s.size):s.data.toList.take (k+1)=s.data.toList.take k++[s[k]]:=by
 rw[List.take_succ_eq_append_getElem (by simpa using h)];rfl
def Cv (V:Int) (n j:Nat):Int:=if j<n then V / 256 ^ (n-1-j) % 256 else 0
def Ba (V:Int) (n:Nat):Array Value:=
 #[.int .u8 (Cv V n 0),.int .u8 (Cv V n 1),.int .u8 (Cv V n 2),.int .u8 (Cv V n 3),.int .u8 (Cv V n 4),.int .u8 (Cv V n 5),.int .u8 (Cv V n 6),.int .u8 (Cv V n 7)]
theorem Zv (V:Int):∀(n j:Nat) (h:j<(Hj V n).length),(Hj V n)[j]=dig V (n-1-j)
 | 0,j,h=>by simp[Hj] at h
 | n+1,0,h=>by simp[Hj]
 | n+1,j+1,h=>by
  have h':j<(Hj V n).length:=by simpa [Hj] using h
  have:=Zv V n j h';simp only[Hj,List.getElem_cons_succ,this];congr 1;omega
theorem cell8_digs (V:Int) (hV:0<=V) (n j:Nat) (h:j<(Hj V n).length):Value.int .u8 (Cv V n j)=.int .u8 ((Hj V n)[j].toNat:Int):=by
 have hn:j<n:=by simpa [Gw] using h
 rw[Zv,Ve V hV,Cv,if_pos hn]
theorem Tryz.info5:(Tryz.prog.info? 5).map (fun i=>(i.zero,i.size,i.bytes))=some (some (.int .u8 0),1,1):=by kernel_rfl
theorem Zc (n:Int) (w:World) (h1:1<=n) (h2:n<=8) :
  Calls Tryz.prog 32 #[.int .i64 n] w fun e w'=>e=.returned (.bool true)/\w=w':=by
 go_enter Tryz.func32,Tryz.ntmps32
 go_wp2
 go_ret
 exact⟨rfl,rfl⟩
theorem l1Width_no (n:Int) (w:World) (h:n<1\/8<n) :
  Calls Tryz.prog 32 #[.int .i64 n] w fun e w'=>e=.returned (.bool false)/\w=w':=by
 rcases h with h|h
 ·have h':decide (1<=n)=false:=by simp;omega
  go_enter Tryz.func32,Tryz.ntmps32;go_wp2;go_ret;exact⟨rfl,rfl⟩
 ·have h':1<=n:=by omega
  have h'':decide (n<=8)=false:=by simp;omega
  go_enter Tryz.func32,Tryz.ntmps32;go_wp2;go_ret;exact⟨rfl,rfl⟩
theorem Hb (n:Int) (w:World) (h1:1<=n) (h2:n<=8) :
  Calls Tryz.prog 27 #[.int .i64 n] w fun e w'=>e=.returned (.bool true)/\w=w':=by
 go_enter Tryz.func27,Tryz.ntmps27
 go_wp2
 go_ret
 exact⟨rfl,rfl⟩
theorem Na (n:Int) (w:World) (h:n<1\/8<n) :
  Calls Tryz.prog 27 #[.int .i64 n] w fun e w'=>e=.returned (.bool false)/\w=w':=by
 rcases h with h|h
 ·have h':decide (1<=n)=false:=by simp;omega
  go_enter Tryz.func27,Tryz.ntmps27;go_wp2;go_ret;exact⟨rfl,rfl⟩
 ·have h':1<=n:=by omega
  have h'':decide (n<=8)=false:=by simp;omega
  go_enter Tryz.func27,Tryz.ntmps27;go_wp2;go_ret;exact⟨rfl,rfl⟩
theorem Vt {w wr w1:World} {V:Int} {j:Nat} {v':Value} (hV:0<=V) (hsz:w.heap.size<=wr.heap.size) (hbel:Below w.heap.size w wr)
  (hown':w1.ownsRow w.heap.size 5 1 v' (1+j) ([Value.int .u8 (V / 256 ^ j % 256)]++Jm V j))
  (hgrow:(wr.alloc (.cells #[Value.int .u8 (V / 256 ^ j % 256)] 5)).grownBy w1 (Value.slice (some ⟨wr.heap.size,0,none⟩) 1 1).ownBlock)
  (hnil:v'=.slice none 0 0↔Value.slice (some ⟨wr.heap.size,0,none⟩) 1 1=.slice none 0 0/\j=0) :
  ∃ g cap:Nat,v'=.slice (some ⟨g,0,none⟩) (j+1) cap/\w1.ownsRow w.heap.size 5 1 (.slice (some ⟨g,0,none⟩) (j+1) cap) (j+1) (Jm V (j+1))/\Below w.heap.size w w1:=by
 rw[<- Zx V hV,Nat.add_comm 1 j] at hown'
 have hb:Below w.heap.size w w1:=(hbel.alloc hsz _).grown hgrow (by simp;omega) (by intro k hk;simp[Value.ownBlock] at hk;omega)
 have h2:=hown'.2
 rcases h2 with ⟨h,_⟩|⟨g,cap,cur,hv,_⟩
 ·have:=hnil.1 h;simp at this
 ·subst hv;exact⟨g,cap,rfl,hown',hb⟩
theorem Xp (s:ByteArray) (n:Nat) (w:World) (hs:s.size<=1048576) (h1:1<=n) (h2:n<=8) :
  Calls Tryz.prog 13 #[.string s,.int .i64 n] w fun e w'=>e=.returned (.string ⟨(Hj (Bs s.data.toList) n).toArray⟩)/\Below w.heap.size w w':=by
 obtain⟨i0,hi,hz0,hz1,hz2⟩:=info_parts Tryz.info5
 obtain⟨hV1,hV2⟩:=Hy s.data.toList
 generalize hV:Bs s.data.toList=V at *
 have HV:Hd (Bs s.data.toList=V):=hV
 clear hV
 go_enter Tryz.func13,Tryz.ntmps13
 go_wp2_with (first|(go_at_call 32;refine(Zc _ _ (by omega) (by omega)).mono ?_;rintro e w' ⟨rfl,rfl⟩))
 go_loop [5,6] (fun v i=>∃ k:Nat,k<=s.size/\i=.int .i64 k/\v=.int .u64 (Bs (s.data.toList.take k))) (fun _ i=>s.size-(intOf i).toNat)
 case atStart=>exact⟨0,Nat.zero_le _,rfl,rfl⟩
 case round=>
  obtain⟨k,hk,rfl,rfl⟩:=hrel
  by_cases hlt:k<s.size
  ·have HS:Hd (Bs (s.data.toList.take (k+1))=Mc (Bs (s.data.toList.take k)) s[k].toNat):=by rw[Ez s k hlt];exact Fu _ _
   go_wp2
   go_round
   case rel=>exact⟨k+1,by omega,by go_num,by rw[HS.o];rfl⟩
   case measure=>simp[intOf];omega
  ·rw[show s.data.toList.take k=s.data.toList from List.take_of_length_le (by simp;omega)];rw[HV.o];go_wp2
   go_loopw [5,7,8] (fun v o i wr=>∃ k:Nat,∃ g cap:Nat,k<=n/\i=.int .i64 k/\v=.int .u64 (V / 256 ^ k)/\o=.slice (some ⟨g,0,none⟩) k cap∧
     wr.ownsRow w.heap.size 5 1 (.slice (some ⟨g,0,none⟩) k cap) k (Jm V k)/\Below w.heap.size w wr)
    (fun _ _ i _=>n-(intOf i).toNat)
   case atStart=>
    refine⟨0,w.heap.size,0,Nat.zero_le _,rfl,by simp,rfl,?_,aN _ _⟩;exact World.ownsRow_lit w #[] 0 (Nat.le_refl _) (by unfold maxLen;omega) (by simp)
   case round=>
    obtain⟨j,g,cap,hj,rfl,rfl,rfl,hown,hbel⟩:=hrel;obtain⟨hd1,hd2⟩:=div_bd V j hV1 hV2;have hsz:=hbel.size
    by_cases hjn:j<n
    ·have hnew:=World.ownsRow_lit (base:=w.heap.size) (e:=5) (size:=1) wr #[Value.int .u8 (V / 256 ^ j % 256)] 1 hsz (by unfold maxLen;omega) (by simp);have hcs:=(hown.alloc (.cells #[Value.int .u8 (V / 256 ^ j % 256)] 5)).cells (g:=g) rfl
     go_wp2_with (first|(at_builtin;refine wpList_append_own _ rfl (.tmp 34) (.tmp 35) 22 rfl w.heap.size 5 i0 (.int .u8 0) 1 1 Tryz.underlying22 hi hz0 hz1 hz2 rfl (by decide) _ _ _ rfl hnew ⟨g,0,none⟩ j cap (Jm V j) rfl (by simp[Ui]) hcs (dcells_one V j) (by unfold maxLen;omega) (by omega) (by simp;omega) ?_;intro v' w1 hown' hgrow hnil;obtain⟨g',cap',hv',R⟩:=Vt hV1 hsz hbel hown' hgrow hnil;clear hown' hgrow hnil hnew hcs hown hbel;rw[hv'];clear hv'))
     go_roundw
     case rel=>exact⟨j+1,g',cap',by omega,by go_num,by rw[div_succ],rfl,R.1,R.2⟩
     case measure=>simp[intOf];omega
    ·have ej:j=n:=by omega
     have hcv:(convert 22 9 (.slice (some ⟨g,0,none⟩) j cap)).run Tryz.prog wr=.ok (.string ⟨(Hj V j).toArray⟩) wr:=by
      have:=run_convert_bytes_back (P:=Tryz.prog) wr 22 9 5 ⟨g,0,none⟩ cap (Hj V j) Tryz.underlying22 Tryz.underlying5 Tryz.underlying9 (fun t ht=>hown.cells rfl t _ (by rw[Jm,List.getElem?_map,gQ ht];rfl))
      rwa [Gw] at this
     have Hej:Hd (j=n):=ej;clear ej;go_wp2;go_ret;exact⟨by rw[Hej.o];rfl,hbel⟩
theorem cells8_1 (V:Int):Ba V 1=#[.int .u8 (V % 256),.int .u8 (0),.int .u8 (0),.int .u8 (0),.int .u8 (0),.int .u8 (0),.int .u8 (0),.int .u8 (0)]:=by
 simp[Ba,Cv]
theorem sumBytes_1 (s:ByteArray) (w:World) (hs:s.size<=1048576) :
  Calls Tryz.prog 51 #[.string s,.int .i64 1] w fun e w'=>e=.returned (.agg (Ba (Bs s.data.toList) 1))∧
   (w.alloc (.cells (Ba (Bs s.data.toList) 1) 109)).alloc (.cells (Ba (Bs s.data.toList) 1) 109)=w':=by
 obtain⟨hV1,hV2⟩:=Hy s.data.toList
 generalize hV:Bs s.data.toList=V at *
 have HV:Hd (Bs s.data.toList=V):=hV
 clear hV
 rw[cells8_1]
 go_enter Tryz.func51,Tryz.ntmps51
 go_wp2
 go_loop [5,6,11] (fun v _ i=>∃ k:Nat,k<=s.size/\i=.int .i64 k/\v=.int .u64 (Bs (s.data.toList.take k))) (fun _ _ i=>s.size-(intOf i).toNat)
 case atStart=>exact⟨0,Nat.zero_le _,rfl,rfl⟩
 case round=>
  obtain⟨k,hk,rfl,rfl⟩:=hrel
  by_cases hlt:k<s.size
  ·have HS:Hd (Bs (s.data.toList.take (k+1))=Mc (Bs (s.data.toList.take k)) s[k].toNat):=by rw[Ez s k hlt];exact Fu _ _
   go_wp2
   go_round
   case rel=>exact⟨k+1,by omega,by go_num,by rw[HS.o];rfl⟩
   case measure=>simp[intOf];omega
  ·rw[show s.data.toList.take k=s.data.toList from List.take_of_length_le (by simp;omega)];rw[HV.o];go_wp2;refine wp_loop_rounds 2 ?_
   iterate 2 (rw[rounds_succ];go_wp2)
   exact bR (v:=.agg #[.int .u8 (V % 256),.int .u8 (0),.int .u8 (0),.int .u8 (0),.int .u8 (0),.int .u8 (0),.int .u8 (0),.int .u8 (0)]) (by simp[results,Tryz.results51,go_sem]) rfl ⟨rfl,rfl⟩
theorem cells8_2 (V:Int):Ba V 2=#[.int .u8 (V / 256 % 256),.int .u8 (V % 256),.int .u8 (0),.int .u8 (0),.int .u8 (0),.int .u8 (0),.int .u8 (0),.int .u8 (0)]:=by
 simp[Ba,Cv]
theorem sumBytes_2 (s:ByteArray) (w:World) (hs:s.size<=1048576) :
  Calls Tryz.prog 51 #[.string s,.int .i64 2] w fun e w'=>e=.returned (.agg (Ba (Bs s.data.toList) 2))∧
   (w.alloc (.cells (Ba (Bs s.data.toList) 2) 109)).alloc (.cells (Ba (Bs s.data.toList) 2) 109)=w':=by
 obtain⟨hV1,hV2⟩:=Hy s.data.toList
 generalize hV:Bs s.data.toList=V at *
 have HV:Hd (Bs s.data.toList=V):=hV
 clear hV
 rw[cells8_2]
 go_enter Tryz.func51,Tryz.ntmps51
 go_wp2
 go_loop [5,6,11] (fun v _ i=>∃ k:Nat,k<=s.size/\i=.int .i64 k/\v=.int .u64 (Bs (s.data.toList.take k))) (fun _ _ i=>s.size-(intOf i).toNat)
 case atStart=>exact⟨0,Nat.zero_le _,rfl,rfl⟩
 case round=>
  obtain⟨k,hk,rfl,rfl⟩:=hrel
  by_cases hlt:k<s.size
  ·have HS:Hd (Bs (s.data.toList.take (k+1))=Mc (Bs (s.data.toList.take k)) s[k].toNat):=by rw[Ez s k hlt];exact Fu _ _
   go_wp2
   go_round
   case rel=>exact⟨k+1,by omega,by go_num,by rw[HS.o];rfl⟩
   case measure=>simp[intOf];omega
  ·rw[show s.data.toList.take k=s.data.toList from List.take_of_length_le (by simp;omega)];rw[HV.o];go_wp2;refine wp_loop_rounds 3 ?_
   iterate 3 (rw[rounds_succ];go_wp2)
   exact bR (v:=.agg #[.int .u8 (V / 256 % 256),.int .u8 (V % 256),.int .u8 (0),.int .u8 (0),.int .u8 (0),.int .u8 (0),.int .u8 (0),.int .u8 (0)]) (by simp[results,Tryz.results51,go_sem]) rfl ⟨rfl,rfl⟩
theorem cells8_3 (V:Int):Ba V 3=#[.int .u8 (V / 256 / 256 % 256),.int .u8 (V / 256 % 256),.int .u8 (V % 256),.int .u8 (0),.int .u8 (0),.int .u8 (0),.int .u8 (0),.int .u8 (0)]:=by
 simp[Ba,Cv]
 omega
theorem sumBytes_3 (s:ByteArray) (w:World) (hs:s.size<=1048576) :
  Calls Tryz.prog 51 #[.string s,.int .i64 3] w fun e w'=>e=.returned (.agg (Ba (Bs s.data.toList) 3))∧
   (w.alloc (.cells (Ba (Bs s.data.toList) 3) 109)).alloc (.cells (Ba (Bs s.data.toList) 3) 109)=w':=by
 obtain⟨hV1,hV2⟩:=Hy s.data.toList
 generalize hV:Bs s.data.toList=V at *
 have HV:Hd (Bs s.data.toList=V):=hV
 clear hV
 rw[cells8_3]
 go_enter Tryz.func51,Tryz.ntmps51
 go_wp2
 go_loop [5,6,11] (fun v _ i=>∃ k:Nat,k<=s.size/\i=.int .i64 k/\v=.int .u64 (Bs (s.data.toList.take k))) (fun _ _ i=>s.size-(intOf i).toNat)
 case atStart=>exact⟨0,Nat.zero_le _,rfl,rfl⟩
 case round=>
  obtain⟨k,hk,rfl,rfl⟩:=hrel
  by_cases hlt:k<s.size
  ·have HS:Hd (Bs (s.data.toList.take (k+1))=Mc (Bs (s.data.toList.take k)) s[k].toNat):=by rw[Ez s k hlt];exact Fu _ _
   go_wp2
   go_round
   case rel=>exact⟨k+1,by omega,by go_num,by rw[HS.o];rfl⟩
   case measure=>simp[intOf];omega
  ·rw[show s.data.toList.take k=s.data.toList from List.take_of_length_le (by simp;omega)];rw[HV.o];go_wp2;refine wp_loop_rounds 4 ?_
   iterate 4 (rw[rounds_succ];go_wp2)
   exact bR (v:=.agg #[.int .u8 (V / 256 / 256 % 256),.int .u8 (V / 256 % 256),.int .u8 (V % 256),.int .u8 (0),.int .u8 (0),.int .u8 (0),.int .u8 (0),.int .u8 (0)]) (by simp[results,Tryz.results51,go_sem]) rfl ⟨rfl,rfl⟩
theorem cells8_4 (V:Int):Ba V 4=#[.int .u8 (V / 256 / 256 / 256 % 256),.int .u8 (V / 256 / 256 % 256),.int .u8 (V / 256 % 256),.int .u8 (V % 256),.int .u8 (0),.int .u8 (0),.int .u8 (0),.int .u8 (0)]:=by
 simp[Ba,Cv]
 omega
theorem sumBytes_4 (s:ByteArray) (w:World) (hs:s.size<=1048576) :
  Calls Tryz.prog 51 #[.string s,.int .i64 4] w fun e w'=>e=.returned (.agg (Ba (Bs s.data.toList) 4))∧
   (w.alloc (.cells (Ba (Bs s.data.toList) 4) 109)).alloc (.cells (Ba (Bs s.data.toList) 4) 109)=w':=by
 obtain⟨hV1,hV2⟩:=Hy s.data.toList
 generalize hV:Bs s.data.toList=V at *
 have HV:Hd (Bs s.data.toList=V):=hV
 clear hV
 rw[cells8_4]
 go_enter Tryz.func51,Tryz.ntmps51
 go_wp2
 go_loop [5,6,11] (fun v _ i=>∃ k:Nat,k<=s.size/\i=.int .i64 k/\v=.int .u64 (Bs (s.data.toList.take k))) (fun _ _ i=>s.size-(intOf i).toNat)
 case atStart=>exact⟨0,Nat.zero_le _,rfl,rfl⟩
 case round=>
  obtain⟨k,hk,rfl,rfl⟩:=hrel
  by_cases hlt:k<s.size
  ·have HS:Hd (Bs (s.data.toList.take (k+1))=Mc (Bs (s.data.toList.take k)) s[k].toNat):=by rw[Ez s k hlt];exact Fu _ _
   go_wp2
   go_round
   case rel=>exact⟨k+1,by omega,by go_num,by rw[HS.o];rfl⟩
   case measure=>simp[intOf];omega
  ·rw[show s.data.toList.take k=s.data.toList from List.take_of_length_le (by simp;omega)];rw[HV.o];go_wp2;refine wp_loop_rounds 5 ?_
   iterate 5 (rw[rounds_succ];go_wp2)
   exact bR (v:=.agg #[.int .u8 (V / 256 / 256 / 256 % 256),.int .u8 (V / 256 / 256 % 256),.int .u8 (V / 256 % 256),.int .u8 (V % 256),.int .u8 (0),.int .u8 (0),.int .u8 (0),.int .u8 (0)]) (by simp[results,Tryz.results51,go_sem]) rfl ⟨rfl,rfl⟩
theorem cells8_5 (V:Int):Ba V 5=#[.int .u8 (V / 256 / 256 / 256 / 256 % 256),.int .u8 (V / 256 / 256 / 256 % 256),.int .u8 (V / 256 / 256 % 256),.int .u8 (V / 256 % 256),.int .u8 (V % 256),.int .u8 (0),.int .u8 (0),.int .u8 (0)]:=by
 simp[Ba,Cv]
 omega
theorem sumBytes_5 (s:ByteArray) (w:World) (hs:s.size<=1048576) :
  Calls Tryz.prog 51 #[.string s,.int .i64 5] w fun e w'=>e=.returned (.agg (Ba (Bs s.data.toList) 5))∧
   (w.alloc (.cells (Ba (Bs s.data.toList) 5) 109)).alloc (.cells (Ba (Bs s.data.toList) 5) 109)=w':=by
 obtain⟨hV1,hV2⟩:=Hy s.data.toList
 generalize hV:Bs s.data.toList=V at *
 have HV:Hd (Bs s.data.toList=V):=hV
 clear hV
 rw[cells8_5]
 go_enter Tryz.func51,Tryz.ntmps51
 go_wp2
 go_loop [5,6,11] (fun v _ i=>∃ k:Nat,k<=s.size/\i=.int .i64 k/\v=.int .u64 (Bs (s.data.toList.take k))) (fun _ _ i=>s.size-(intOf i).toNat)
 case atStart=>exact⟨0,Nat.zero_le _,rfl,rfl⟩
 case round=>
  obtain⟨k,hk,rfl,rfl⟩:=hrel
  by_cases hlt:k<s.size
  ·have HS:Hd (Bs (s.data.toList.take (k+1))=Mc (Bs (s.data.toList.take k)) s[k].toNat):=by rw[Ez s k hlt];exact Fu _ _
   go_wp2
   go_round
   case rel=>exact⟨k+1,by omega,by go_num,by rw[HS.o];rfl⟩
   case measure=>simp[intOf];omega
  ·rw[show s.data.toList.take k=s.data.toList from List.take_of_length_le (by simp;omega)];rw[HV.o];go_wp2;refine wp_loop_rounds 6 ?_
   iterate 6 (rw[rounds_succ];go_wp2)
   exact bR (v:=.agg #[.int .u8 (V / 256 / 256 / 256 / 256 % 256),.int .u8 (V / 256 / 256 / 256 % 256),.int .u8 (V / 256 / 256 % 256),.int .u8 (V / 256 % 256),.int .u8 (V % 256),.int .u8 (0),.int .u8 (0),.int .u8 (0)]) (by simp[results,Tryz.results51,go_sem]) rfl ⟨rfl,rfl⟩
theorem cells8_6 (V:Int):Ba V 6=#[.int .u8 (V / 256 / 256 / 256 / 256 / 256 % 256),.int .u8 (V / 256 / 256 / 256 / 256 % 256),.int .u8 (V / 256 / 256 / 256 % 256),.int .u8 (V / 256 / 256 % 256),.int .u8 (V / 256 % 256),.int .u8 (V % 256),.int .u8 (0),.int .u8 (0)]:=by
 simp[Ba,Cv]
 omega
theorem sumBytes_6 (s:ByteArray) (w:World) (hs:s.size<=1048576) :
  Calls Tryz.prog 51 #[.string s,.int .i64 6] w fun e w'=>e=.returned (.agg (Ba (Bs s.data.toList) 6))∧
   (w.alloc (.cells (Ba (Bs s.data.toList) 6) 109)).alloc (.cells (Ba (Bs s.data.toList) 6) 109)=w':=by
 obtain⟨hV1,hV2⟩:=Hy s.data.toList
 generalize hV:Bs s.data.toList=V at *
 have HV:Hd (Bs s.data.toList=V):=hV
 clear hV
 rw[cells8_6]
 go_enter Tryz.func51,Tryz.ntmps51
 go_wp2
 go_loop [5,6,11] (fun v _ i=>∃ k:Nat,k<=s.size/\i=.int .i64 k/\v=.int .u64 (Bs (s.data.toList.take k))) (fun _ _ i=>s.size-(intOf i).toNat)
 case atStart=>exact⟨0,Nat.zero_le _,rfl,rfl⟩
 case round=>
  obtain⟨k,hk,rfl,rfl⟩:=hrel
  by_cases hlt:k<s.size
  ·have HS:Hd (Bs (s.data.toList.take (k+1))=Mc (Bs (s.data.toList.take k)) s[k].toNat):=by rw[Ez s k hlt];exact Fu _ _
   go_wp2
   go_round
   case rel=>exact⟨k+1,by omega,by go_num,by rw[HS.o];rfl⟩
   case measure=>simp[intOf];omega
  ·rw[show s.data.toList.take k=s.data.toList from List.take_of_length_le (by simp;omega)];rw[HV.o];go_wp2;refine wp_loop_rounds 7 ?_
   iterate 7 (rw[rounds_succ];go_wp2)
   exact bR (v:=.agg #[.int .u8 (V / 256 / 256 / 256 / 256 / 256 % 256),.int .u8 (V / 256 / 256 / 256 / 256 % 256),.int .u8 (V / 256 / 256 / 256 % 256),.int .u8 (V / 256 / 256 % 256),.int .u8 (V / 256 % 256),.int .u8 (V % 256),.int .u8 (0),.int .u8 (0)]) (by simp[results,Tryz.results51,go_sem]) rfl ⟨rfl,rfl⟩
theorem cells8_7 (V:Int):Ba V 7=#[.int .u8 (V / 256 / 256 / 256 / 256 / 256 / 256 % 256),.int .u8 (V / 256 / 256 / 256 / 256 / 256 % 256),.int .u8 (V / 256 / 256 / 256 / 256 % 256),.int .u8 (V / 256 / 256 / 256 % 256),.int .u8 (V / 256 / 256 % 256),.int .u8 (V / 256 % 256),.int .u8 (V % 256),.int .u8 (0)]:=by
 simp[Ba,Cv]
 omega
theorem sumBytes_7 (s:ByteArray) (w:World) (hs:s.size<=1048576) :
  Calls Tryz.prog 51 #[.string s,.int .i64 7] w fun e w'=>e=.returned (.agg (Ba (Bs s.data.toList) 7))∧
   (w.alloc (.cells (Ba (Bs s.data.toList) 7) 109)).alloc (.cells (Ba (Bs s.data.toList) 7) 109)=w':=by
 obtain⟨hV1,hV2⟩:=Hy s.data.toList
 generalize hV:Bs s.data.toList=V at *
 have HV:Hd (Bs s.data.toList=V):=hV
 clear hV
 rw[cells8_7]
 go_enter Tryz.func51,Tryz.ntmps51
 go_wp2
 go_loop [5,6,11] (fun v _ i=>∃ k:Nat,k<=s.size/\i=.int .i64 k/\v=.int .u64 (Bs (s.data.toList.take k))) (fun _ _ i=>s.size-(intOf i).toNat)
 case atStart=>exact⟨0,Nat.zero_le _,rfl,rfl⟩
 case round=>
  obtain⟨k,hk,rfl,rfl⟩:=hrel
  by_cases hlt:k<s.size
  ·have HS:Hd (Bs (s.data.toList.take (k+1))=Mc (Bs (s.data.toList.take k)) s[k].toNat):=by rw[Ez s k hlt];exact Fu _ _
   go_wp2
   go_round
   case rel=>exact⟨k+1,by omega,by go_num,by rw[HS.o];rfl⟩
   case measure=>simp[intOf];omega
  ·rw[show s.data.toList.take k=s.data.toList from List.take_of_length_le (by simp;omega)];rw[HV.o];go_wp2;refine wp_loop_rounds 8 ?_
   iterate 8 (rw[rounds_succ];go_wp2)
   exact bR (v:=.agg #[.int .u8 (V / 256 / 256 / 256 / 256 / 256 / 256 % 256),.int .u8 (V / 256 / 256 / 256 / 256 / 256 % 256),.int .u8 (V / 256 / 256 / 256 / 256 % 256),.int .u8 (V / 256 / 256 / 256 % 256),.int .u8 (V / 256 / 256 % 256),.int .u8 (V / 256 % 256),.int .u8 (V % 256),.int .u8 (0)]) (by simp[results,Tryz.results51,go_sem]) rfl ⟨rfl,rfl⟩
theorem cells8_8 (V:Int) (h1:0<=V) (h2:V<18446744073709551616):Ba V 8=#[.int .u8 (V / 256 / 256 / 256 / 256 / 256 / 256 / 256),.int .u8 (V / 256 / 256 / 256 / 256 / 256 / 256 % 256),.int .u8 (V / 256 / 256 / 256 / 256 / 256 % 256),.int .u8 (V / 256 / 256 / 256 / 256 % 256),.int .u8 (V / 256 / 256 / 256 % 256),.int .u8 (V / 256 / 256 % 256),.int .u8 (V / 256 % 256),.int .u8 (V % 256)]:=by
 simp[Ba,Cv]
 omega
theorem sumBytes_8 (s:ByteArray) (w:World) (hs:s.size<=1048576) :
  Calls Tryz.prog 51 #[.string s,.int .i64 8] w fun e w'=>e=.returned (.agg (Ba (Bs s.data.toList) 8))∧
   (w.alloc (.cells (Ba (Bs s.data.toList) 8) 109)).alloc (.cells (Ba (Bs s.data.toList) 8) 109)=w':=by
 obtain⟨hV1,hV2⟩:=Hy s.data.toList
 generalize hV:Bs s.data.toList=V at *
 have HV:Hd (Bs s.data.toList=V):=hV
 clear hV
 rw[cells8_8 V hV1 hV2]
 go_enter Tryz.func51,Tryz.ntmps51
 go_wp2
 go_loop [5,6,11] (fun v _ i=>∃ k:Nat,k<=s.size/\i=.int .i64 k/\v=.int .u64 (Bs (s.data.toList.take k))) (fun _ _ i=>s.size-(intOf i).toNat)
 case atStart=>exact⟨0,Nat.zero_le _,rfl,rfl⟩
 case round=>
  obtain⟨k,hk,rfl,rfl⟩:=hrel
  by_cases hlt:k<s.size
  ·have HS:Hd (Bs (s.data.toList.take (k+1))=Mc (Bs (s.data.toList.take k)) s[k].toNat):=by rw[Ez s k hlt];exact Fu _ _
   go_wp2
   go_round
   case rel=>exact⟨k+1,by omega,by go_num,by rw[HS.o];rfl⟩
   case measure=>simp[intOf];omega
  ·rw[show s.data.toList.take k=s.data.toList from List.take_of_length_le (by simp;omega)];rw[HV.o];go_wp2;refine wp_loop_rounds 9 ?_
   iterate 9 (rw[rounds_succ];go_wp2)
   exact bR (v:=.agg #[.int .u8 (V / 256 / 256 / 256 / 256 / 256 / 256 / 256),.int .u8 (V / 256 / 256 / 256 / 256 / 256 / 256 % 256),.int .u8 (V / 256 / 256 / 256 / 256 / 256 % 256),.int .u8 (V / 256 / 256 / 256 / 256 % 256),.int .u8 (V / 256 / 256 / 256 % 256),.int .u8 (V / 256 / 256 % 256),.int .u8 (V / 256 % 256),.int .u8 (V % 256)]) (by simp[results,Tryz.results51,go_sem]) rfl ⟨rfl,rfl⟩
theorem Vr (s:ByteArray) (n:Nat) (w:World) (hs:s.size<=1048576) (h1:1<=n) (h2:n<=8) :
  Calls Tryz.prog 51 #[.string s,.int .i64 n] w fun e w'=>e=.returned (.agg (Ba (Bs s.data.toList) n))∧
   (w.alloc (.cells (Ba (Bs s.data.toList) n) 109)).alloc (.cells (Ba (Bs s.data.toList) n) 109)=w':=by
 rcases (show n=1\/n=2\/n=3\/n=4\/n=5\/n=6\/n=7\/n=8 from by omega) with rfl|rfl|rfl|rfl|rfl|rfl|rfl|rfl
 ·exact sumBytes_1 s w hs
 ·exact sumBytes_2 s w hs
 ·exact sumBytes_3 s w hs
 ·exact sumBytes_4 s w hs
 ·exact sumBytes_5 s w hs
 ·exact sumBytes_6 s w hs
 ·exact sumBytes_7 s w hs
 ·exact sumBytes_8 s w hs
theorem slice8 (n:Nat) (h2:n<=8) (a:Addr) (w:World):(Instr.sliceAt 109 (.pointer (some a)) none (some (.int .i64 n)) none).run Tryz.prog w=.ok (.slice (some a) n 8) w:=by
 have hl:Tryz.prog.arrayLen 109=8:=by kernel_rfl
 rw[run_sliceAt_array_h w 109 a (by kernel_rfl) .i64 n (by omega) (by rw[hl];omega),hl]
 simp[go_sem]
theorem Vq (s:ByteArray) (n:Nat) (V:Int) (w:World) (HV:Hd (Bs s.data.toList=V)) (hs:s.size<=1048576) (h1:1<=n) (h2:n<=8) :
  Calls Tryz.prog 51 #[.string s,.int .i64 n] w fun e w'=>e=.returned (.agg #[.int .u8 (Cv V n 0),.int .u8 (Cv V n 1),.int .u8 (Cv V n 2),.int .u8 (Cv V n 3),.int .u8 (Cv V n 4),.int .u8 (Cv V n 5),.int .u8 (Cv V n 6),.int .u8 (Cv V n 7)])∧
   (w.alloc (.cells #[.int .u8 (Cv V n 0),.int .u8 (Cv V n 1),.int .u8 (Cv V n 2),.int .u8 (Cv V n 3),.int .u8 (Cv V n 4),.int .u8 (Cv V n 5),.int .u8 (Cv V n 6),.int .u8 (Cv V n 7)] 109)).alloc (.cells #[.int .u8 (Cv V n 0),.int .u8 (Cv V n 1),.int .u8 (Cv V n 2),.int .u8 (Cv V n 3),.int .u8 (Cv V n 4),.int .u8 (Cv V n 5),.int .u8 (Cv V n 6),.int .u8 (Cv V n 7)] 109)=w':=by
 have h:=Vr s n w hs h1 h2
 rw[HV.o] at h
 exact h
theorem Gv (s:ByteArray) (n:Nat) (w:World) (hs:s.size<=1048576) (h1:1<=n) (h2:n<=8) :
  Calls Tryz.prog 29 #[.string s,.int .i64 n] w fun e w'=>e=.returned (.string ⟨(Hj (Bs s.data.toList) n).toArray⟩)/\Below w.heap.size w w':=by
 obtain⟨hV1,hV2⟩:=Hy s.data.toList
 generalize hV:Bs s.data.toList=V at *
 have HV:Hd (Bs s.data.toList=V):=hV
 clear hV
 have hcv:(convert 22 9 (.slice (some ⟨w.heap.size+1+1,0,none⟩) n 8)).run Tryz.prog (((w.alloc (.cells (Ba V n) 109)).alloc (.cells (Ba V n) 109)).alloc (.cells (Ba V n) 109))=.ok (.string ⟨(Hj V n).toArray⟩) (((w.alloc (.cells (Ba V n) 109)).alloc (.cells (Ba V n) 109)).alloc (.cells (Ba V n) 109)):=by
  have:=run_convert_bytes_back (P:=Tryz.prog) (((w.alloc (.cells (Ba V n) 109)).alloc (.cells (Ba V n) 109)).alloc (.cells (Ba V n) 109)) 22 9 5 ⟨w.heap.size+1+1,0,none⟩ 8 (Hj V n) Tryz.underlying22 Tryz.underlying5 Tryz.underlying9 (fun t ht=>by
   rw[<- cell8_digs V hV1 n t ht];have hn:t<n:=by simpa [Gw] using ht
   rcases (show t=0\/t=1\/t=2\/t=3\/t=4\/t=5\/t=6\/t=7 from by omega) with rfl|rfl|rfl|rfl|rfl|rfl|rfl|rfl<;>simp[Ba,Addr.add,go_sem])
  rwa [Gw] at this
 simp only[Ba] at hcv
 have hsl:=slice8 n h2
 go_enter Tryz.func29,Tryz.ntmps29
 go_wp2_with (first|(go_at_call 27;refine(Hb _ _ (by omega) (by omega)).mono ?_;rintro e w' ⟨rfl,rfl⟩)|(go_at_call 51;refine(Vq s n V _ HV hs h1 h2).mono ?_;rintro e w' ⟨rfl,rfl⟩))
 go_ret
 exact⟨rfl,((aN _ _).alloc (by simp) _).alloc (by simp;omega) _⟩



def Ap (n:Nat) (s:ByteArray):ByteArray:=⟨(Hj (Bs s.data.toList) n).toArray⟩
def GlOk (n:Nat) (g:G3):Prop:=Aq g.name/\g.sum.size=n
def Kt (n:Nat) (r:T3):Prop:=Ah r.code=true/\r.out.size=n/\r.looks.length<=200/\∀ i,i<r.looks.length->GlOk n (gx r.looks i)
def TxOk (n:Nat) (ts:List ByteArray):Prop:=ts.length<=5000/\(∀ i,i<ts.length->(nx ts i).size<=2002)/\Ey (ts.map (Ap n))
def StoOk (n:Nat) (ts:List ByteArray) (rs:List T3):Prop:=TxOk n ts/\rs.length<=2000/\∀ i,i<rs.length->Kt n (qx rs i)
theorem Ir (n:Nat) (ts:List ByteArray) (i:Nat) (h:i<ts.length):nx (ts.map (Ap n)) i=Ap n (nx ts i):=by
 unfold nx
 rw[gG,gG,List.getElem?_map,gQ h]
 rfl
theorem b_iff {b:Bool} {P:Prop} (h:b=true↔P):(P/\b=true)\/(¬ P/\b=false):=by
 cases b
 ·exact Or.inr ⟨fun p=>absurd (h.2 p) (by simp),rfl⟩
 ·exact Or.inl ⟨h.1 rfl,rfl⟩
structure Qn (w:World) (a:Option Addr) (is:List I3) (la:Option Addr) (gs:List G3):Prop where
 rc:Dr w a is
 rg:Ks w la gs
 lc:is.length<=1048576
 lg:gs.length<=1048576
 xc:∀ i,(ix is i).text.size<=maxLen
 ng:∀ i,(gx gs i).name.size<=maxLen
 sg:∀ i,(gx gs i).sum.size<=maxLen
theorem Lg (a la:Option Addr) (cap lc:Nat) (is:List I3) (gs:List G3) (out:ByteArray) (n:Nat) (w:World) (hT:Jr w) (h8:n<=8) (h:Qn w a is la gs) (ho:out.size<=maxLen) :
  Calls Tryz.prog 35 #[.agg #[.slice a is.length cap,.slice la gs.length lc,.string out],.int .i64 n] w fun e w'=>Below w.heap.size w w'/\∃ b,e=.returned (.bool b)/\(b=true↔Kt n ⟨is,gs,out⟩):=by
 have hb0:Below w.heap.size w (w.alloc (.cells #[.slice a is.length cap,.slice la gs.length lc,.string out] 52)):=aN _ _
 have k1:(w.alloc (.cells #[.slice a is.length cap,.slice la gs.length lc,.string out] 52)).cell? ⟨w.heap.size,1,none⟩=some (.slice la gs.length lc):=by simp[go_sem]
 have k2:(w.alloc (.cells #[.slice a is.length cap,.slice la gs.length lc,.string out] 52)).cell? ⟨w.heap.size,2,none⟩=some (.string out):=by simp[go_sem]
 unfold maxLen at ho
 have hlg:=h.lg
 have HRG:Hd (Ks w la gs):=h.rg
 have HNG:Hd (∀ i,(gx gs i).name.size<=maxLen):=h.ng
 have HSG:Hd (∀ i,(gx gs i).sum.size<=maxLen):=h.sg
 obtain⟨v,ev⟩:∃ v,Ah is=v:=⟨_,rfl⟩
 have EV:Hd (Ah is=v):=ev
 go_enter Tryz.func35,Tryz.ntmps35
 go_wp2_with fail
 refine(Hx a cap is _ (hT.bl hb0) (h.rc.bl hb0) h.lc h.xc).mono ?_
 rintro e w1 ⟨hb1,rfl⟩
 rw[ev]
 have hB1:=bt hb0 hb1
 have k11:=Ab hb1 k1
 have k12:=Ab hb1 k2
 clear hb0 hb1 k1 k2 h ev
 cases v
 ·go_wp2;go_ret;exact⟨hB1,false,rfl,Fb (fun k=>by have:=k.1;rw[EV.o] at this;cases this)⟩
 ·by_cases h2:out.size=n
  ·have d2:((out.size:Int) != (n:Int))=false:=by simp;omega
   have H2:Hd (out.size=n):=h2;clear h2
   by_cases h3:200<gs.length
   ·(have d3:decide ((200:Int)<(gs.length:Int))=true:=by simp;omega);go_wp2;go_ret;exact⟨hB1,false,rfl,Fb (fun k=>by have:=k.2.2.1;simp only at this;omega)⟩
   ·(have d3:decide ((200:Int)<(gs.length:Int))=false:=by simp;omega);go_wp2
    go_loopw [27] (fun i wr=>∃ k:Nat,k<=gs.length/\i=.int .i64 k/\Hd (∀ i,i<k->GlOk n (gx gs i))/\Below w.heap.size w wr) (fun i _=>gs.length-(intOf i).toNat)
    case atStart=>exact⟨0,Nat.zero_le _,rfl,(fun i hi=>by omega:∀ i,i<0->GlOk n (gx gs i)),hB1⟩
    case round=>
     obtain⟨k,hk,rfl,HK,hbr⟩:=hrel
     by_cases hlt:k<gs.length
     ·obtain⟨b,off,rfl,c1,c2,c3⟩:=(HRG.o.bl hbr) k hlt;have hnk:=HNG.o k;have hsk:=HSG.o k;have HG1:Hd (GlOk n (gx gs k)->∀ i,i<k+1->GlOk n (gx gs i)):=fun hg=>Dc HK.o hg;have HG0:Hd (¬ GlOk n (gx gs k)->¬ Kt n ⟨is,gs,out⟩):=fun hg h=>hg (h.2.2.2 k hlt);generalize gx gs k=g at *;unfold maxLen at hnk hsk;clear k11 k12
      by_cases g1:Aq g.name
      ·have e1:=Dn g1
       by_cases g2:g.sum.size=n
       ·(have d4:((g.sum.size:Int) != (n:Int))=false:=by simp;omega);have HO:Hd (∀ i,i<k+1->GlOk n (gx gs i)):=HG1.o ⟨g1,g2⟩;clear g2
        go_wp2_with (first|(go_at_call 30;refine(Cy g.name _ hnk).mono ?_;rintro e w9 ⟨rfl,rfl⟩;rw[e1]))
        go_roundw
        case rel=>exact⟨k+1,by omega,by go_num,HO.o,hbr.alloc hbr.size _⟩
        case measure=>simp[intOf];omega
       ·(have d4:((g.sum.size:Int) != (n:Int))=true:=by simp;omega);have HO:Hd (¬ Kt n ⟨is,gs,out⟩):=HG0.o (fun h=>g2 h.2);clear g2
        go_wp2_with (first|(go_at_call 30;refine(Cy g.name _ hnk).mono ?_;rintro e w9 ⟨rfl,rfl⟩;rw[e1]))
        go_ret;exact⟨hbr.alloc hbr.size _,false,rfl,Fb HO.o⟩
      ·have e1:=Cq g1;have HO:Hd (¬ Kt n ⟨is,gs,out⟩):=HG0.o (fun h=>g1 h.1)
       go_wp2_with (first|(go_at_call 30;refine(Cy g.name _ hnk).mono ?_;rintro e w9 ⟨rfl,rfl⟩;rw[e1]))
       go_ret;exact⟨hbr.alloc hbr.size _,false,rfl,Fb HO.o⟩
     ·have HO:Hd (Kt n ⟨is,gs,out⟩):=⟨EV.o,H2.o,by show gs.length<=200;omega,fun i hi=>HK.o i (by simp only at hi;omega)⟩;go_wp2;go_ret;exact⟨hbr,true,rfl,Hf HO.o⟩
  ·have d2:((out.size:Int) != (n:Int))=true:=by simp;omega
   go_wp2;go_ret;exact⟨hB1,false,rfl,Fb (fun k=>h2 k.2.1)⟩
structure QsIn (w:World) (a:Option Addr) (rs:List T3):Prop where
 rq:RowQ w a rs
 ok:QsOk rs
 sm:QsSmall rs
theorem QsIn.bl {w w':World} {a:Option Addr} {rs:List T3} (h:QsIn w a rs) (hb:Below w.heap.size w w'):QsIn w' a rs:=⟨h.rq.bl hb,h.ok,h.sm⟩
theorem Pq (a:Option Addr) (cap:Nat) (rs:List T3) (n:Nat) (w:World) (hT:Jr w) (h8:n<=8) (h:QsIn w a rs) :
  Calls Tryz.prog 54 #[.slice a rs.length cap,.int .i64 n] w fun e w'=>Below w.heap.size w w'/\∃ b,e=.returned (.bool b)/\(b=true↔rs.length<=2000/\∀ i,i<rs.length->Kt n (qx rs i)):=by
 have hl:=h.sm.1
 have HQ:Hd (QsIn w a rs):=h
 have HT:Hd (Jr w):=hT
 clear h hT
 by_cases h1:2000<rs.length
 ·have d1:decide ((2000:Int)<(rs.length:Int))=true:=by simp;omega
  go_enter Tryz.func54,Tryz.ntmps54;go_wp2;go_ret;exact⟨Below.refl _ _,false,rfl,Fb (fun h=>by omega)⟩
 ·have d1:decide ((2000:Int)<(rs.length:Int))=false:=by simp;omega
  go_enter Tryz.func54,Tryz.ntmps54;go_wp2
  go_loopw [12] (fun i wr=>∃ k:Nat,k<=rs.length/\i=.int .i64 k/\Hd (∀ i,i<k->Kt n (qx rs i))/\Below w.heap.size w wr) (fun i _=>rs.length-(intOf i).toNat)
  case atStart=>exact⟨0,Nat.zero_le _,rfl,(fun i hi=>by omega:∀ i,i<0->Kt n (qx rs i)),Below.refl _ _⟩
  case round=>
   obtain⟨k,hk,rfl,HK,hbr⟩:=hrel
   by_cases hlt:k<rs.length
   ·have hq:=HQ.o.bl hbr;obtain⟨b,off,rfl,ca,cc,la,lc,c1,c2,c3,c4,c5⟩:=hq.rq k hlt;have hin:Qn wr ca (qx rs k).code la (qx rs k).looks:=⟨c4,c5,(hq.sm.2 k hlt).1,(hq.sm.2 k hlt).2,hq.ok.xc k,hq.ok.ng k,hq.ok.sg k⟩;have hou:=hq.ok.so k;have HG1:Hd (Kt n (qx rs k)->∀ i,i<k+1->Kt n (qx rs i)):=fun hg=>Dc HK.o hg;have HG0:Hd (¬ Kt n (qx rs k)->¬ (rs.length<=2000/\∀ i,i<rs.length->Kt n (qx rs i))):=fun hg h=>hg (h.2 k hlt);clear hq c4 c5;generalize qx rs k=x at *;obtain⟨xc,xl,xo⟩:=x;simp only at *;have HIN:Hd (Qn wr ca xc la xl):=hin;clear hin;have hb0:Below wr.heap.size wr (wr.alloc (.cells #[.slice ca xc.length cc,.slice la xl.length lc,.string xo] 52)):=aN _ _;have hin2:Qn (wr.alloc (.cells #[.slice ca xc.length cc,.slice la xl.length lc,.string xo] 52)) ca xc la xl:=⟨HIN.o.rc.bl hb0,HIN.o.rg.bl hb0,HIN.o.lc,HIN.o.lg,HIN.o.xc,HIN.o.ng,HIN.o.sg⟩;have HI2:Hd (Qn (wr.alloc (.cells #[.slice ca xc.length cc,.slice la xl.length lc,.string xo] 52)) ca xc la xl):=hin2;clear hin2;go_wp2_with fail;refine(Lg ca la cc lc xc xl xo n _ ((HT.o.bl hbr).bl hb0) h8 HI2.o hou).mono ?_;rintro e w2 ⟨hb2,b,rfl,hb⟩;have hB2:=bt hbr (bt hb0 hb2)
    rcases b_iff hb with ⟨hg,rfl⟩|⟨hg,rfl⟩
    ·have HO:Hd (∀ i,i<k+1->Kt n (qx rs i)):=HG1.o hg;clear hb hg hb0 hb2;go_wp2;go_roundw
     case rel=>exact⟨k+1,by omega,by go_num,HO.o,hB2⟩
     case measure=>simp[intOf];omega
    ·have HO:Hd (¬ (rs.length<=2000/\∀ i,i<rs.length->Kt n (qx rs i))):=HG0.o hg;clear hb hg hb0 hb2;go_wp2;go_ret;exact⟨hB2,false,rfl,Fb HO.o⟩
   ·go_wp2;go_ret;exact⟨hbr,true,rfl,Hf ⟨by omega,fun i hi=>HK.o i (by omega)⟩⟩
theorem Xi {w:World} {B n cap:Nat} {a:Option Addr} {ss:List ByteArray} (hn:n=ss.length) (h:w.ownsRow B 9 1 (.slice a n cap) n (ss.map .string)):Cp w a ss:=by
 subst hn
 intro i hi
 rcases h.2 with ⟨hv,h0⟩|⟨g,cap',cur,hv,_⟩
 ·omega
 ·simp only[Value.slice.injEq] at hv;obtain⟨rfl,_,_⟩:=hv;refine⟨g,0,rfl,?_⟩;rw[Nat.zero_add,h.cellAt i (by omega),List.getElem?_map,gQ hi,gG,gQ hi];rfl
theorem sumsOf_any (a:Option Addr) (cap:Nat) (ts:List ByteArray) (n:Nat) (w:World) (h1:1<=n) (h8:n<=8) (hc:Cp w a ts) (hl:ts.length<=1048576) (hs:∀ i,i<ts.length->(nx ts i).size<=2002) :
  Calls Tryz.prog 55 #[.slice a ts.length cap,.int .i64 n] w fun e w'=>Below w.heap.size w w'/\∃ g:Nat,e=.returned (.slice (some ⟨g,0,none⟩) ts.length ts.length)/\w.heap.size<=g/\w'.ownsRow w.heap.size 9 1 (.slice (some ⟨g,0,none⟩) ts.length ts.length) ts.length ((ts.map (Ap n)).map .string):=by
 have HC:Hd (Cp w a ts):=hc
 have HS:Hd (∀ i,i<ts.length->(nx ts i).size<=2002):=hs
 clear hc hs
 obtain⟨i0,hi,hz0,hz1,hz2⟩:=info_parts Tryz.info9
 obtain⟨ss,ess⟩:∃ ss,ts.map (Ap n)=ss:=⟨_,rfl⟩
 have HSL:Hd (ss.length=ts.length):=by show ss.length=ts.length;rw[<- ess,List.length_map]
 have HNX:Hd (∀ i,i<ts.length->nx ss i=Ap n (nx ts i)):=fun i h=>by rw[<- ess];exact Ir n ts i h
 rw[ess]
 clear ess
 go_enter Tryz.func55,Tryz.ntmps55
 go_wp2_with (first|(at_make;refine wpList_make_full _ rfl (.tmp 9) (.tmp 9) 30 rfl w.heap.size 9 i0 (.string ByteArray.empty) 1 Tryz.underlying30 hi hz0 hz1 .i64 .i64 _ _ ts.length rfl rfl rfl rfl (by rw[hz2];omega) (by unfold maxLen;omega) (Nat.le_refl _) ?_;intro w1 hown hgrow))
 rw[Wb] at hown
 have hbel1:Below w.heap.size w w1:=(Below.refl _ _).grown hgrow (Nat.le_refl _) (by simp)
 clear hgrow
 go_loopw [13] (fun i wr=>∃ k:Nat,k<=ts.length/\i=.int .i64 k/\Hd (wr.ownsRow w.heap.size 9 1 (.slice (some ⟨w.heap.size,0,none⟩) ts.length ts.length) ts.length (Gb ss k ss.length))/\Below w.heap.size w wr) (fun i _=>ts.length-(intOf i).toNat)
 case atStart=>exact⟨0,Nat.zero_le _,rfl,by show World.ownsRow _ _ _ _ _ _ _;rw[HSL.o];simpa [Gb] using hown,hbel1⟩
 case round=>
  obtain⟨k,hk,rfl,HO,hbr⟩:=hrel
  by_cases hlt:k<ts.length
  ·obtain⟨b,off,rfl,c1⟩:=(HC.o.bl hbr) k hlt;replace c1:wr.cell? ⟨b,off+k,none⟩=some (.string (nx ts k)):=c1;have hsk:=HS.o k hlt;have HX:Hd (nx ss k=Ap n (nx ts k)):=HNX.o k hlt;generalize nx ts k=x at *;have hx0:x.size<=1048576:=by omega
   go_wp2_with fail;refine(Gv x n _ hx0 h1 h8).mono ?_;rintro e w2 ⟨rfl,hb2⟩;obtain⟨q,eq⟩:∃ q,(⟨(Hj (Bs x.data.toList) n).toArray⟩:ByteArray)=q:=⟨_,rfl⟩;rw[eq];have HQ:Hd (ss.getD k ByteArray.empty=q):=by show ss.getD k ByteArray.empty=q;have:=HX.o;unfold nx at this;rw[this,<- eq];rfl
   have hown:=Ac HO.o hb2;have hB2:=bt hbr hb2;have hks:k<ss.length:=by have:=HSL.o;omega
   have hst:=hown.stored k (.string (ss.getD k ByteArray.empty));rw[filled_set ss k hks,HQ.o] at hst;have hfr:=hown.frozenAt k
   have hce:w2.cell? ⟨w.heap.size,k,none⟩=some ((Gb ss k ss.length)[k]'(by rw[Nf ss k (by omega)];exact hks)):=by
    rw[hown.cellAt k (by omega)];exact gQ _
   generalize (Gb ss k ss.length)[k]'(by rw[Nf ss k (by omega)];exact hks)=old at hce;have hbel2:Below w.heap.size w (w2.setCell ⟨w.heap.size,k,none⟩ (.string q)):=hB2.setCell (Nat.le_refl _) _;have HST:Hd ((w2.setCell ⟨w.heap.size,k,none⟩ (.string q)).ownsRow w.heap.size 9 1 (.slice (some ⟨w.heap.size,0,none⟩) ts.length ts.length) ts.length (Gb ss (k+1) ss.length)):=hst.1;clear hown hbr hb2 hst c1 eq;go_wp2;go_roundw
   case rel=>exact⟨k+1,by omega,by go_num,HST.o,hbel2⟩
   case measure=>simp[intOf];omega
  ·obtain rfl:k=ts.length:=by omega
   have HOW:Hd (wr.ownsRow w.heap.size 9 1 (.slice (some ⟨w.heap.size,0,none⟩) ts.length ts.length) ts.length (ss.map .string)):=by
    have:=HO.o;(have e:Gb ss ts.length ss.length=ss.map .string:=by rw[<- HSL.o];simp[Gb]);rw[e] at this;exact this
   go_wp2_with fail;go_ret;exact⟨hbr,_,rfl,Nat.le_refl _,HOW.o⟩
theorem Rl (a:Option Addr) (cap:Nat) (ts:List ByteArray) (w:World) (hc:Cp w a ts) (hl:ts.length<=1048576) (hs:∀ i,(nx ts i).size<=maxLen) :
  Calls Tryz.prog 53 #[.slice a ts.length cap] w fun e w'=>Below w.heap.size w w'/\∃ b,e=.returned (.bool b)/\(b=true↔ts.length<=5000/\∀ i,i<ts.length->(nx ts i).size<=2002):=by
 have HC:Hd (Cp w a ts):=hc
 have HS:Hd (∀ i,(nx ts i).size<=maxLen):=hs
 clear hc hs
 by_cases h2:5000<ts.length
 ·have d1:decide ((5000:Int)<(ts.length:Int))=true:=by simp;omega
  go_enter Tryz.func53,Tryz.ntmps53;go_wp2;go_ret;exact⟨Below.refl _ _,false,rfl,Fb (fun h=>by have:=h.1;omega)⟩
 ·have d1:decide ((5000:Int)<(ts.length:Int))=false:=by simp;omega
  go_enter Tryz.func53,Tryz.ntmps53;go_wp2
  go_loopw [10] (fun i wr=>∃(k:Nat),k<=ts.length/\i=.int .i64 k/\Hd (∀ i,i<k->(nx ts i).size<=2002)/\Below w.heap.size w wr) (fun i _=>ts.length-(intOf i).toNat)
  case atStart=>exact⟨0,Nat.zero_le _,rfl,(fun i hi=>by omega:∀ i,i<0->(nx ts i).size<=2002),Below.refl _ _⟩
  case round=>
   obtain⟨k,hk,rfl,HK,hbr⟩:=hrel
   by_cases hlt:k<ts.length
   ·obtain⟨b,off,rfl,c1⟩:=(HC.o.bl hbr) k hlt;replace c1:wr.cell? ⟨b,off+k,none⟩=some (.string (nx ts k)):=c1;have hsk:=HS.o k
    by_cases h3:2002<(nx ts k).size
    ·(have HN:Hd (¬ (ts.length<=5000/\∀ i,i<ts.length->(nx ts i).size<=2002)):=fun h=>by have:=h.2 k hlt;omega);generalize nx ts k=x at *;(have d3:decide ((2002:Int)<(x.size:Int))=true:=by simp;omega);unfold maxLen at hsk;go_wp2_with fail;go_ret;exact⟨hbr,false,rfl,Fb HN.o⟩
    ·have HK1:Hd (∀ i,i<k+1->(nx ts i).size<=2002):=Dc HK.o (by omega);generalize nx ts k=x at *;(have d3:decide ((2002:Int)<(x.size:Int))=false:=by simp;omega);unfold maxLen at hsk;go_wp2_with fail;go_roundw
     case rel=>exact⟨k+1,by omega,by go_num,HK1.o,hbr⟩
     case measure=>simp[intOf];omega
   ·have HNT:Hd (ts.length<=5000/\∀ i,i<ts.length->(nx ts i).size<=2002):=⟨by omega,fun i hi=>HK.o i (by omega)⟩;go_wp2_with fail;go_ret;exact⟨hbr,true,rfl,Hf HNT.o⟩
structure Qm (w:World) (ta:Option Addr) (ts:List ByteArray) (ra:Option Addr) (rs:List T3):Prop where
 st:Cp w ta ts
 lt:ts.length<=1048576
 xt:∀ i,(nx ts i).size<=maxLen
 qs:QsIn w ra rs
theorem Qm.bl {w w':World} {ta ra:Option Addr} {ts:List ByteArray} {rs:List T3} (h:Qm w ta ts ra rs) (hb:Below w.heap.size w w'):Qm w' ta ts ra rs:=⟨h.st.bl hb,h.lt,h.xt,h.qs.bl hb⟩
def Kh (n:Int) (ts:List ByteArray) (rs:List T3):Prop:=1<=n/\n<=8/\StoOk n.toNat ts rs
theorem own_low {w:World} {base base' e size n:Nat} {v:Value} {xs:List Value} (h:w.ownsRow base e size v n xs) (hb:base'<=base):w.ownsRow base' e size v n xs:=by
 refine⟨h.1,?_⟩
 rcases h.2 with h2|⟨g,cap,cur,hv,hg,r⟩
 ·exact Or.inl h2
 ·exact Or.inr ⟨g,cap,cur,hv,Nat.le_trans hb hg,r⟩
theorem Zk (w:World) (o:Obj):(w.alloc o).heap[w.heap.size]?=some o:=by unfold World.alloc;simp
theorem alB (w:World) (o:Obj):Below w.heap.size w (w.alloc o):=aN _ _
def Cr (w:World) (g:Nat) (n:Int) (ta ra:Option Addr) (tl tc rl rc:Nat) (sv:Value):Prop:=w.heap[g]?=some (.cells #[.int .i64 n,.slice ta tl tc,.slice ra rl rc,sv] 80 (0,0))
theorem Nb (n:Int) (ta ra:Option Addr) (tc rc:Nat) (ts:List ByteArray) (rs:List T3) (w:World) (hT:Jr w) (h:Qm w ta ts ra rs) :
  Calls Tryz.prog 34 #[.agg #[.int .i64 n,.slice ta ts.length tc,.slice ra rs.length rc]] w fun e w'=>Below w.heap.size w w'/\((¬ Kh n ts rs/\∃ v,e=.returned (.tuple #[v,.bool false]))\/(Kh n ts rs/\∃ g sg,e=.returned (.tuple #[.pointer (some ⟨g,0,none⟩),.bool true])/\Cr w' g n ta ra ts.length tc rs.length rc (.slice (some ⟨sg,0,none⟩) ts.length ts.length)/\Cp w' (some ⟨sg,0,none⟩) (ts.map (Ap n.toNat))/\w.heap.size<=g/\w'.ownsRow w.heap.size 9 1 (.slice (some ⟨sg,0,none⟩) ts.length ts.length) ts.length ((ts.map (Ap n.toNat)).map .string))):=by
 have hb0:Below w.heap.size w (w.alloc (.cells #[.int .i64 n,.slice ta ts.length tc,.slice ra rs.length rc] 43)):=aN _ _
 have k0:(w.alloc (.cells #[.int .i64 n,.slice ta ts.length tc,.slice ra rs.length rc] 43)).cell? ⟨w.heap.size,0,none⟩=some (.int .i64 n):=by simp[go_sem]
 have k1:(w.alloc (.cells #[.int .i64 n,.slice ta ts.length tc,.slice ra rs.length rc] 43)).cell? ⟨w.heap.size,1,none⟩=some (.slice ta ts.length tc):=by simp[go_sem]
 have k2:(w.alloc (.cells #[.int .i64 n,.slice ta ts.length tc,.slice ra rs.length rc] 43)).cell? ⟨w.heap.size,2,none⟩=some (.slice ra rs.length rc):=by simp[go_sem]
 have HI:Hd (Qm w ta ts ra rs):=h
 have HT:Hd (Jr w):=hT
 clear h hT
 by_cases hn:1<=n/\n<=8
 ·obtain⟨m,rfl⟩:=Int.eq_ofNat_of_zero_le (show 0<=n by omega);have h1:1<=m:=by omega
  have h8:m<=8:=by omega
  have HN:Hd (1<=(m:Int)/\(m:Int)<=8):=hn;clear hn;go_enter Tryz.func34,Tryz.ntmps34
  go_wp2_with (first|(go_at_call 27;refine(Hb _ _ (by omega) (by omega)).mono ?_;rintro e w9 ⟨rfl,rfl⟩))
  refine(Rl ta tc ts _ (HI.o.st.bl hb0) HI.o.lt HI.o.xt).mono ?_;rintro e w1 ⟨hb1,b,rfl,hb⟩;have hB1:=bt hb0 hb1;have k10:=Ab hb1 k0;have k11:=Ab hb1 k1;have k12:=Ab hb1 k2
  rcases b_iff hb with ⟨hg,rfl⟩|⟨hg,rfl⟩
  ·have HG:Hd (ts.length<=5000/\∀ i,i<ts.length->(nx ts i).size<=2002):=hg;clear hb hg hb0 hb1 k0 k1 k2;go_wp2_with fail;refine(Pq ra rc rs m _ (HT.o.bl hB1) h8 (HI.o.qs.bl hB1)).mono ?_;rintro e w2 ⟨hb2,b,rfl,hb⟩;have hB2:=bt hB1 hb2;have k20:=Ab hb2 k10;have k21:=Ab hb2 k11;have k22:=Ab hb2 k12
   rcases b_iff hb with ⟨hg,rfl⟩|⟨hg,rfl⟩
   ·have HR:Hd (rs.length<=2000/\∀ i,i<rs.length->Kt m (qx rs i)):=hg;have HSU:Hd (∀ W:World,Below w.heap.size w W->Calls Tryz.prog 55 #[.slice ta ts.length tc,.int .i64 m] W fun e w'=>Below W.heap.size W w'/\∃ g:Nat,e=.returned (.slice (some ⟨g,0,none⟩) ts.length ts.length)/\W.heap.size<=g/\w'.ownsRow W.heap.size 9 1 (.slice (some ⟨g,0,none⟩) ts.length ts.length) ts.length ((ts.map (Ap m)).map .string)):=fun W hW=>sumsOf_any ta tc ts m W h1 h8 (HI.o.st.bl hW) HI.o.lt HG.o.2;clear hb hg hb2 hB1 k10 k11 k12;go_wp2_with fail;have hbd2:Below w2.heap.size w2 w2.drew:=(Below.refl _ _).drew
    go_region_held3 (fun w'=>w'.cell? ⟨w.heap.size,0,none⟩=some (.int .i64 m)/\w'.cell? ⟨w.heap.size,1,none⟩=some (.slice ta ts.length tc)/\w'.cell? ⟨w.heap.size,2,none⟩=some (.slice ra rs.length rc))
     (first|exact⟨k20,k21,k22⟩|(with_reducible exact⟨s0,s1,s2⟩)|exact⟨Ab (alB _ _) s0,Ab (alB _ _) s1,Ab (alB _ _) s2⟩)
     (first|(go_at_call 55;refine(HSU.o _ hB2.drew).mono ?_;rintro e w3 ⟨hb3,sg,rfl,hsg,how⟩;have s0:=Ab (bt hbd2 hb3) k20;have s1:=Ab (bt hbd2 hb3) k21;have s2:=Ab (bt hbd2 hb3) k22))
    go_wp2_with fail;obtain⟨w4,e4⟩:∃ x,w3.alloc (.cells #[.int .i64 m,.slice ta ts.length tc,.slice ra rs.length rc,.slice (some ⟨sg,0,none⟩) ts.length ts.length] 80)=x:=⟨_,rfl⟩;(have hb4:Below w3.heap.size w3 w4:=by rw[<- e4];exact alB _ _);(have HSH:Hd (Cr w4 w3.heap.size m ta ra ts.length tc rs.length rc (.slice (some ⟨sg,0,none⟩) ts.length ts.length)):=by show Cr _ _ _ _ _ _ _ _ _ _;rw[<- e4];unfold Cr;exact Zk _ _);have HST:Hd (Cp w4 (some ⟨sg,0,none⟩) (ts.map (Ap m))):=(Xi (by rw[List.length_map]) how).bl hb4;have hB4:Below w.heap.size w w4:=bt (bt (bt hB2 hbd2) hb3) hb4
    have HASC:Hd (∀ W:World,Cp W (some ⟨sg,0,none⟩) (ts.map (Ap m))->Calls Tryz.prog 56 #[.slice (some ⟨sg,0,none⟩) ts.length ts.length] W fun e w'=>Below W.heap.size W w'/\∃ b,e=.returned (.bool b)/\(b=true↔Ey (ts.map (Ap m)))):=fun W hW=>by
     have:=Ng (some ⟨sg,0,none⟩) ts.length (ts.map (Ap m)) W hW (by rw[List.length_map];exact HI.o.lt);rw[List.length_map] at this;exact this
    have HOW4:Hd (w4.ownsRow w.heap.size 9 1 (.slice (some ⟨sg,0,none⟩) ts.length ts.length) ts.length ((ts.map (Ap m)).map .string)):=Ac (own_low how (bt hB2 hbd2).size) hb4;have HG3:Hd (w.heap.size<=w3.heap.size):=(bt (bt hB2 hbd2) hb3).size;rw[e4];clear e4 hb4 how hb3 hbd2 hsg;refine(HASC.o _ HST.o).mono ?_;rintro e w5 ⟨hb5,b,rfl,hb⟩;have hB5:=bt hB4 hb5
    have HSH5:Hd (Cr w5 w3.heap.size m ta ra ts.length tc rs.length rc (.slice (some ⟨sg,0,none⟩) ts.length ts.length)):=by
     have h4:=HSH.o;unfold Cr at h4;show _=_;rw[hb5.block _ (by rcases Nat.lt_or_ge w3.heap.size w4.heap.size with h'|h';(focus exact h');rw[Array.getElem?_eq_none h'] at h4;cases h4)];exact h4
    rcases b_iff hb with ⟨hg,rfl⟩|⟨hg,rfl⟩
    ·have HW:Hd (Kh m ts rs):=⟨HN.o.1,HN.o.2,⟨HG.o.1,HG.o.2,hg⟩,HR.o⟩;clear hb hg;go_wp2_with fail;exact bR (results_tmp2 rfl _ _ _) rfl ⟨hB5,Or.inr ⟨HW.o,_,sg,rfl,HSH5.o,HST.o.bl hb5,HG3.o,Ac HOW4.o hb5⟩⟩
    ·have HN2:Hd (¬ Kh m ts rs):=fun h=>hg h.2.2.1.2.2;clear hb hg;go_wp2_with fail;exact bR (results_tmp2 rfl _ _ _) rfl ⟨hB5,Or.inl ⟨HN2.o,_,rfl⟩⟩
   ·have HN2:Hd (¬ Kh m ts rs):=fun h=>hg h.2.2.2;clear hb hg;go_wp2_with fail;exact bR (results_tmp2 rfl _ _ _) rfl ⟨hB2,Or.inl ⟨HN2.o,_,rfl⟩⟩
  ·have HN2:Hd (¬ Kh m ts rs):=fun h=>hg ⟨h.2.2.1.1,h.2.2.1.2.1⟩;clear hb hg;go_wp2_with fail;exact bR (results_tmp2 rfl _ _ _) rfl ⟨hB1,Or.inl ⟨HN2.o,_,rfl⟩⟩
 ·have hn':n<1\/8<n:=by omega
  have HN:Hd (¬ Kh n ts rs):=fun h=>hn ⟨h.1,h.2.1⟩;clear hn;go_enter Tryz.func34,Tryz.ntmps34
  go_wp2_with (first|(go_at_call 27;refine(Na _ _ hn').mono ?_;rintro e w9 ⟨rfl,rfl⟩))
  exact bR (results_tmp2 rfl _ _ _) rfl ⟨hb0,Or.inl ⟨HN.o,_,rfl⟩⟩
end Go.Proofs.YtjlnkepkkdefdaaGreatDoor
