import Derived.Test.YtjlnkepkkdefdaaGreatDoorTNPiece
import Derived.Test.YtjlnkepkkdefdaaGreatDoorProg
import Derived.WalkKit
import Derived.WalkSpells
import Derived.WalkLawsBesides
import Derived.ProofKit
import Derived.OpenShut
import Derived.Below
import Derived.Shelf.SlSorted.Search
import Derived.Test.YtjlnkepkkdefdaaGreatDoorTValidP
import Derived.Deep.AppendLies
import Derived.Laws.AppendOwnNone
import Derived.Maps.AppendAt
namespace Go.Proofs.YtjlnkepkkdefdaaGreatDoor
open Go.RowKit
set_option linter.unusedVariables false
set_option maxHeartbeats 8000000
set_option maxRecDepth 100000
set_option linter.unusedSimpArgs false
def Jb (is:List S2) (k:Nat) (xs:List Value):Prop:=
 ∀ i,i<k->xs[i*2]?=some (.string (sx is i).name)/\xs[i*2+1]?=some (.string (sx is i).text)
theorem rowS_own {w:World} {B g n cap:Nat} {is:List S2} {xs:List Value} (hn:n=is.length) (h:w.ownsRow B 98 2 (.slice (some ⟨g,0,none⟩) n cap) n xs) (hf:Jb is n xs):Iz w (some ⟨g,0,none⟩) is:=by
 subst hn
 intro i hi
 obtain⟨h1,h2⟩:=hf i hi
 refine⟨g,0,rfl,?_,?_⟩
 ·rw[Nat.zero_add,h.cellAt _ (by omega)];exact h1
 ·rw[Nat.zero_add,h.cellAt _ (by omega)];exact h2
def Cp (w:World) (a:Option Addr) (ss:List ByteArray):Prop:=
 ∀ i,i<ss.length->∃ b off,a=some ⟨b,off,none⟩/\w.cell? ⟨b,off+i,none⟩=some (.string (ss.getD i ByteArray.empty))
theorem Cp.bl {w w':World} {a:Option Addr} {ss:List ByteArray} (h:Cp w a ss) (hb:Below w.heap.size w w'):Cp w' a ss:=by
 intro i hi
 obtain⟨b,off,ha,hc⟩:=h i hi
 exact⟨b,off,ha,(hb.cell (p:=⟨b,off+i,none⟩) (World.block_lt_of_cell? w _ hc)).trans hc⟩
def Aw (a b:ByteArray):Bool:=Op.bytesLess a.toList b.toList
theorem Jx {a b c:ByteArray} (h:Aw a b=true) (k:Aw b c=true):Aw a c=true:=by
 unfold Aw at *
 rw[bytesLess_eq] at *
 simp only[decide_eq_true_eq] at *
 exact List.lt_trans h k
theorem Fa (a:ByteArray):Aw a a=false:=by
 unfold Aw
 rw[bytesLess_eq]
 simp only[decide_eq_false_iff_not]
 exact List.lt_irrefl _
def nx (l:List ByteArray) (i:Nat):ByteArray:=l.getD i ByteArray.empty
def Ey (l:List ByteArray):Prop:=∀ i,1<=i->i<l.length->Aw (nx l (i-1)) (nx l i)=true
theorem Ey.lt {l:List ByteArray} (h:Ey l):∀(d i:Nat),i+d+1<l.length->Aw (nx l i) (nx l (i+d+1))=true
 | 0,i,hi=>by have:=h (i+0+1) (by omega) hi;simpa using this
 | d+1,i,hi=>by
  have h1:=Ey.lt h d i (by omega);have h2:=h (i+(d+1)+1) (by omega) hi;exact Jx h1 (by have:=h2;rw[Nat.add_sub_cancel] at this;exact this)
theorem Ey.pair {l:List ByteArray} (h:Ey l) {i j:Nat} (hij:i<j) (hj:j<l.length):Aw (nx l i) (nx l j)=true:=by
 have:=h.lt (j-i-1) i (by omega)
 rwa [show i+(j-i-1)+1=j by omega] at this
theorem Fb {P:Prop} (h:¬ P):(false=true↔P):=⟨fun k=>absurd k (by decide),fun k=>absurd k h⟩
theorem Hf {P:Prop} (h:P):(true=true↔P):=⟨fun _=>h,fun _=>rfl⟩
theorem Jo {l:List ByteArray} {m:Nat} (h:∀ j,1<=j->j<m+1->Aw (nx l (j-1)) (nx l j)=true) (hk:Aw (nx l m) (nx l (m+1))=true):∀ j,1<=j->j<m+1+1->Aw (nx l (j-1)) (nx l j)=true:=by
 intro j h1 h2
 rcases Nat.lt_or_ge j (m+1) with h3|h3
 ·exact h j h1 h3
 ·obtain rfl:j=m+1:=by omega
  simpa using hk
theorem Ng (a:Option Addr) (cap:Nat) (l:List ByteArray) (w:World) (hc:Cp w a l) (hl:l.length<=1048576) :
  Calls Tryz.prog 56 #[.slice a l.length cap] w fun e w'=>Below w.heap.size w w'/\∃ b:Bool,e=.returned (.bool b)/\(b=true↔Ey l):=by
 go_enter Tryz.func56,Tryz.ntmps56
 go_wp2
 go_loopw [3] (fun i wr=>∃ m:Nat,(m=0\/m+1<=l.length)/\i=.int .i64 (m+1)/\Hd (∀ j,1<=j->j<m+1->Aw (nx l (j-1)) (nx l j)=true)/\Below w.heap.size w wr) (fun i _=>l.length+1-(intOf i).toNat)
 case atStart=>exact⟨0,Or.inl rfl,rfl,(fun j h1 h2=>by omega:∀ j,1<=j->j<0+1->Aw (nx l (j-1)) (nx l j)=true),Below.refl _ _⟩
 case round=>
  obtain⟨m,hm,rfl,HA,hbel⟩:=hrel
  by_cases hlt:m+1<l.length
  ·obtain⟨b,off,rfl,c1⟩:=(hc.bl hbel) m (by omega);obtain⟨b',off',e',c2⟩:=(hc.bl hbel) (m+1) hlt;simp only[Option.some.injEq,Addr.mk.injEq,and_true] at e';obtain⟨rfl,rfl⟩:=e';replace c1:wr.cell? ⟨b,off+m,none⟩=some (.string (nx l m)):=c1;replace c2:wr.cell? ⟨b,off+(m+1),none⟩=some (.string (nx l (m+1))):=c2;obtain⟨v,hv⟩:∃ v,Aw (nx l m) (nx l (m+1))=v:=⟨_,rfl⟩;have HV:Hd (Aw (nx l m) (nx l (m+1))=v):=hv;unfold Aw at hv;clear hc;generalize nx l m=s at c1 hv;generalize nx l (m+1)=s' at c2 hv;have hltI:(m:Int)+1<(l.length:Int):=by omega
   cases v
   ·go_wp2;go_region
    all_goals
     go_wp2;go_ret;exact⟨by repeat (first|exact hbel|apply Below.drew),false,rfl,Fb (fun h=>by have:=h (m+1) (by omega) hlt;rw[Nat.add_sub_cancel,HV.o] at this;cases this)⟩
   ·go_wp2;go_region
    all_goals
     go_wp2;go_roundw
     case rel=>exact⟨m+1,by omega,by go_num,Jo HA.o HV.o,by repeat (first|exact hbel|apply Below.drew)⟩
     case measure=>simp[intOf];omega
  ·go_wp2;go_ret;exact⟨hbel,true,rfl,Hf (fun j h1 h2=>HA.o j h1 (by omega))⟩
theorem Cp.nx {w:World} {a:Option Addr} {ss:List ByteArray} (h:Cp w a ss) (i:Nat) (hi:i<ss.length):∃ b off,a=some ⟨b,off,none⟩/\w.cell? ⟨b,off+i,none⟩=some (.string (nx ss i)):=h i hi
def Gz (l:List ByteArray):Prop:=∀ i,i<l.length->Cu (nx l i)=true
def Fi (l:List ByteArray) (n:ByteArray):Prop:=∃ j,j<l.length/\nx l j=n
def Mk (l m:List ByteArray):Prop:=∃ i,i<l.length/\Fi m (nx l i)
def Ai (ss:List S2):List ByteArray:=ss.map (·.name)
def Ae (ts:List T2):List ByteArray:=ts.map (·.name)
theorem Ca (ss:List S2):(Ai ss).length=ss.length:=by simp[Ai]
theorem Bj (ts:List T2):(Ae ts).length=ts.length:=by simp[Ae]
theorem Eb (ss:List S2) (i:Nat):nx (Ai ss) i=(sx ss i).name:=by
 unfold nx Ai sx
 rw[gG,gG,List.getElem?_map]
 cases ss[i]?<;>rfl
theorem Df (ts:List T2) (i:Nat):nx (Ae ts) i=(tx ts i).name:=by
 unfold nx Ae tx
 rw[gG,gG,List.getElem?_map]
 cases ts[i]?<;>rfl
def Ix (ss:List S2):Prop:=∀ i,i<ss.length->(sx ss i).text.size<=2000
def Tn (ts:List T2):Prop:=∀ i,i<ts.length->Ah (tx ts i).code=true
open Classical in
noncomputable def Iw (ss:List S2) (ts:List T2):Int:=
 if 200<ss.length+ts.length then 1 else if ¬ (Gz (Ai ss)/\Gz (Ae ts)) then 2 else if ¬ Ey (Ai ss) then 3 else if ¬ Ey (Ae ts) then 4
 else if Mk (Ai ss) (Ae ts) then 5 else if ¬ Ix ss then 6 else if ¬ Tn ts then 7 else 0
theorem chk1 {ss:List S2} {ts:List T2} (h:200<ss.length+ts.length):Iw ss ts=1:=by simp[Iw,h]
theorem chk2 {ss:List S2} {ts:List T2} (h:¬ 200<ss.length+ts.length) (h2:¬ (Gz (Ai ss)/\Gz (Ae ts))):Iw ss ts=2:=by unfold Iw;rw[if_neg h,if_pos h2]
theorem chk3 {ss:List S2} {ts:List T2} (h:¬ 200<ss.length+ts.length) (h2:Gz (Ai ss)/\Gz (Ae ts)) (h3:¬ Ey (Ai ss)):Iw ss ts=3:=by unfold Iw;rw[if_neg h,if_neg (fun k=>k h2),if_pos h3]
theorem chk4 {ss:List S2} {ts:List T2} (h:¬ 200<ss.length+ts.length) (h2:Gz (Ai ss)/\Gz (Ae ts)) (h3:Ey (Ai ss)) (h4:¬ Ey (Ae ts)):Iw ss ts=4:=by unfold Iw;rw[if_neg h,if_neg (fun k=>k h2),if_neg (fun k=>k h3),if_pos h4]
theorem chk5 {ss:List S2} {ts:List T2} (h:¬ 200<ss.length+ts.length) (h2:Gz (Ai ss)/\Gz (Ae ts)) (h3:Ey (Ai ss)) (h4:Ey (Ae ts)) (h5:Mk (Ai ss) (Ae ts)):Iw ss ts=5:=by unfold Iw;rw[if_neg h,if_neg (fun k=>k h2),if_neg (fun k=>k h3),if_neg (fun k=>k h4),if_pos h5]
theorem chk6 {ss:List S2} {ts:List T2} (h:¬ 200<ss.length+ts.length) (h2:Gz (Ai ss)/\Gz (Ae ts)) (h3:Ey (Ai ss)) (h4:Ey (Ae ts)) (h5:¬ Mk (Ai ss) (Ae ts)) (h6:¬ Ix ss):Iw ss ts=6:=by unfold Iw;rw[if_neg h,if_neg (fun k=>k h2),if_neg (fun k=>k h3),if_neg (fun k=>k h4),if_neg h5,if_pos h6]
theorem chk7 {ss:List S2} {ts:List T2} (h:¬ 200<ss.length+ts.length) (h2:Gz (Ai ss)/\Gz (Ae ts)) (h3:Ey (Ai ss)) (h4:Ey (Ae ts)) (h5:¬ Mk (Ai ss) (Ae ts)) (h6:Ix ss) (h7:¬ Tn ts):Iw ss ts=7:=by unfold Iw;rw[if_neg h,if_neg (fun k=>k h2),if_neg (fun k=>k h3),if_neg (fun k=>k h4),if_neg h5,if_neg (fun k=>k h6),if_pos h7]
theorem chk0 {ss:List S2} {ts:List T2} (h:¬ 200<ss.length+ts.length) (h2:Gz (Ai ss)/\Gz (Ae ts)) (h3:Ey (Ai ss)) (h4:Ey (Ae ts)) (h5:¬ Mk (Ai ss) (Ae ts)) (h6:Ix ss) (h7:Tn ts):Iw ss ts=0:=by unfold Iw;rw[if_neg h,if_neg (fun k=>k h2),if_neg (fun k=>k h3),if_neg (fun k=>k h4),if_neg h5,if_neg (fun k=>k h6),if_neg (fun k=>k h7)]
theorem Xh {w:World} {B n cap:Nat} {a:Option Addr} {ss:List ByteArray} (hn:n=ss.length) (h:w.ownsRow B 9 1 (.slice a n cap) n (Bf ss)):Cp w a ss:=by
 subst hn
 intro i hi
 rcases h.2 with ⟨_,h0⟩|⟨g,cap',cur,hv,_⟩
 ·omega
 ·obtain⟨rfl,_,rfl⟩:a=some ⟨g,0,none⟩/\True/\cap=cap':=by simpa using hv
  refine⟨g,0,rfl,?_⟩;rw[Nat.zero_add,h.cellAt i (by omega)];simp[Bf,gG,gQ hi]
theorem Uq (l:List ByteArray) (k:Nat) (h:k<l.length):Bf (l.take k)++[.string (nx l k)]=Bf (l.take (k+1)):=by
 rw[List.take_succ_eq_append_getElem h]
 simp only[Bf,List.map_append,List.map_cons,List.map_nil,nx,gG,gQ h,Option.getD_some]
theorem Li (a ta:Option Addr) (cap tn tc:Nat) (is:List S2) (w:World) (hc:Iz w a is) (hl:is.length<=1048576) :
  Calls Tryz.prog 66 #[.agg #[.slice a is.length cap,.slice ta tn tc]] w fun e w'=>Below w.heap.size w w'/\∃(a':Option Addr) (cap':Nat),e=.returned (.slice a' is.length cap')/\Cp w' a' (Ai is):=by
 obtain⟨i0,hi,hz0,hz1,hz2⟩:=info_parts Tryz.info9b
 have hnl:=Ca is
 have hb0:Below w.heap.size w (w.alloc (.cells #[.slice a is.length cap,.slice ta tn tc] 26)):=aN _ _
 go_enter Tryz.func66,Tryz.ntmps66
 go_wp2
 go_loopw [3,9] (fun o i wr=>∃(k:Nat) (ao:Option Addr) (cp:Nat),k<=is.length/\i=.int .i64 k/\o=.slice ao k cp/\wr.ownsRow w.heap.size 9 1 (.slice ao k cp) k (Bf ((Ai is).take k))/\Below w.heap.size w wr) (fun _ i _=>is.length-(intOf i).toNat)
 case atStart=>exact⟨0,none,0,Nat.zero_le _,rfl,rfl,⟨by simp[Bf],Or.inl ⟨rfl,rfl⟩⟩,hb0⟩
 case round=>
  obtain⟨k,ao,cp,hk,rfl,rfl,hown,hbel⟩:=hrel;have hlt0:w.heap.size<=wr.heap.size:=hbel.size
  by_cases hlt:k<is.length
  ·obtain⟨b,off,rfl,c1,c2⟩:=(hc.bl hbel) k hlt;have hsn:=Uq (Ai is) k (by omega);rw[Eb] at hsn;generalize sx is k=i at *;have HS:Hd (Bf ((Ai is).take k)++[.string i.name]=Bf ((Ai is).take (k+1))):=hsn;clear hsn hc;have hown1:=(hown.alloc (.cells #[.string i.name,.string i.text] 98)).alloc (.cells #[.string i.name] 9)
   go_wp2_with (first|(at_builtin;refine wpList_append_own _ rfl (.tmp 13) (.tmp 16) 30 rfl w.heap.size 9 i0 (.string ⟨#[]⟩) 1 16 Tryz.underlying30 hi hz0 hz1 hz2 rfl (by decide) _ _ _ rfl hown1 ⟨wr.heap.size+1,0,none⟩ 1 1 [.string i.name] rfl rfl ?_ (by intro u hu;simp at hu;subst hu;rfl) (by unfold maxLen;omega) (by omega) (by simp;omega) ?_;(focus (have:=cell_one_new (wr.alloc (.cells #[.string i.name,.string i.text] 98)) (.string i.name) 9;simpa using this));intro v' w2 hown' hgrow hnil))
   have hbB:Below w.heap.size w w2:=((hbel.alloc (by omega) _).alloc (by simp;omega) _).grown hgrow (by simp;omega) (fun k hk=>(hown.lt k hk).1)
   obtain⟨g',cap2,hv'⟩:∃ g cap,v'=.slice (some ⟨g,0,none⟩) (k+1) cap:=by
    rcases hown'.2 with ⟨_,h0⟩|⟨g,cap,cur,hv,_⟩
    ·omega
    ·exact⟨g,cap,hv⟩
   rw[HS.o,hv'] at hown';exact⟨⟨k+1,_,_,by omega,by go_num,hv',hown',hbB⟩,by simp[intOf];omega⟩
  ·have ek:k=is.length:=by omega
   subst ek;rw[List.take_of_length_le (by omega)] at hown;go_wp2;go_ret;exact⟨hbel,ao,cp,rfl,Xh (by omega) hown⟩
theorem Lh (a ta:Option Addr) (cap tn tc:Nat) (is:List T2) (w:World) (hc:Iy w a is) (hl:is.length<=1048576) :
  Calls Tryz.prog 67 #[.agg #[.slice ta tn tc,.slice a is.length cap]] w fun e w'=>Below w.heap.size w w'/\∃(a':Option Addr) (cap':Nat),e=.returned (.slice a' is.length cap')/\Cp w' a' (Ae is):=by
 obtain⟨i0,hi,hz0,hz1,hz2⟩:=info_parts Tryz.info9b
 have hnl:=Bj is
 have hb0:Below w.heap.size w (w.alloc (.cells #[.slice ta tn tc,.slice a is.length cap] 26)):=aN _ _
 go_enter Tryz.func67,Tryz.ntmps67
 go_wp2
 go_loopw [3,9] (fun o i wr=>∃(k:Nat) (ao:Option Addr) (cp:Nat),k<=is.length/\i=.int .i64 k/\o=.slice ao k cp/\wr.ownsRow w.heap.size 9 1 (.slice ao k cp) k (Bf ((Ae is).take k))/\Below w.heap.size w wr) (fun _ i _=>is.length-(intOf i).toNat)
 case atStart=>exact⟨0,none,0,Nat.zero_le _,rfl,rfl,⟨by simp[Bf],Or.inl ⟨rfl,rfl⟩⟩,hb0⟩
 case round=>
  obtain⟨k,ao,cp,hk,rfl,rfl,hown,hbel⟩:=hrel;have hlt0:w.heap.size<=wr.heap.size:=hbel.size
  by_cases hlt:k<is.length
  ·obtain⟨b,off,rfl,c1,x,p,c2,c3⟩:=(hc.bl hbel) k hlt;have hsn:=Uq (Ae is) k (by omega);rw[Df] at hsn;generalize tx is k=i at *;have HS:Hd (Bf ((Ae is).take k)++[.string i.name]=Bf ((Ae is).take (k+1))):=hsn;clear hsn hc;have hown1:=(hown.alloc (.cells #[.string i.name,.slice x i.code.length p] 62)).alloc (.cells #[.string i.name] 9)
   go_wp2_with (first|(at_builtin;refine wpList_append_own _ rfl (.tmp 13) (.tmp 16) 30 rfl w.heap.size 9 i0 (.string ⟨#[]⟩) 1 16 Tryz.underlying30 hi hz0 hz1 hz2 rfl (by decide) _ _ _ rfl hown1 ⟨wr.heap.size+1,0,none⟩ 1 1 [.string i.name] rfl rfl ?_ (by intro u hu;simp at hu;subst hu;rfl) (by unfold maxLen;omega) (by omega) (by simp;omega) ?_;(focus (have:=cell_one_new (wr.alloc (.cells #[.string i.name,.slice x i.code.length p] 62)) (.string i.name) 9;simpa using this));intro v' w2 hown' hgrow hnil))
   have hbB:Below w.heap.size w w2:=((hbel.alloc (by omega) _).alloc (by simp;omega) _).grown hgrow (by simp;omega) (fun k hk=>(hown.lt k hk).1)
   obtain⟨g',cap2,hv'⟩:∃ g cap,v'=.slice (some ⟨g,0,none⟩) (k+1) cap:=by
    rcases hown'.2 with ⟨_,h0⟩|⟨g,cap,cur,hv,_⟩
    ·omega
    ·exact⟨g,cap,hv⟩
   rw[HS.o,hv'] at hown';exact⟨⟨k+1,_,_,by omega,by go_num,hv',hown',hbB⟩,by simp[intOf];omega⟩
  ·have ek:k=is.length:=by omega
   subst ek;rw[List.take_of_length_le (by omega)] at hown;go_wp2;go_ret;exact⟨hbel,ao,cp,rfl,Xh (by omega) hown⟩
theorem Rk (a:Option Addr) (cap:Nat) (l:List ByteArray) (w:World) (hc:Cp w a l) (hl:l.length<=1048576) (hs:∀ i,(nx l i).size<=maxLen) :
  Calls Tryz.prog 68 #[.slice a l.length cap] w fun e w'=>w=w'/\∃ b:Bool,e=.returned (.bool b)/\(b=true↔Gz l):=by
 go_enter Tryz.func68,Tryz.ntmps68
 go_wp2
 go_loopw [7] (fun i wr=>∃ k:Nat,k<=l.length/\i=.int .i64 k/\Hd (∀ j,j<k->Cu (nx l j)=true)/\w=wr) (fun i _=>l.length-(intOf i).toNat)
 case atStart=>exact⟨0,Nat.zero_le _,rfl,(fun j hj=>by omega:∀ j,j<0->Cu (nx l j)=true),rfl⟩
 case round=>
  obtain⟨k,hk,rfl,HA,rfl⟩:=hrel
  by_cases hlt:k<l.length
  ·obtain⟨b,off,rfl,c1⟩:=hc.nx k hlt;have hsk:=hs k;unfold maxLen at hsk;obtain⟨v,hv⟩:∃ v,Cu (nx l k)=v:=⟨_,rfl⟩;have HV:Hd (Cu (nx l k)=v):=hv;have HN:Hd (∀ W:World,Calls Tryz.prog 30 #[.string (nx l k)] W fun e w'=>e=.returned (.bool v)/\W=w'):=fun W=>by rw[<- hv];exact Cy _ W hsk
   clear hc hs hv;generalize nx l k=s at c1 HN hsk;cases v
   ·go_wp2_with (go_at_call 30;refine(HN.o _).mono ?_;rintro e w' ⟨rfl,rfl⟩)
    go_ret;exact⟨rfl,false,rfl,Fb (fun h=>by have:=h k hlt;rw[HV.o] at this;cases this)⟩
   ·go_wp2_with (go_at_call 30;refine(HN.o _).mono ?_;rintro e w' ⟨rfl,rfl⟩)
    go_roundw
    case rel=>exact⟨k+1,by omega,by go_num,Dc HA.o HV.o,trivial⟩
    case measure=>simp[intOf];omega
  ·go_wp2;go_ret;exact⟨rfl,true,rfl,Hf (fun j hj=>HA.o j (by omega))⟩
end Go.Proofs.YtjlnkepkkdefdaaGreatDoor
