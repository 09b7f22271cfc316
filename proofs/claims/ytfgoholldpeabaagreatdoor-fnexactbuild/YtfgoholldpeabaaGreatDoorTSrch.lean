import Derived.Test.YtfgoholldpeabaaGreatDoorTNWork2
namespace Go.Proofs.YtfgoholldpeabaaGreatDoor
open _root_.Go.Proofs.Tryz Go.RowKit
set_option linter.unusedVariables false
set_option maxHeartbeats 8000000
set_option maxRecDepth 100000
set_option linter.unusedSimpArgs false
variable {w w':World} {B n cap i m k:Nat} {a:Option Addr} {ss:List S2} {b t:By} {l:List By} {P:Prop} {ts:List T2} {v:Int}
def Nn (is:List S2) (k:Nat) (xs:List Value):Prop:=
 ∀ i,i<k->xs[i*2]?=some (.string (sx is i).name)/\xs[i*2+1]?=some (.string (sx is i).text)
theorem rowS_own {g:Nat} {is:List S2} {xs:List Value} (hn:n=is.length) (h:w.ownsRow B 98 2 (.slice (p_ g) n cap) n xs) (hf:Nn is n xs):Jv w (p_ g) is:=by
 subst hn
 intro i hi
 obtain⟨h1,h2⟩:=hf i hi
 refine⟨g,0,rfl,?_,?_⟩
 ·rw[Nat.zero_add,h.cellAt _ qb];exact h1
 ·rw[Nat.zero_add,h.cellAt _ qb];exact h2
def Cv (w:World) (a:Option Addr) (ss:List By):Prop:=
 ∀ i,i<ss.length->∃ b off,a=some ⟨b,off,none⟩/\w.cell? ⟨b,off+i,none⟩=some (.string (ss.getD i ByteArray.empty))
theorem Cv.bl {ss:List By} (h:Cv w a ss) (hb:Bw w w'):Cv w' a ss:=by
 intro i hi
 obtain⟨b,off,ha,hc⟩:=h i hi
 exact⟨b,off,ha,(hb.cell (p:=⟨b,off+i,none⟩) (World.block_lt_of_cell? w _ hc)).trans hc⟩
def Ar (a b:By):Bool:=Op.bytesLess a.toList b.toList
theorem Jy {a c:By} (h:Ar a b=true) (k:Ar b c=true):Ar a c=true:=by
 unfold Ar at *
 rw[bytesLess_eq] at *
 simp only[decide_eq_true_eq] at *
 exact List.lt_trans h k
theorem Ej (a:By):Ar a a=false:=by
 unfold Ar
 rw[bytesLess_eq]
 simp only[decide_eq_false_iff_not]
 exact List.lt_irrefl _
def nx (l:List By) (i:Nat):By:=l.getD i ByteArray.empty
def Gf (l:List By):Prop:=∀ i,1<=i->i<l.length->Ar (nx l (i-1)) (nx l i)=true
theorem Gf.lt (h:Gf l):∀(d i:Nat),i+d+1<l.length->Ar (nx l i) (nx l (i+d+1))=true
 | 0,i,hi=>by have:=h (i+0+1) qb hi;simpa using this
 | d+1,i,hi=>by
  have h1:=Gf.lt h d i qb;have h2:=h (i+(d+1)+1) qb hi;exact Jy h1 (by have:=h2;rw[Nat.add_sub_cancel] at this;exact this)
theorem Gf.pair (h:Gf l) {j:Nat} (td:i<j) (hj:j<l.length):Ar (nx l i) (nx l j)=true:=by
 have:=h.lt (j-i-1) i qb
 rwa [show i+(j-i-1)+1=j from qb] at this
theorem Dy (h:¬ P):(false=true↔P):=⟨fun k=>absurd k qd,fun k=>absurd k h⟩
theorem Fy (h:P):(true=true↔P):=⟨fun _=>h,fun _=>rfl⟩
theorem Mx (h:∀ j,1<=j->j<m+1->Ar (nx l (j-1)) (nx l j)=true) (hk:Ar (nx l m) (nx l (m+1))=true):∀ j,1<=j->j<m+1+1->Ar (nx l (j-1)) (nx l j)=true:=by
 intro j h1 h2
 rcases Nat.lt_or_ge j (m+1) with h3|h3
 ·exact h j h1 h3
 ·obtain rfl:j=m+1:=qb;simpa using hk
theorem Oc (a:Option Addr) (cap:Nat) (l:List By) (w:World) (hc:Cv w a l) (hl:l.length<=1048576) :
  Calls prog 100 #[.slice a l.length cap] w fun e w'=>Bw w w'/\∃ b:Bool,e=.returned (.bool b)/\(b=true↔Gf l):=by
 go_enter func100,ntmps100
 go_wp2
 go_loopw [3] (fun i wr=>∃ m:Nat,(m=0\/m+1<=l.length)/\i=I (m+1)/\Hd (∀ j,1<=j->j<m+1->Ar (nx l (j-1)) (nx l j)=true)/\Bw w wr) (fun i _=>l.length+1-(intOf i).toNat)
 case atStart=>exact⟨0,Or.inl rfl,rfl,(fun j h1 h2=>by omega:∀ j,1<=j->j<0+1->Ar (nx l (j-1)) (nx l j)=true),Below.refl _ _⟩
 case round=>
  obtain⟨m,hm,rfl,HA,am⟩:=hrel
  by_cases aj:m+1<l.length
  ·obtain⟨b,off,rfl,c1⟩:=(hc.bl am) m qb;obtain⟨b',bq,e',c2⟩:=(hc.bl am) (m+1) aj;simp only[Option.some.injEq,Addr.mk.injEq,and_true] at e';obtain⟨rfl,rfl⟩:=e';replace c1:wr.cell? ⟨b,off+m,none⟩=some (.string (nx l m)):=c1;replace c2:wr.cell? ⟨b,off+(m+1),none⟩=some (.string (nx l (m+1))):=c2;obtain⟨v,hv⟩:∃ v,Ar (nx l m) (nx l (m+1))=v:=⟨_,rfl⟩;have HV:Hd (Ar (nx l m) (nx l (m+1))=v):=hv;unfold Ar at hv;clear hc;generalize nx l m=s at c1 hv;generalize nx l (m+1)=s' at c2 hv;have hltI:(m:Int)+1<(l.length:Int):=qb;cases v
   ·go_wp2;go_region
    all_goals
     go_wp2;go_ret;exact⟨by repeat (first|exact am|apply Below.drew),false,rfl,Dy (fun h=>by have:=h (m+1) qb aj;rw[Nat.add_sub_cancel,HV.o] at this;cases this)⟩
   ·go_wp2;go_region
    all_goals
     go_wp2;go_roundw
     case rel=>exact⟨m+1,qb,qj,Mx HA.o HV.o,by repeat (first|exact am|apply Below.drew)⟩
     case measure=>simp[intOf];omega
  ·go_wp2;go_ret;exact⟨am,true,rfl,Fy (fun j h1 h2=>HA.o j h1 qb)⟩
theorem Cv.nx {ss:List By} (h:Cv w a ss) (i:Nat) (hi:i<ss.length):∃ b off,a=some ⟨b,off,none⟩/\w.cell? ⟨b,off+i,none⟩=some (.string (nx ss i)):=h i hi
def Hb (l:List By):Prop:=∀ i,i<l.length->Fk (nx l i)=true
def Ec (l:List By) (n:By):Prop:=∃ j,j<l.length/\nx l j=n
def Od (l m:List By):Prop:=∃ i,i<l.length/\Ec m (nx l i)
def Aq (ss:List S2):List By:=ss.map (·.name)
def Ao (ts:List T2):List By:=ts.map (·.name)
theorem Bs (ss:List S2):(Aq ss).length=ss.length:=by simp[Aq]
theorem Bn (ts:List T2):(Ao ts).length=ts.length:=by simp[Ao]
theorem Du (ss:List S2) (i:Nat):nx (Aq ss) i=(sx ss i).name:=by
 unfold nx Aq sx
 rw[gG,gG,List.getElem?_map]
 cases ss[i]?<;>rfl
theorem Dl (ts:List T2) (i:Nat):nx (Ao ts) i=(tx ts i).name:=by
 unfold nx Ao tx
 rw[gG,gG,List.getElem?_map]
 cases ts[i]?<;>rfl
def Kc (ss:List S2):Prop:=∀ i,i<ss.length->(sx ss i).text.size<=2000
def Zs (ts:List T2):Prop:=∀ i,i<ts.length->Au (tx ts i).code=true
open Classical in
noncomputable def Hn (ss:List S2) (ts:List T2):Int:=
 if 200<ss.length+ts.length then 1 else if ¬ (Hb (Aq ss)/\Hb (Ao ts)) then 2 else if ¬ Gf (Aq ss) then 3 else if ¬ Gf (Ao ts) then 4
 else if Od (Aq ss) (Ao ts) then 5 else if ¬ Kc ss then 6 else if ¬ Zs ts then 7 else 0
theorem chk1 (h:200<ss.length+ts.length):Hn ss ts=1:=by simp[Hn,h]
theorem chk2 (h:¬ 200<ss.length+ts.length) (h2:¬ (Hb (Aq ss)/\Hb (Ao ts))):Hn ss ts=2:=by unfold Hn;rw[if_neg h,if_pos h2]
theorem chk3 (h:¬ 200<ss.length+ts.length) (h2:Hb (Aq ss)/\Hb (Ao ts)) (h3:¬ Gf (Aq ss)):Hn ss ts=3:=by unfold Hn;rw[if_neg h,if_neg (fun k=>k h2),if_pos h3]
theorem chk4 (h:¬ 200<ss.length+ts.length) (h2:Hb (Aq ss)/\Hb (Ao ts)) (h3:Gf (Aq ss)) (h4:¬ Gf (Ao ts)):Hn ss ts=4:=by unfold Hn;rw[if_neg h,if_neg (fun k=>k h2),if_neg (fun k=>k h3),if_pos h4]
theorem chk5 (h:¬ 200<ss.length+ts.length) (h2:Hb (Aq ss)/\Hb (Ao ts)) (h3:Gf (Aq ss)) (h4:Gf (Ao ts)) (h5:Od (Aq ss) (Ao ts)):Hn ss ts=5:=by unfold Hn;rw[if_neg h,if_neg (fun k=>k h2),if_neg (fun k=>k h3),if_neg (fun k=>k h4),if_pos h5]
theorem chk6 (h:¬ 200<ss.length+ts.length) (h2:Hb (Aq ss)/\Hb (Ao ts)) (h3:Gf (Aq ss)) (h4:Gf (Ao ts)) (h5:¬ Od (Aq ss) (Ao ts)) (h6:¬ Kc ss):Hn ss ts=6:=by unfold Hn;rw[if_neg h,if_neg (fun k=>k h2),if_neg (fun k=>k h3),if_neg (fun k=>k h4),if_neg h5,if_pos h6]
theorem chk7 (h:¬ 200<ss.length+ts.length) (h2:Hb (Aq ss)/\Hb (Ao ts)) (h3:Gf (Aq ss)) (h4:Gf (Ao ts)) (h5:¬ Od (Aq ss) (Ao ts)) (h6:Kc ss) (h7:¬ Zs ts):Hn ss ts=7:=by unfold Hn;rw[if_neg h,if_neg (fun k=>k h2),if_neg (fun k=>k h3),if_neg (fun k=>k h4),if_neg h5,if_neg (fun k=>k h6),if_pos h7]
theorem chk0 (h:¬ 200<ss.length+ts.length) (h2:Hb (Aq ss)/\Hb (Ao ts)) (h3:Gf (Aq ss)) (h4:Gf (Ao ts)) (h5:¬ Od (Aq ss) (Ao ts)) (h6:Kc ss) (h7:Zs ts):Hn ss ts=0:=by unfold Hn;rw[if_neg h,if_neg (fun k=>k h2),if_neg (fun k=>k h3),if_neg (fun k=>k h4),if_neg h5,if_neg (fun k=>k h6),if_neg (fun k=>k h7)]
theorem strs_own {ss:List By} (hn:n=ss.length) (h:w.ownsRow B 9 1 (.slice a n cap) n (Ax ss)):Cv w a ss:=by
 subst hn
 intro i hi
 rcases h.2 with ⟨_,h0⟩|⟨g,ai,cur,hv,_⟩
 ·omega
 ·obtain⟨rfl,_,rfl⟩:a=p_ g/\True/\cap=ai:=by simpa using hv
  refine⟨g,0,rfl,?_⟩;rw[Nat.zero_add,h.cellAt i qb];simp[Ax,gG,Iu hi]
theorem Wl (l:List By) (k:Nat) (h:k<l.length):Ax (l.take k)++[.string (nx l k)]=Ax (l.take (k+1)):=by
 rw[List.take_succ_eq_append_getElem h]
 simp only[Ax,List.map_append,List.map_cons,List.map_nil,nx,gG,Iu h,Option.getD_some]
theorem Lp (a ta:Option Addr) (cap tn tc:Nat) (is:List S2) (w:World) (hc:Jv w a is) (hl:is.length<=1048576) :
  Calls prog 97 #[.agg #[.slice a is.length cap,.slice ta tn tc]] w fun e w'=>Bw w w'/\∃(a':Option Addr) (ai:Nat),e=.returned (.slice a' is.length ai)/\Cv w' a' (Aq is):=by
 obtain⟨i0,hi,bp,bh,bv⟩:=info_parts Tryz.info9b
 have hnl:=Bs is
 have ak:Bw w (w.alloc (.cells #[.slice a is.length cap,.slice ta tn tc] 42)):=aN _ _
 go_enter func97,ntmps97
 go_wp2
 go_loopw [3,9] (fun o i wr=>∃(k:Nat) (ao:Option Addr) (cp:Nat),k<=is.length/\i=I k/\o=.slice ao k cp/\wr.ownsRow w.heap.size 9 1 (.slice ao k cp) k (Ax ((Aq is).take k))/\Bw w wr) (fun _ i _=>is.length-(intOf i).toNat)
 case atStart=>exact⟨0,none,0,Nat.zero_le _,rfl,rfl,⟨qai,Or.inl ⟨rfl,rfl⟩⟩,ak⟩
 case round=>
  obtain⟨k,ao,cp,hk,rfl,rfl,ah,am⟩:=hrel;have hlt0:=am.size
  by_cases aj:k<is.length
  ·obtain⟨b,off,rfl,c1,c2⟩:=(hc.bl am) k aj;have l8:=Wl (Aq is) k qb;rw[Du] at l8;generalize sx is k=i at *;have HS:=hid l8;clear l8 hc;have wt:=(ah.alloc (.cells #[.string i.name,.string i.text] 98)).alloc (.cells #[.string i.name] 9)
   go_wp2_with (first|(at_builtin;refine wpList_append_own _ rfl (.tmp 13) (.tmp 16) 22 rfl w.heap.size 9 i0 ze 1 16 underlying22 hi bp bh bv rfl qd _ _ _ rfl wt ⟨wr.heap.size+1,0,none⟩ 1 1 [.string i.name] rfl rfl ?_ qaf qm qb qh ?_;(focus (have:=cell_one_new (wr.alloc (.cells #[.string i.name,.string i.text] 98)) (.string i.name) 9;simpa using this));intro v' w2 ba ae dp))
   have fg:Bw w w2:=((am.alloc qb _).alloc qh _).grown ae qh (fun k hk=>(ah.lt k hk).1);exact qij
  ·exact qjx
theorem Lo (a ta:Option Addr) (cap tn tc:Nat) (is:List T2) (w:World) (hc:Ju w a is) (hl:is.length<=1048576) :
  Calls prog 98 #[.agg #[.slice ta tn tc,.slice a is.length cap]] w fun e w'=>Bw w w'/\∃(a':Option Addr) (ai:Nat),e=.returned (.slice a' is.length ai)/\Cv w' a' (Ao is):=by
 obtain⟨i0,hi,bp,bh,bv⟩:=info_parts Tryz.info9b
 have hnl:=Bn is
 have ak:Bw w (w.alloc (.cells #[.slice ta tn tc,.slice a is.length cap] 42)):=aN _ _
 go_enter func98,ntmps98
 go_wp2
 go_loopw [3,9] (fun o i wr=>∃(k:Nat) (ao:Option Addr) (cp:Nat),k<=is.length/\i=I k/\o=.slice ao k cp/\wr.ownsRow w.heap.size 9 1 (.slice ao k cp) k (Ax ((Ao is).take k))/\Bw w wr) (fun _ i _=>is.length-(intOf i).toNat)
 case atStart=>exact⟨0,none,0,Nat.zero_le _,rfl,rfl,⟨qai,Or.inl ⟨rfl,rfl⟩⟩,ak⟩
 case round=>
  obtain⟨k,ao,cp,hk,rfl,rfl,ah,am⟩:=hrel;have hlt0:=am.size
  by_cases aj:k<is.length
  ·obtain⟨b,off,rfl,c1,x,p,c2,c3⟩:=(hc.bl am) k aj;have l8:=Wl (Ao is) k qb;rw[Dl] at l8;generalize tx is k=i at *;have HS:=hid l8;clear l8 hc;have wt:=(ah.alloc (.cells #[.string i.name,.slice x i.code.length p] 100)).alloc (.cells #[.string i.name] 9)
   go_wp2_with (first|(at_builtin;refine wpList_append_own _ rfl (.tmp 13) (.tmp 16) 22 rfl w.heap.size 9 i0 ze 1 16 underlying22 hi bp bh bv rfl qd _ _ _ rfl wt ⟨wr.heap.size+1,0,none⟩ 1 1 [.string i.name] rfl rfl ?_ qaf qm qb qh ?_;(focus (have:=cell_one_new (wr.alloc (.cells #[.string i.name,.slice x i.code.length p] 100)) (.string i.name) 9;simpa using this));intro v' w2 ba ae dp))
   have fg:Bw w w2:=((am.alloc qb _).alloc qh _).grown ae qh (fun k hk=>(ah.lt k hk).1);exact qij
  ·exact qjx
theorem Tg (a:Option Addr) (cap:Nat) (l:List By) (w:World) (hc:Cv w a l) (hl:l.length<=1048576) (hs:∀ i,(nx l i).size<=maxLen) :
  Calls prog 99 #[.slice a l.length cap] w fun e w'=>w=w'/\∃ b:Bool,e=.returned (.bool b)/\(b=true↔Hb l):=by
 go_enter func99,ntmps99
 go_wp2
 go_loopw [7] (fun i wr=>∃ k:Nat,k<=l.length/\i=I k/\Hd (∀ j,j<k->Fk (nx l j)=true)/\w=wr) (fun i _=>l.length-(intOf i).toNat)
 case atStart=>exact⟨0,Nat.zero_le _,rfl,(fun j hj=>by omega:∀ j,j<0->Fk (nx l j)=true),rfl⟩
 case round=>
  obtain⟨k,hk,rfl,HA,rfl⟩:=hrel
  by_cases aj:k<l.length
  ·obtain⟨b,off,rfl,c1⟩:=hc.nx k aj;have fx:=hs k;unfold maxLen at fx;obtain⟨v,hv⟩:=Ai (Fk (nx l k));have HV:=hid hv;have HN:Hd (∀ W:World,Calls prog 106 #[.string (nx l k)] W fun e w'=>e=.returned (.bool v)/\W=w'):=fun W=>by rw[<- hv];exact Dg _ W fx
   clear hc hs hv;generalize nx l k=s at c1 HN fx;cases v
   ·go_wp2_with (go_at_call 106;refine(HN.o _).mono ?_;rintro e w' ⟨rfl,rfl⟩)
    go_ret;exact⟨rfl,false,rfl,Dy (fun h=>by have:=h k aj;rw[HV.o] at this;cases this)⟩
   ·go_wp2_with (go_at_call 106;refine(HN.o _).mono ?_;rintro e w' ⟨rfl,rfl⟩)
    go_roundw
    case rel=>exact⟨k+1,qb,qj,Cp HA.o HV.o,trivial⟩
    case measure=>simp[intOf];omega
  ·go_wp2;go_ret;exact⟨rfl,true,rfl,Fy (fun j hj=>HA.o j qb)⟩
theorem Rk (s t:By) (w:World):Calls prog 140 #[.string s,.string t] w fun e w'=>e=.returned (.bool (Ar s t))/\w=w':=by
 unfold Ar
 have e1:=Cw (rfl:s=s)
 go_enter func140,ntmps140
 exact qah
theorem Yy (h:Gf l) (hm:m<l.length) (hv:Ar (nx l m) t=true):∀ j,j<m+1->Ar (nx l j) t=true:=by
 intro j hj
 rcases Nat.lt_or_ge j m with h1|h1
 ·exact Jy (h.pair h1 hm) hv
 ·obtain rfl:j=m:=qb;exact hv
theorem Te (h:Gf l) (hv:Ar (nx l m) t=false):∀ j,m<=j->j<l.length->Ar (nx l j) t=false:=by
 intro j hj hl
 rcases Nat.lt_or_ge m j with h1|h1
 ·rw[Bool.eq_false_iff];intro h2;have:=Jy (h.pair h1 hl) h2;rw[hv] at this;cases this
 ·obtain rfl:j=m:=qb;exact hv
theorem Mp (h:Gf l) (h1:∀ j,j<i->Ar (nx l j) t=true) (h2:∀ j,i<=j->j<l.length->Ar (nx l j) t=false) (k:Ec l t):i<l.length/\nx l i=t:=by
 obtain⟨j,hj,e⟩:=k
 rcases Nat.lt_trichotomy j i with V9|V9|V9
 ·have:=h1 j V9;rw[e,Ej] at this;cases this
 ·subst V9;exact⟨hj,e⟩
 ·have:=h.pair V9 hj;rw[e,h2 i (Nat.le_refl _) qb] at this;cases this
theorem Qs (a:Option Addr) (cap:Nat) (l:List By) (t:By) (w:World) (hc:Cv w a l) (hl:l.length<=1048576) (ew:Gf l) :
  Calls prog 123 #[.slice a l.length cap,.string t] w fun e w'=>w=w'/\∃(r:Int) (b:Bool),e=.returned (.tuple #[I r,.bool b])/\(b=true↔Ec l t):=by
 have jk:=hid ew
 clear ew
 go_enter func123,ntmps123
 go_wp2
 go_loopw [7,8] (fun i j wr=>∃ lo hi:Nat,i=I lo/\j=I hi/\lo<=hi/\hi<=l.length/\Hd (∀ j,j<lo->Ar (nx l j) t=true)/\Hd (∀ j,hi<=j->j<l.length->Ar (nx l j) t=false)/\w=wr) (fun i j _=>(intOf j).toNat-(intOf i).toNat)
 case atStart=>exact⟨0,l.length,rfl,rfl,Nat.zero_le _,Nat.le_refl _,(fun j hj=>by omega:∀ j,j<0->Ar (nx l j) t=true),(fun j h1 h2=>by omega:∀ j,l.length<=j->j<l.length->Ar (nx l j) t=false),rfl⟩
 case round=>
  obtain⟨lo,hi,rfl,rfl,h1,h2,HL,HH,rfl⟩:=hrel
  by_cases aj:lo<hi
  ·obtain⟨m,e1,vr,sw⟩:∃ m:Nat,((lo:Int)+(hi:Int)) / 2=(m:Int)/\lo<=m/\m<hi:=⟨(lo+hi) / 2,qb,qb,qb⟩;obtain⟨b,off,rfl,c1⟩:=hc.nx m qb;obtain⟨v,hv⟩:=Ai (Ar (nx l m) t);have HV:=hid hv;have HN:Hd (∀ W:World,Calls prog 140 #[.string (nx l m),.string t] W fun e w'=>e=.returned (.bool v)/\W=w'):=fun W=>by rw[<- hv];exact Rk _ _ W
   clear hc hv;generalize nx l m=s at c1 HN;have M8:(m:Int)<(l.length:Int):=qb;cases v
   ·go_wp2_with (go_at_call 140;refine(HN.o _).mono ?_;rintro e w' ⟨rfl,rfl⟩)
    go_roundw
    case rel=>exact⟨lo,m,rfl,rfl,vr,qb,HL.o,Te jk.o HV.o,trivial⟩
    case measure=>simp[intOf];omega
   ·go_wp2_with (go_at_call 140;refine(HN.o _).mono ?_;rintro e w' ⟨rfl,rfl⟩)
    go_roundw
    case rel=>exact⟨m+1,hi,qj,rfl,qb,qb,Yy jk.o qb HV.o,HH.o,trivial⟩
    case measure=>simp[intOf];omega
  ·obtain rfl:lo=hi:=qb
   by_cases wv:lo<l.length
   ·obtain⟨b,off,rfl,c1⟩:=hc.nx lo wv;have hlI:(lo:Int)<(l.length:Int):=qb
    by_cases he:nx l lo=t
    ·have oy:=Cw he;have HE:=hid he;clear hc he;generalize nx l lo=s at c1 oy;go_wp2
     go_ret2
     exact⟨rfl,_,true,rfl,Fy ⟨lo,wv,HE.o⟩⟩
    ·have oy:=Gl he;have HE:=hid he;clear hc he;have hss:=Cw (rfl:nx l lo=nx l lo);generalize nx l lo=s at c1 oy hss;go_wp2
     go_ret2
     exact⟨rfl,_,false,rfl,Dy (fun h=>HE.o (Mp jk.o HL.o HH.o h).2)⟩
   ·have hlI:¬ (lo:Int)<(l.length:Int):=qb;have zr:=hid wv;go_wp2
    go_ret2
    exact⟨rfl,_,Or.inl ⟨rfl,fun h=>zr.o (Mp jk.o HL.o HH.o h).1⟩⟩
theorem Vp (a a':Option Addr) (cap ai:Nat) (l m:List By) (w:World) (hc:Cv w a l) (oe:Cv w a' m) (hl:l.length<=1048576) (Is:m.length<=1048576) (ew:Gf m) :
  Calls prog 101 #[.slice a l.length cap,.slice a' m.length ai] w fun e w'=>w=w'/\∃ b:Bool,e=.returned (.bool b)/\(b=true↔Od l m):=by
 have HB:Hd (∀ t:By,Calls prog 123 #[.slice a' m.length ai,.string t] w fun e w'=>w=w'/\∃(r:Int) (b:Bool),e=.returned (.tuple #[I r,.bool b])/\(b=true↔Ec m t)):=fun t=>Qs a' ai m t w oe Is ew
 clear oe ew
 go_enter func101,ntmps101
 go_wp2
 go_loopw [11] (fun i wr=>∃ k:Nat,k<=l.length/\i=I k/\Hd (∀ j,j<k->¬ Ec m (nx l j))/\w=wr) (fun i _=>l.length-(intOf i).toNat)
 case atStart=>exact⟨0,Nat.zero_le _,rfl,(fun j hj=>by omega:∀ j,j<0->¬ Ec m (nx l j)),rfl⟩
 case round=>
  obtain⟨k,hk,rfl,HA,rfl⟩:=hrel
  by_cases aj:k<l.length
  ·obtain⟨b,off,rfl,c1⟩:=hc.nx k aj;clear hc;obtain⟨s,es⟩:=Ai (nx l k);have ES:=hid es;rw[es] at c1;clear es;go_wp2_with fail;refine(HB.o s).mono ?_;rintro e w' ⟨rfl,r,b,rfl,hb⟩;cases b
   ·(have HNo:Hd (¬ Ec m s):=fun h=>by have:=hb.mpr h;cases this);clear hb;go_wp2;go_roundw
    case rel=>exact⟨k+1,qb,qj,Cp HA.o (by rw[ES.o];exact HNo.o),trivial⟩
    case measure=>simp[intOf];omega
   ·have HYes:Hd (Ec m s):=hb.mp rfl;clear hb;go_wp2;go_ret;exact⟨rfl,true,rfl,Fy ⟨k,aj,by rw[ES.o];exact HYes.o⟩⟩
  ·go_wp2;go_ret;exact⟨rfl,false,rfl,Dy (fun ⟨j,hj,h⟩=>HA.o j qb h)⟩
theorem Tf (a:Option Addr) (cap:Nat) (is:List S2) (w:World) (hc:Jv w a is) (hl:is.length<=1048576) (hs:∀ i,(sx is i).text.size<=maxLen) :
  Calls prog 102 #[.slice a is.length cap] w fun e w'=>Bw w w'/\∃ b:Bool,e=.returned (.bool b)/\(b=true↔Kc is):=by
 go_enter func102,ntmps102
 go_wp2
 go_loopw [7] (fun i wr=>∃ k:Nat,k<=is.length/\i=I k/\Hd (∀ j,j<k->(sx is j).text.size<=2000)/\Bw w wr) (fun i _=>is.length-(intOf i).toNat)
 case atStart=>exact⟨0,Nat.zero_le _,rfl,(fun j hj=>by omega:∀ j,j<0->(sx is j).text.size<=2000),Below.refl _ _⟩
 case round=>
  obtain⟨k,hk,rfl,HA,am⟩:=hrel
  by_cases aj:k<is.length
  ·obtain⟨b,off,rfl,c1,c2⟩:=(hc.bl am) k aj;have fx:=hs k;unfold maxLen at fx;obtain⟨i,ei⟩:=Ai (sx is k);have EI:=hid ei;rw[ei] at c1 c2 fx;clear hc hs ei;have je:(k:Int)<(is.length:Int):=qb
   by_cases ht:i.text.size<=2000
   ·go_wp2;go_roundw
    case rel=>exact⟨k+1,qb,qj,Cp HA.o (by rw[EI.o];exact ht),am.alloc am.size _⟩
    case measure=>simp[intOf];omega
   ·go_wp2;go_ret;exact⟨am.alloc am.size _,false,rfl,Dy (fun h=>by have:=h k aj;rw[EI.o] at this;omega)⟩
  ·go_wp2;go_ret;exact⟨am,true,rfl,Fy (fun j hj=>HA.o j qb)⟩
theorem Qb (a:Option Addr) (cap:Nat) (is:List T2) (w:World) (hT:Lr w) (hc:Ju w a is) (hl:is.length<=1048576) (hk:∀ i,i<is.length->(tx is i).code.length<=1048576) (hs:∀ i j,(ix (tx is i).code j).text.size<=maxLen) :
  Calls prog 103 #[.slice a is.length cap] w fun e w'=>Bw w w'/\∃ b:Bool,e=.returned (.bool b)/\(b=true↔Zs is):=by
 have HK:=hid hk
 have HX:=hid hs
 clear hk hs
 go_enter func103,ntmps103
 go_wp2
 go_loopw [7] (fun i wr=>∃ k:Nat,k<=is.length/\i=I k/\Hd (∀ j,j<k->Au (tx is j).code=true)/\Bw w wr) (fun i _=>is.length-(intOf i).toNat)
 case atStart=>exact⟨0,Nat.zero_le _,rfl,(fun j hj=>by omega:∀ j,j<0->Au (tx is j).code=true),Below.refl _ _⟩
 case round=>
  obtain⟨k,hk,rfl,HA,am⟩:=hrel
  by_cases aj:k<is.length
  ·obtain⟨b,off,rfl,c1,x,p,c2,c3⟩:=(hc.bl am) k aj;have zj:=HK.o k aj;have Y1:=HX.o k;obtain⟨i,ei⟩:=Ai (tx is k);have EI:=hid ei;rw[ei] at c1 c2 c3 zj Y1;clear hc ei;have je:(k:Int)<(is.length:Int):=qb;have fe:Bw wr (wr.alloc (.cells #[.string i.name,.slice x i.code.length p] 100)):=aN _ _;have HN:Hd (Calls prog 124 #[.agg #[.slice x i.code.length p]] (wr.alloc (.cells #[.string i.name,.slice x i.code.length p] 100)) fun e w'=>Below (wr.alloc (.cells #[.string i.name,.slice x i.code.length p] 100)).heap.size (wr.alloc (.cells #[.string i.name,.slice x i.code.length p] 100)) w'/\e=.returned (.bool (Au i.code))):=Kg x p i.code _ ((hT.bl am).bl fe) (c3.bl fe) zj Y1;have HB:=hid fe;clear fe Y1 c3 hT;obtain⟨v,hv⟩:=Ai (Au i.code);rw[hv] at HN;have HV:=hid hv;clear hv;cases v
   ·go_wp2_with (go_at_call 124;refine HN.o.mono ?_;rintro e w1 ⟨af,rfl⟩)
    go_ret;exact⟨bt (bt am HB.o) af,false,rfl,Dy (fun h=>by have:=h k aj;rw[EI.o,HV.o] at this;cases this)⟩
   ·go_wp2_with (go_at_call 124;refine HN.o.mono ?_;rintro e w1 ⟨af,rfl⟩)
    go_roundw
    case rel=>exact⟨k+1,qb,qj,Cp HA.o (by rw[EI.o];exact HV.o),bt (bt am HB.o) af⟩
    case measure=>simp[intOf];omega
  ·go_wp2;go_ret;exact⟨am,true,rfl,Fy (fun j hj=>HA.o j qb)⟩
theorem Ov (n:Nat) (a:Option Addr) (cap:Nat) (l:List By) (w:World) (hn:n=l.length) (hc:Cv w a l) (hl:n<=1048576) (hs:∀ i,(nx l i).size<=maxLen) :
  Calls prog 99 #[.slice a n cap] w fun e w'=>w=w'/\∃ b:Bool,e=.returned (.bool b)/\(b=true↔Hb l):=by
 subst hn;exact Tg a cap l w hc hl hs
theorem Rn (n:Nat) (a:Option Addr) (cap:Nat) (l:List By) (w:World) (hn:n=l.length) (hc:Cv w a l) (hl:n<=1048576) :
  Calls prog 100 #[.slice a n cap] w fun e w'=>Bw w w'/\∃ b:Bool,e=.returned (.bool b)/\(b=true↔Gf l):=by
 subst hn;exact Oc a cap l w hc hl
theorem Qaq (n n':Nat) (a a':Option Addr) (cap ai:Nat) (l m:List By) (w:World) (hn:n=l.length) (hn':n'=m.length) (hc:Cv w a l) (oe:Cv w a' m) (hl:n<=1048576) (Is:n'<=1048576) (ew:Gf m) :
  Calls prog 101 #[.slice a n cap,.slice a' n' ai] w fun e w'=>w=w'/\∃ b:Bool,e=.returned (.bool b)/\(b=true↔Od l m):=by
 subst hn;subst hn';exact Vp a a' cap ai l m w hc oe hl Is ew
theorem Hj {b:Bool} (h:b=true↔P) (hb:b=false):¬ P:=fun k=>by rw[h.mpr k] at hb;cases hb
theorem Oa (sa ta:Option Addr) (c1 c2:Nat) (ss:List S2) (ts:List T2) (w:World) (hT:Lr w) (h:Ll w sa ss ta ts) (mr:Fb ss ts) :
  Calls prog 75 #[.agg #[.slice sa ss.length c1,.slice ta ts.length c2]] w fun e w'=>Bw w w'/\e=.returned (I (Hn ss ts)):=by
 have ak:Bw w (w.alloc (.cells #[.slice sa ss.length c1,.slice ta ts.length c2] 42)):=aN _ _
 obtain⟨rs,rt,ls,lt,ns,xs,nt,lc,xt⟩:=h
 obtain⟨l1,l2,l3⟩:=mr
 by_cases wh:200<ss.length+ts.length
 ·have HC:Hd (Hn ss ts=1):=chk1 wh;clear rs rt ns xs nt lc xt l3;go_enter func75,ntmps75;go_wp2;go_ret;exact⟨ak,qad⟩
 ·have mq:Hd (¬ 200<ss.length+ts.length):=wh;have RS:=hid rs;have RT:=hid rt;have NS:Hd (∀ i,(nx (Aq ss) i).size<=maxLen):=fun i=>by rw[Du];exact ns i
  have NT:Hd (∀ i,(nx (Ao ts) i).size<=maxLen):=fun i=>by rw[Dl];exact nt i
  have XS:=hid xs;have XT:=hid xt;have L3:=hid l3;have HT:=hid hT;clear rs rt ns xs nt lc xt l3 hT;have hb0d:=ak.drew;have G2:=hid hb0d;clear ak hb0d;have HE1:=Bs ss;have HE2:=Bn ts;have E1:=hid HE1.symm;have E2:=hid HE2.symm;clear HE1 HE2;go_enter func75,ntmps75;go_wp2_with fail
  go_region_held3 (fun w'=>w'.cell? ⟨w.heap.size,0,none⟩=some (.slice sa ss.length c1)/\w'.cell? ⟨w.heap.size,1,none⟩=some (.slice ta ts.length c2))
   (first|assumption|(simp[go_sem];done)|exact⟨Aa fg zh.1,Aa fg zh.2⟩|exact⟨Aa bu qk,Aa bu qk⟩)
   (first
    | (go_at_call 98;refine(Lo ta sa c2 ss.length c1 ts _ (RT.o.bl (bt G2.o bu)) l2).mono ?_;rintro e wB ⟨fg,a2,p2,rfl,V7⟩;have Id:=hnA.out.bl fg)
    | (go_at_call 97;refine(Lp sa ta c1 ts.length c2 ss _ (RS.o.bl (bt G2.o bu)) l1).mono ?_;rintro e wB ⟨fg,a1,p1,rfl,Id⟩;have V7:=hnA.out.bl fg)
    | (go_at_call 97;refine(Lp sa ta c1 ts.length c2 ss _ (RS.o.bl G2.o) l1).mono ?_;rintro e wA ⟨bu,a1,p1,rfl,Z3⟩;have hnA:Hd (Cv wA a1 (Aq ss)):=Z3;clear Z3;have zh:wA.cell? ⟨w.heap.size,0,none⟩=some (.slice sa ss.length c1)/\wA.cell? ⟨w.heap.size,1,none⟩=some (.slice ta ts.length c2):=⟨Aa bu qk,Aa bu qk⟩)
    | (go_at_call 98;refine(Lo ta sa c2 ss.length c1 ts _ (RT.o.bl G2.o) l2).mono ?_;rintro e wA ⟨bu,a2,p2,rfl,Z3⟩;have hnA:Hd (Cv wA a2 (Ao ts)):=Z3;clear Z3;have zh:wA.cell? ⟨w.heap.size,0,none⟩=some (.slice sa ss.length c1)/\wA.cell? ⟨w.heap.size,1,none⟩=some (.slice ta ts.length c2):=⟨Aa bu qk,Aa bu qk⟩))
  have hkB:wB.cell? ⟨w.heap.size,0,none⟩=some (.slice sa ss.length c1)/\wB.cell? ⟨w.heap.size,1,none⟩=some (.slice ta ts.length c2):=by assumption
  obtain⟨k0,k1⟩:=hkB;have hBB:=bt (bt G2.o bu) fg;have N1:=hid Id;have N2:=hid V7;clear bu fg zh hnA Id V7;go_wp2_with fail;refine(Ov ss.length a1 p1 (Aq ss) _ E1.o N1.o l1 NS.o).mono ?_;rintro e w' ⟨rfl,b1,rfl,af⟩;have fw:=hid af;clear af;cases b1
  ·have HC:Hd (Hn ss ts=2):=chk2 mq.o (fun h=>Hj fw.o rfl h.1);go_wp2_with fail;go_ret;exact⟨hBB,qad⟩
  ·have H1:Hd (Hb (Aq ss)):=fw.o.mp rfl;clear fw;go_wp2_with fail;refine(Ov ts.length a2 p2 (Ao ts) _ E2.o N2.o l2 NT.o).mono ?_;rintro e w' ⟨rfl,b2,rfl,ag⟩;have gi:=hid ag;clear ag;cases b2
   ·have HC:Hd (Hn ss ts=2):=chk2 mq.o (fun h=>Hj gi.o rfl h.2);go_wp2_with fail;go_ret;exact⟨hBB,qad⟩
   ·have H2:Hd (Hb (Aq ss)/\Hb (Ao ts)):=⟨H1.o,gi.o.mp rfl⟩;clear H1 gi;go_wp2_with fail;refine(Rn ss.length a1 p1 (Aq ss) _ E1.o N1.o l1).mono ?_;rintro e w3 ⟨aw,b3,rfl,hb3'⟩;have fk:=hid hb3';have gy:=bt hBB aw;have N13:=hid (N1.o.bl aw);have N23:=hid (N2.o.bl aw);have k03:=Aa aw k0;have k13:=Aa aw k1;clear hb3' aw hBB N1 N2 k0 k1;cases b3
    ·have HC:Hd (Hn ss ts=3):=chk3 mq.o H2.o (Hj fk.o rfl);go_wp2_with fail;go_ret;exact⟨gy,qad⟩
    ·have H3:Hd (Gf (Aq ss)):=fk.o.mp rfl;clear fk;go_wp2_with fail;refine(Rn ts.length a2 p2 (Ao ts) _ E2.o N23.o l2).mono ?_;rintro e w4 ⟨cj,b4,rfl,hb4'⟩;have xr:=hid hb4';have ij:=bt gy cj;have N14:=hid (N13.o.bl cj);have N24:=hid (N23.o.bl cj);have k04:=Aa cj k03;have k14:=Aa cj k13;clear hb4' cj gy N13 N23 k03 k13;cases b4
     ·have HC:Hd (Hn ss ts=4):=chk4 mq.o H2.o H3.o (Hj xr.o rfl);go_wp2_with fail;go_ret;exact⟨ij,qad⟩
     ·have H4:Hd (Gf (Ao ts)):=xr.o.mp rfl;clear xr;go_wp2_with fail;refine(Qaq ss.length ts.length a1 a2 p1 p2 (Aq ss) (Ao ts) _ E1.o E2.o N14.o N24.o l1 l2 H4.o).mono ?_;rintro e w' ⟨rfl,b5,rfl,cu⟩;have lh:=hid cu;clear cu;cases b5
      ·have H5:Hd (¬ Od (Aq ss) (Ao ts)):=Hj lh.o rfl;clear lh;go_wp2_with fail;refine(Tf sa c1 ss _ (RS.o.bl ij) l1 XS.o).mono ?_;rintro e w6 ⟨ci,b6,rfl,hb6'⟩;have zx:=hid hb6';have N7:=bt ij ci;have k16:=Aa ci k14;clear hb6' ci ij k04 k14 N14 N24;cases b6
       ·have HC:Hd (Hn ss ts=6):=chk6 mq.o H2.o H3.o H4.o H5.o (Hj zx.o rfl);go_wp2_with fail;go_ret;exact⟨N7,qad⟩
       ·have H6:Hd (Kc ss):=zx.o.mp rfl;clear zx;go_wp2_with fail;refine(Qb ta c2 ts _ (HT.o.bl N7) (RT.o.bl N7) l2 L3.o XT.o).mono ?_;rintro e w7 ⟨co,b7,rfl,hb7'⟩;have X6:=hid hb7';have F5:=bt N7 co;clear hb7' co N7 k16;cases b7
        ·have HC:Hd (Hn ss ts=7):=chk7 mq.o H2.o H3.o H4.o H5.o H6.o (Hj X6.o rfl);go_wp2_with fail;go_ret;exact⟨F5,qad⟩
        ·have HC:Hd (Hn ss ts=0):=chk0 mq.o H2.o H3.o H4.o H5.o H6.o (X6.o.mp rfl);go_wp2_with fail;go_ret;exact⟨F5,qad⟩
      ·have HC:Hd (Hn ss ts=5):=chk5 mq.o H2.o H3.o H4.o (lh.o.mp rfl);go_wp2_with fail;go_ret;exact⟨ij,qad⟩
theorem Ze (sa ta:Option Addr) (n1 c1 c2:Nat) (ts:List T2) (s:By) (w:World) (hc:Ju w ta ts) (hl:ts.length<=1048576) :
  Calls prog 47 #[.agg #[.slice sa n1 c1,.slice ta ts.length c2],.string s] w fun e w'=>Bw w w'/\∃ r:Int,e=.returned (I r)/\((0<=r/\Ec (Ao ts) s)\/(r<0/\¬ Ec (Ao ts) s)):=by
 have ak:Bw w (w.alloc (.cells #[.slice sa n1 c1,.slice ta ts.length c2] 42)):=aN _ _
 have k1:(w.alloc (.cells #[.slice sa n1 c1,.slice ta ts.length c2] 42)).cell? ⟨w.heap.size,1,none⟩=some (.slice ta ts.length c2):=qk
 have HC:=hid (hc.bl ak)
 clear hc
 go_enter func47,ntmps47
 go_wp2
 go_loopw [5] (fun i wr=>∃ k:Nat,k<=ts.length/\i=I k/\Hd (∀ j,j<k->(tx ts j).name≠s)/\(w.alloc (.cells #[.slice sa n1 c1,.slice ta ts.length c2] 42))=wr) (fun i _=>ts.length-(intOf i).toNat)
 case atStart=>exact⟨0,Nat.zero_le _,rfl,(fun j hj=>by omega:∀ j,j<0->(tx ts j).name≠s),rfl⟩
 case round=>
  obtain⟨k,hk,rfl,HA,rfl⟩:=hrel
  by_cases aj:k<ts.length
  ·obtain⟨b,off,rfl,F6,x,p,zl,c3'⟩:=HC.o k aj;have je:(k:Int)<(ts.length:Int):=qb;obtain⟨nm,en⟩:=Ai ((tx ts k).name);have EN:=hid en;rw[en] at F6;clear en zl c3'
   by_cases he:nm=s
   ·have oy:=Cw he;have HE:=hid he;clear he;go_wp2;go_ret;exact⟨ak,_,rfl,Or.inl ⟨qb,k,by rw[Bn];exact aj,by rw[Dl,EN.o];exact HE.o⟩⟩
   ·have oy:=Gl he;have HE:=hid he;clear he;go_wp2;go_roundw
    case rel=>exact⟨k+1,qb,qj,Cp HA.o (by rw[EN.o];exact HE.o),trivial⟩
    case measure=>simp[intOf];omega
  ·go_wp2;go_ret;exact⟨ak,_,rfl,Or.inr ⟨qb,fun ⟨j,hj,e⟩=>by rw[Bn] at hj;rw[Dl] at e;exact HA.o j qb e⟩⟩
def Kp (w:World) (v1 v2:Value) (wr:World):Prop:=Bw w wr/\wr.cell? ⟨w.heap.size,0,none⟩=some v1/\wr.cell? ⟨w.heap.size,1,none⟩=some v2
theorem Kp.bl {wr:World} {v1 v2:Value} (h:Kp w v1 v2 wr) (hb:Bw wr w'):Kp w v1 v2 w':=⟨bt h.1 hb,Aa hb h.2.1,Aa hb h.2.2⟩
theorem allN_bad_s (hk:k<ss.length) (h:Fk (sx ss k).name=false):¬ Hb (Aq ss):=fun hh=>by
 have:=hh k (by rw[Bs];exact hk)
 rw[Du,h] at this;cases this
theorem allN_bad_t {ss:List T2} (hk:k<ss.length) (h:Fk (tx ss k).name=false):¬ Hb (Ao ss):=fun hh=>by
 have:=hh k (by rw[Bn];exact hk)
 rw[Dl,h] at this;cases this
theorem acts_step (h:(v=0/\∀ j,j<k->Au (tx ts j).code=true)\/(v=7/\∃ j,j<k/\Au (tx ts j).code=false)) (hk:Au (tx ts k).code=true):(v=0/\∀ j,j<k+1->Au (tx ts j).code=true)\/(v=7/\∃ j,j<k+1/\Au (tx ts j).code=false):=by
 rcases h with ⟨rfl,h⟩|⟨rfl,j,hj,h⟩
 ·exact Or.inl ⟨rfl,Cp h hk⟩
 ·exact Or.inr ⟨rfl,j,qb,h⟩
theorem acts_end (h1:¬ 200<ss.length+ts.length) (h2:Hb (Aq ss)/\Hb (Ao ts)) (h3:Gf (Aq ss)) (h4:Gf (Ao ts)) (h5:¬ Od (Aq ss) (Ao ts)) (h6:Kc ss) (hk:k=ts.length) (h:(v=0/\∀ j,j<k->Au (tx ts j).code=true)\/(v=7/\∃ j,j<k/\Au (tx ts j).code=false)):Hn ss ts=v:=by
 subst hk
 rcases h with ⟨rfl,h⟩|⟨rfl,j,hj,h⟩
 ·exact chk0 h1 h2 h3 h4 h5 h6 h
 ·exact chk7 h1 h2 h3 h4 h5 h6 (fun hh=>by rw[hh j hj] at h;cases h)
theorem Nu (sa ta:Option Addr) (c1 c2:Nat) (ss:List S2) (ts:List T2) (w:World) (h:Ll w sa ss ta ts) (mr:Fb ss ts) :
  Calls prog 22 #[.agg #[.slice sa ss.length c1,.slice ta ts.length c2]] w fun e w'=>Bw w w'/\e=.returned (I (Hn ss ts)):=by
 have ak:Bw w (w.alloc (.cells #[.slice sa ss.length c1,.slice ta ts.length c2] 42)):=aN _ _
 obtain⟨rs,rt,ls,lt,ns,xs,nt,lc,xt⟩:=h
 obtain⟨l1,l2,l3⟩:=mr
 have M9:Kp w (.slice sa ss.length c1) (.slice ta ts.length c2) (w.alloc (.cells #[.slice sa ss.length c1,.slice ta ts.length c2] 42)):=⟨ak,qk,qk⟩
 by_cases wh:200<ss.length+ts.length
 ·have HC:Hd (Hn ss ts=1):=chk1 wh;clear rs rt ns xs nt lc xt l3;go_enter func22,ntmps22;go_wp2;go_ret;exact⟨ak,qad⟩
 ·have mq:Hd (¬ 200<ss.length+ts.length):=wh;have RS:=hid rs;have RT:=hid rt;have NS:=hid ns;have NT:=hid nt;have XS:=hid xs;have XT:=hid xt;have L3:=hid l3;clear rs rt ns xs nt lc xt l3 ak;go_enter func22,ntmps22;go_wp2
  go_loopw [5] (fun i wr=>∃ k:Nat,k<=ss.length/\i=I k/\Hd (∀ j,j<k->Fk (sx ss j).name=true)/\Hd (Kp w (.slice sa ss.length c1) (.slice ta ts.length c2) wr)) (fun i _=>ss.length-(intOf i).toNat)
  case atStart=>exact⟨0,Nat.zero_le _,rfl,(fun j hj=>by omega:∀ j,j<0->Fk (sx ss j).name=true),M9⟩
  case round=>
   obtain⟨k,hk,rfl,HA,HK⟩:=hrel;obtain⟨am,k0,k1⟩:=HK.o
   by_cases aj:k<ss.length
   ·obtain⟨b,off,rfl,d1,d2⟩:=(RS.o.bl am) k aj;have fx:=NS.o k;have je:(k:Int)<(ss.length:Int):=qb;obtain⟨v,hv⟩:=Ai (Fk (sx ss k).name);have HV:=hid hv;(have HN:Hd (∀ W:World,Calls prog 23 #[.string (sx ss k).name] W fun e w'=>e=.returned (.bool v)/\W=w'):=fun W=>by rw[<- hv];exact Bx _ W fx);clear hv d2 fx;generalize (sx ss k).name=s at d1 HN;cases v
    ·have HC:Hd (Hn ss ts=2):=chk2 mq.o (fun h=>allN_bad_s aj HV.o h.1);exact qkz
    ·go_wp2_with (go_at_call 23;refine(HN.o _).mono ?_;rintro e w' ⟨rfl,rfl⟩)
     go_roundw
     case rel=>exact⟨k+1,qb,qj,Cp HA.o HV.o,HK.o⟩
     case measure=>simp[intOf];omega
   ·(have HA1:Hd (Hb (Aq ss)):=fun j hj=>by rw[Du];rw[Bs] at hj;exact HA.o j qb);clear HA;go_wp2
    go_loopw [6] (fun i wr=>∃ k:Nat,k<=ts.length/\i=I k/\Hd (∀ j,j<k->Fk (tx ts j).name=true)/\Hd (Kp w (.slice sa ss.length c1) (.slice ta ts.length c2) wr)) (fun i _=>ts.length-(intOf i).toNat)
    case atStart=>exact⟨0,Nat.zero_le _,rfl,(fun j hj=>by omega:∀ j,j<0->Fk (tx ts j).name=true),HK.o⟩
    case round=>
     clear HK am k0 k1;obtain⟨k',hk',rfl,HA,HK⟩:=hrel;obtain⟨am,k0,k1⟩:=HK.o
     by_cases aj:k'<ts.length
     ·obtain⟨b,off,rfl,d1,x,p,d2,d3⟩:=(RT.o.bl am) k' aj;have fx:=NT.o k';have je:(k':Int)<(ts.length:Int):=qb;obtain⟨v,hv⟩:=Ai (Fk (tx ts k').name);have HV:=hid hv;(have HN:Hd (∀ W:World,Calls prog 23 #[.string (tx ts k').name] W fun e w'=>e=.returned (.bool v)/\W=w'):=fun W=>by rw[<- hv];exact Bx _ W fx);clear hv d2 d3 fx;generalize (tx ts k').name=s at d1 HN;cases v
      ·have HC:Hd (Hn ss ts=2):=chk2 mq.o (fun h=>allN_bad_t aj HV.o h.2);exact qkz
      ·go_wp2_with (go_at_call 23;refine(HN.o _).mono ?_;rintro e w' ⟨rfl,rfl⟩)
       go_roundw
       case rel=>exact⟨k'+1,qb,qj,Cp HA.o HV.o,HK.o⟩
       case measure=>simp[intOf];omega
     ·have H2:Hd (Hb (Aq ss)/\Hb (Ao ts)):=⟨HA1.o,fun j hj=>by rw[Dl];rw[Bn] at hj;exact HA.o j qb⟩;clear HA HA1;go_wp2
      go_loopw [7] (fun i wr=>∃ m:Nat,(m=0\/m+1<=ss.length)/\i=I (m+1)/\Hd (∀ j,1<=j->j<m+1->Ar (nx (Aq ss) (j-1)) (nx (Aq ss) j)=true)/\Hd (Kp w (.slice sa ss.length c1) (.slice ta ts.length c2) wr)) (fun i _=>ss.length+1-(intOf i).toNat)
      case atStart=>exact⟨0,Or.inl rfl,rfl,(fun j h1 h2=>by omega:∀ j,1<=j->j<0+1->Ar (nx (Aq ss) (j-1)) (nx (Aq ss) j)=true),HK.o⟩
      case round=>
       clear HK am k0 k1;obtain⟨m,hm,rfl,HA,HK⟩:=hrel;obtain⟨am,k0,k1⟩:=HK.o
       by_cases aj:m+1<ss.length
       ·obtain⟨b,off,rfl,d1,q1⟩:=(RS.o.bl am) m qb;obtain⟨b',bq,e',d2,q2⟩:=(RS.o.bl am) (m+1) aj;simp only[Option.some.injEq,Addr.mk.injEq,and_true] at e';obtain⟨rfl,rfl⟩:=e';rw[<- Du] at d1 d2;clear q1 q2;obtain⟨v,hv⟩:=Ai (Ar (nx (Aq ss) m) (nx (Aq ss) (m+1)));have HV:=hid hv;unfold Ar at hv;generalize nx (Aq ss) m=s at d1 hv;generalize nx (Aq ss) (m+1)=s' at d2 hv;have hltI:(m:Int)+1<(ss.length:Int):=qb;cases v
        ·have HC:Hd (Hn ss ts=3):=chk3 mq.o H2.o (fun h=>by have:=h (m+1) qb (by rw[Bs];exact aj);rw[Nat.add_sub_cancel,HV.o] at this;cases this);exact qla
        ·exact qit
       ·(have H3:Hd (Gf (Aq ss)):=fun j h1 h2=>by rw[Bs] at h2;exact HA.o j h1 qb);clear HA;go_wp2
        go_loopw [8] (fun i wr=>∃ m:Nat,(m=0\/m+1<=ts.length)/\i=I (m+1)/\Hd (∀ j,1<=j->j<m+1->Ar (nx (Ao ts) (j-1)) (nx (Ao ts) j)=true)/\Hd (Kp w (.slice sa ss.length c1) (.slice ta ts.length c2) wr)) (fun i _=>ts.length+1-(intOf i).toNat)
        case atStart=>exact⟨0,Or.inl rfl,rfl,(fun j h1 h2=>by omega:∀ j,1<=j->j<0+1->Ar (nx (Ao ts) (j-1)) (nx (Ao ts) j)=true),HK.o⟩
        case round=>
         clear HK am k0 k1;obtain⟨m,hm,rfl,HA,HK⟩:=hrel;obtain⟨am,k0,k1⟩:=HK.o
         by_cases aj:m+1<ts.length
         ·obtain⟨b,off,rfl,d1,x1,p1,q1,r1⟩:=(RT.o.bl am) m qb;obtain⟨b',bq,e',d2,x2,p2,q2,r2⟩:=(RT.o.bl am) (m+1) aj;simp only[Option.some.injEq,Addr.mk.injEq,and_true] at e';obtain⟨rfl,rfl⟩:=e';rw[<- Dl] at d1 d2;clear q1 r1 q2 r2;obtain⟨v,hv⟩:=Ai (Ar (nx (Ao ts) m) (nx (Ao ts) (m+1)));have HV:=hid hv;unfold Ar at hv;generalize nx (Ao ts) m=s at d1 hv;generalize nx (Ao ts) (m+1)=s' at d2 hv;have hltI:(m:Int)+1<(ts.length:Int):=qb;cases v
          ·have HC:Hd (Hn ss ts=4):=chk4 mq.o H2.o H3.o (fun h=>by have:=h (m+1) qb (by rw[Bn];exact aj);rw[Nat.add_sub_cancel,HV.o] at this;cases this);exact qla
          ·exact qit
         ·(have H4:Hd (Gf (Ao ts)):=fun j h1 h2=>by rw[Bn] at h2;exact HA.o j h1 qb);clear HA;go_wp2
          go_loopw [9] (fun i wr=>∃ k:Nat,k<=ss.length/\i=I k/\Hd (∀ j,j<k->¬ Ec (Ao ts) (sx ss j).name)/\Hd (Kp w (.slice sa ss.length c1) (.slice ta ts.length c2) wr)) (fun i _=>ss.length-(intOf i).toNat)
          case atStart=>exact⟨0,Nat.zero_le _,rfl,(fun j hj=>by omega:∀ j,j<0->¬ Ec (Ao ts) (sx ss j).name),HK.o⟩
          case round=>
           clear HK am k0 k1;obtain⟨k5,jg,rfl,HA,HK⟩:=hrel;obtain⟨am,k0,k1⟩:=HK.o
           by_cases aj:k5<ss.length
           ·obtain⟨b,off,rfl,d1,d2⟩:=(RS.o.bl am) k5 aj;have je:(k5:Int)<(ss.length:Int):=qb;obtain⟨s,es⟩:=Ai ((sx ss k5).name);have ES:=hid es;rw[es] at d1;clear es d2;have ii:Bw wr wr.drew:=(Below.refl _ _).drew;have RTd:=hid ((RT.o.bl am).bl ii);clear ii;go_wp2_with fail
            go_region_held3 (fun w'=>w'.cell? ⟨w.heap.size,0,none⟩=some (.slice (some ⟨b,off,none⟩) ss.length c1)/\w'.cell? ⟨w.heap.size,1,none⟩=some (.slice ta ts.length c2)/\w'.cell? ⟨b,off+k5*2,none⟩=some (.string s))
             (first|assumption|(simp[*];done)|exact⟨Aa af qo,Aa af qo,Aa af qo⟩)
             (first|(go_at_call 47;refine(Ze (some ⟨b,off,none⟩) ta ss.length c1 c2 ts s _ RTd.o l2).mono ?_;rintro e w1 ⟨af,r,rfl,hr⟩))
            all_goals
             have HD:Hd (Kp w (.slice (some ⟨b,off,none⟩) ss.length c1) (.slice ta ts.length c2) w1):=(HK.o.bl (Below.refl _ _).drew).bl af
             rcases hr with ⟨hr,hh⟩|⟨hr,hh⟩
             ·have HC:Hd (Hn ss ts=5):=chk5 mq.o H2.o H3.o H4.o ⟨k5,by rw[Bs];exact aj,by rw[Du,ES.o];exact hh⟩;clear hh;go_wp2;go_ret;exact⟨HD.o.1,qad⟩
             ·have HNo:Hd (¬ Ec (Ao ts) s):=hh;clear hh;go_wp2;go_roundw
              case rel=>exact⟨k5+1,qb,qj,Cp HA.o (by rw[ES.o];exact HNo.o),HD.o⟩
              case measure=>simp[intOf];omega
           ·(have H5:Hd (¬ Od (Aq ss) (Ao ts)):=fun ⟨j,hj,hh⟩=>by rw[Bs] at hj;rw[Du] at hh;exact HA.o j qb hh);clear HA;go_wp2
            go_loopw [10] (fun i wr=>∃ k:Nat,k<=ss.length/\i=I k/\Hd (∀ j,j<k->(sx ss j).text.size<=2000)/\Hd (Kp w (.slice sa ss.length c1) (.slice ta ts.length c2) wr)) (fun i _=>ss.length-(intOf i).toNat)
            case atStart=>exact⟨0,Nat.zero_le _,rfl,(fun j hj=>by omega:∀ j,j<0->(sx ss j).text.size<=2000),HK.o⟩
            case round=>
             clear HK am k0 k1;obtain⟨k6,ir,rfl,HA,HK⟩:=hrel;obtain⟨am,k0,k1⟩:=HK.o
             by_cases aj:k6<ss.length
             ·obtain⟨b,off,rfl,d1,d2⟩:=(RS.o.bl am) k6 aj;have je:(k6:Int)<(ss.length:Int):=qb;have fx:=XS.o k6;obtain⟨s,es⟩:=Ai ((sx ss k6).text);have ES:=hid es;rw[es] at d2 fx;clear es d1
              by_cases Q6:s.size<=2000
              ·go_wp2;go_roundw
               case rel=>exact⟨k6+1,qb,qj,Cp HA.o (by rw[ES.o];exact Q6),HK.o⟩
               case measure=>simp[intOf];omega
              ·have HC:Hd (Hn ss ts=6):=chk6 mq.o H2.o H3.o H4.o H5.o (fun h=>by have:=h k6 aj;rw[ES.o] at this;omega);go_wp2;go_ret;exact⟨am,qad⟩
             ·have H6:Hd (Kc ss):=fun j hj=>HA.o j qb;clear HA;go_wp2
              go_loopw [4,11] (fun x i wr=>∃ k:Nat,∃ v:Int,k<=ts.length/\x=I v/\i=I k/\Hd ((v=0/\∀ j,j<k->Au (tx ts j).code=true)\/(v=7/\∃ j,j<k/\Au (tx ts j).code=false))/\Hd (Kp w (.slice sa ss.length c1) (.slice ta ts.length c2) wr)) (fun _ i _=>ts.length-(intOf i).toNat)
              case atStart=>exact⟨0,0,Nat.zero_le _,rfl,rfl,(Or.inl ⟨rfl,fun j hj=>qb⟩:((0:Int)=0/\∀ j,j<0->Au (tx ts j).code=true)\/((0:Int)=7/\∃ j,j<0/\Au (tx ts j).code=false)),HK.o⟩
              case round=>
               clear HK am k0 k1;obtain⟨k7,v7,hk7,rfl,rfl,HA,HK⟩:=hrel;obtain⟨am,k0,k1⟩:=HK.o
               by_cases aj:k7<ts.length
               ·obtain⟨b,off,rfl,d1,x,p,d2,d3⟩:=(RT.o.bl am) k7 aj;have je:(k7:Int)<(ts.length:Int):=qb;have zj:=L3.o k7 aj;have Y1:=XT.o k7;obtain⟨i,ei⟩:=Ai ((tx ts k7).code);have EI:=hid ei;rw[ei] at d2 d3 zj Y1;clear ei d1;obtain⟨v,hv⟩:=Ai (Au i);have HV:=hid hv;(have HN:Hd (Calls prog 48 #[.agg #[.slice x i.length p]] wr fun e w'=>Bw wr w'/\e=.returned (.bool v)):=by rw[<- hv];exact Ht x p i wr d3 zj Y1);clear hv d3 Y1;cases v
                ·go_wp2_with (go_at_call 48;refine HN.o.mono ?_;rintro e w1 ⟨af,rfl⟩)
                 go_roundw
                 case rel=>exact⟨k7+1,7,qb,rfl,qj,Or.inr ⟨rfl,k7,qb,by rw[EI.o];exact HV.o⟩,HK.o.bl af⟩
                 case measure=>simp[intOf];omega
                ·go_wp2_with (go_at_call 48;refine HN.o.mono ?_;rintro e w1 ⟨af,rfl⟩)
                 go_roundw
                 case rel=>exact⟨k7+1,v7,qb,rfl,qj,acts_step HA.o (by rw[EI.o];exact HV.o),HK.o.bl af⟩
                 case measure=>simp[intOf];omega
               ·have HC:Hd (Hn ss ts=v7):=acts_end mq.o H2.o H3.o H4.o H5.o H6.o qb HA.o;clear HA;go_wp2;go_ret;exact⟨am,qad⟩
theorem cmp_lt:∀(a b:List UInt8),Lib.compareBytes a b<0↔Op.bytesLess a b=true
 | [],[]=>qgn
 | [],_ :: _=>qgn
 | _ :: _,[]=>qgn
 | a :: ar,b :: bs=>by
  have ih:=cmp_lt ar bs
  by_cases h1:a<b
  ·simp[Lib.compareBytes,Op.bytesLess,h1]
  ·by_cases h2:b<a
   ·(have hne:¬ a=b:=by intro e;subst e;exact absurd h2 qg);simp[Lib.compareBytes,Op.bytesLess,h1,h2,hne]
   ·have he:a=b:=UInt8.le_antisymm (UInt8.not_lt.mp h2) (UInt8.not_lt.mp h1);subst he;simp[Lib.compareBytes,Op.bytesLess,ih]
theorem Qce:∀(a b:List UInt8),Lib.compareBytes a b=0↔a=b
 | [],[]=>by simp[Lib.compareBytes]
 | [],_ :: _=>by simp[Lib.compareBytes]
 | _ :: _,[]=>by simp[Lib.compareBytes]
 | a :: ar,b :: bs=>by
  have ih:=Qce ar bs
  by_cases h1:a<b
  ·have hne:¬ a=b:=by intro e;subst e;exact absurd h1 qg
   simp[Lib.compareBytes,h1,hne]
  ·by_cases h2:b<a
   ·(have hne:¬ a=b:=by intro e;subst e;exact absurd h2 qg);simp[Lib.compareBytes,h1,h2,hne]
   ·have he:a=b:=UInt8.le_antisymm (UInt8.not_lt.mp h2) (UInt8.not_lt.mp h1);subst he;simp[Lib.compareBytes,ih]
def Lw (a b:By):Int:=Lib.compareBytes a.data.toList b.data.toList
theorem cmpB_lt {a:By} {v:Bool} (h:Ar a b=v):decide (Lw a b<0)=v:=by
 unfold Ar at h
 rw[ByteArray.toList_eq,ByteArray.toList_eq] at h
 unfold Lw
 cases v
 ·rw[decide_eq_false_iff_not,cmp_lt,h];simp
 ·rw[decide_eq_true_eq,cmp_lt];exact h
theorem Nj (a b:By):Lw a b=0↔a=b:=by
 unfold Lw
 rw[Qce]
 exact⟨fun h=>WideShapes.bytes_inj h,fun h=>by rw[h]⟩
structure At (l:List By) (t:By) (r:Nat) (b:Bool):Prop where
 le:r<=l.length
 lo:∀ j,j<r->Ar (nx l j) t=true
 hi:∀ j,r<=j->j<l.length->Ar (nx l j) t=false
 has:b=true↔Ec l t
theorem Wf (s u t:By) (w:World) :
  Calls prog 179 #[.agg #[.string s,.string u],.string t] w fun e w'=>Bw w w'/\e=.returned (I (Lw s t)):=by
 go_enter func179,ntmps179
 exact qjy
theorem Qe (a:Option Addr) (cap:Nat) (ss:List S2) (t:By) (w:World) (hc:Jv w a ss) (hl:ss.length<=1048576) (ew:Gf (Aq ss)) :
  Calls prog 178 #[.slice a ss.length cap,.string t,.func (.func 179) #[] #[]] w fun e w'=>Bw w w'/\∃(r:Nat) (b:Bool),e=.returned (.tuple #[I r,.bool b])/\At (Aq ss) t r b:=by
 have zr:=hid (Bs ss)
 have ph:=hid (Du ss)
 obtain⟨l,el⟩:=Ai (Aq ss)
 rw[el] at ew zr ph ⊢
 have jk:=hid ew
 have HC:=hid hc
 clear ew el hc
 go_enter func178,ntmps178
 go_wp2
 go_loopw [9,10] (fun i j wr=>∃ lo hi:Nat,i=I lo/\j=I hi/\lo<=hi/\hi<=ss.length/\Hd (∀ j,j<lo->Ar (nx l j) t=true)/\Hd (∀ j,hi<=j->j<l.length->Ar (nx l j) t=false)/\Bw w wr) (fun i j _=>(intOf j).toNat-(intOf i).toNat)
 case atStart=>exact⟨0,ss.length,rfl,rfl,Nat.zero_le _,Nat.le_refl _,(fun j hj=>by omega:∀ j,j<0->Ar (nx l j) t=true),(fun j h1 h2=>by have:=zr.o;omega:∀ j,ss.length<=j->j<l.length->Ar (nx l j) t=false),Below.refl _ _⟩
 case round=>
  obtain⟨lo,hi,rfl,rfl,g1,g2,HL,HH,bc⟩:=hrel
  by_cases aj:lo<hi
  ·obtain⟨m,e1,vr,sw⟩:∃ m:Nat,((lo:Int)+(hi:Int)) / 2=(m:Int)/\lo<=m/\m<hi:=⟨(lo+hi) / 2,qb,qb,qb⟩;obtain⟨b,off,rfl,c1,c2⟩:=(HC.o.bl bc) m qb;obtain⟨v,hv⟩:=Ai (Ar (nx l m) t);have HV:=hid hv;have dv:decide (Lw (sx ss m).name t<0)=v:=by rw[<- ph.o m];exact cmpB_lt hv
   clear hv;generalize sx ss m=s at c1 c2 dv;obtain⟨q,eq⟩:=Ai (Lw s.name t);rw[eq] at dv;have HN:Hd (∀ W:World,Calls prog 179 #[.agg #[.string s.name,.string s.text],.string t] W fun e w'=>Bw W w'/\e=.returned (I q)):=fun W=>qgi;clear eq;exact qhr
  ·obtain rfl:lo=hi:=qb;have hle:lo<=l.length:=zo zr.o
   by_cases wv:lo<ss.length
   ·obtain⟨b,off,rfl,c1,c2⟩:=(HC.o.bl bc) lo wv;have hlI:(lo:Int)<(ss.length:Int):=qb;have HE0:=hid (ph.o lo)
    by_cases he:(sx ss lo).name=t
    ·have HE:Hd (Ec l t):=⟨lo,by have:=zr.o;omega,by rw[HE0.o];exact he⟩;(have dz:(Lw (sx ss lo).name t == 0)=true:=by rw[beq_iff_eq,Nj];exact he);clear he HE0;generalize sx ss lo=s at c1 c2 dz;obtain⟨q,eq⟩:=Ai (Lw s.name t);rw[eq] at dz;have HN:Hd (∀ W:World,Calls prog 179 #[.agg #[.string s.name,.string s.text],.string t] W fun e w'=>Bw W w'/\e=.returned (I q)):=fun W=>qgi;clear eq;exact qjs
    ·have HE:Hd (¬ Ec l t):=fun h=>he (by rw[<- HE0.o];exact(Mp jk.o HL.o HH.o h).2);(have dz:(Lw (sx ss lo).name t == 0)=false:=by rw[beq_eq_false_iff_ne];exact fun h=>he ((Nj _ _).mp h));clear he HE0;generalize sx ss lo=s at c1 c2 dz;obtain⟨q,eq⟩:=Ai (Lw s.name t);rw[eq] at dz;have HN:Hd (∀ W:World,Calls prog 179 #[.agg #[.string s.name,.string s.text],.string t] W fun e w'=>Bw W w'/\e=.returned (I q)):=fun W=>qgi;clear eq;exact qjt
   ·exact qim
theorem Mt (sa ta:Option Addr) (n1 n2 c1 c2:Nat) (ss:List S2) (t:By) (w:World) (hc:Jv w sa ss) (hl:ss.length<=1048576) (ew:Gf (Aq ss)) (hn:n1=ss.length) :
  Calls prog 167 #[.agg #[.slice sa n1 c1,.slice ta n2 c2],.string t] w fun e w'=>Bw w w'/\∃(r:Nat) (b:Bool),e=.returned (.tuple #[I r,.bool b])/\At (Aq ss) t r b:=by
 subst hn
 have ak:Bw w (w.alloc (.cells #[.slice sa ss.length c1,.slice ta n2 c2] 42)):=aN _ _
 go_enter func167,ntmps167
 go_wp2_with fail
 refine(Qe sa c1 ss t _ (hc.bl ak) hl ew).mono ?_
 rintro e w2 ⟨ag,r,b,rfl,hr⟩
 have HR:=hid hr
 exact qmy
theorem We (s t:By) (u:Option Addr) (un uc:Nat) (w:World) :
  Calls prog 182 #[.agg #[.string s,.slice u un uc],.string t] w fun e w'=>Bw w w'/\e=.returned (I (Lw s t)):=by
 go_enter func182,ntmps182
 exact qjy
theorem Qd (a:Option Addr) (cap:Nat) (ss:List T2) (t:By) (w:World) (hc:Ju w a ss) (hl:ss.length<=1048576) (ew:Gf (Ao ss)) :
  Calls prog 181 #[.slice a ss.length cap,.string t,.func (.func 182) #[] #[]] w fun e w'=>Bw w w'/\∃(r:Nat) (b:Bool),e=.returned (.tuple #[I r,.bool b])/\At (Ao ss) t r b:=by
 have zr:=hid (Bn ss)
 have ph:=hid (Dl ss)
 obtain⟨l,el⟩:=Ai (Ao ss)
 rw[el] at ew zr ph ⊢
 have jk:=hid ew
 have HC:=hid hc
 clear ew el hc
 go_enter func181,ntmps181
 go_wp2
 go_loopw [9,10] (fun i j wr=>∃ lo hi:Nat,i=I lo/\j=I hi/\lo<=hi/\hi<=ss.length/\Hd (∀ j,j<lo->Ar (nx l j) t=true)/\Hd (∀ j,hi<=j->j<l.length->Ar (nx l j) t=false)/\Bw w wr) (fun i j _=>(intOf j).toNat-(intOf i).toNat)
 case atStart=>exact⟨0,ss.length,rfl,rfl,Nat.zero_le _,Nat.le_refl _,(fun j hj=>by omega:∀ j,j<0->Ar (nx l j) t=true),(fun j h1 h2=>by have:=zr.o;omega:∀ j,ss.length<=j->j<l.length->Ar (nx l j) t=false),Below.refl _ _⟩
 case round=>
  obtain⟨lo,hi,rfl,rfl,g1,g2,HL,HH,bc⟩:=hrel
  by_cases aj:lo<hi
  ·obtain⟨m,e1,vr,sw⟩:∃ m:Nat,((lo:Int)+(hi:Int)) / 2=(m:Int)/\lo<=m/\m<hi:=⟨(lo+hi) / 2,qb,qb,qb⟩;obtain⟨b,off,rfl,c1,y,p,c2,c3⟩:=(HC.o.bl bc) m qb;obtain⟨v,hv⟩:=Ai (Ar (nx l m) t);have HV:=hid hv;have dv:decide (Lw (tx ss m).name t<0)=v:=by rw[<- ph.o m];exact cmpB_lt hv
   clear hv;generalize tx ss m=s at c1 c2 c3 dv;obtain⟨q,eq⟩:=Ai (Lw s.name t);rw[eq] at dv;have HN:Hd (∀ W:World,Calls prog 182 #[.agg #[.string s.name,.slice y s.code.length p],.string t] W fun e w'=>Bw W w'/\e=.returned (I q)):=fun W=>qga;clear eq c3;exact qhr
  ·obtain rfl:lo=hi:=qb;have hle:lo<=l.length:=zo zr.o
   by_cases wv:lo<ss.length
   ·obtain⟨b,off,rfl,c1,y,p,c2,c3⟩:=(HC.o.bl bc) lo wv;have hlI:(lo:Int)<(ss.length:Int):=qb;have HE0:=hid (ph.o lo)
    by_cases he:(tx ss lo).name=t
    ·have HE:Hd (Ec l t):=⟨lo,by have:=zr.o;omega,by rw[HE0.o];exact he⟩;(have dz:(Lw (tx ss lo).name t == 0)=true:=by rw[beq_iff_eq,Nj];exact he);clear he HE0;generalize tx ss lo=s at c1 c2 c3 dz;obtain⟨q,eq⟩:=Ai (Lw s.name t);rw[eq] at dz;have HN:Hd (∀ W:World,Calls prog 182 #[.agg #[.string s.name,.slice y s.code.length p],.string t] W fun e w'=>Bw W w'/\e=.returned (I q)):=fun W=>qga;clear eq c3;exact qjs
    ·have HE:Hd (¬ Ec l t):=fun h=>he (by rw[<- HE0.o];exact(Mp jk.o HL.o HH.o h).2);(have dz:(Lw (tx ss lo).name t == 0)=false:=by rw[beq_eq_false_iff_ne];exact fun h=>he ((Nj _ _).mp h));clear he HE0;generalize tx ss lo=s at c1 c2 c3 dz;obtain⟨q,eq⟩:=Ai (Lw s.name t);rw[eq] at dz;have HN:Hd (∀ W:World,Calls prog 182 #[.agg #[.string s.name,.slice y s.code.length p],.string t] W fun e w'=>Bw W w'/\e=.returned (I q)):=fun W=>qga;clear eq c3;exact qjt
   ·exact qim
theorem Mr (sa ta:Option Addr) (n1 n2 c1 c2:Nat) (ss:List T2) (t:By) (w:World) (hc:Ju w ta ss) (hl:ss.length<=1048576) (ew:Gf (Ao ss)) (hn:n2=ss.length) :
  Calls prog 168 #[.agg #[.slice sa n1 c1,.slice ta n2 c2],.string t] w fun e w'=>Bw w w'/\∃(r:Nat) (b:Bool),e=.returned (.tuple #[I r,.bool b])/\At (Ao ss) t r b:=by
 subst hn
 have ak:Bw w (w.alloc (.cells #[.slice sa n1 c1,.slice ta ss.length c2] 42)):=aN _ _
 go_enter func168,ntmps168
 go_wp2_with fail
 refine(Qd ta c2 ss t _ (hc.bl ak) hl ew).mono ?_
 rintro e w2 ⟨ag,r,b,rfl,hr⟩
 have HR:=hid hr
 exact qmy
theorem Qbl (sa ta:Option Addr) (c1 c2:Nat) (ss:List S2) (ts:List T2) (t:By) (w:World) (rs:Jv w sa ss) (rt:Ju w ta ts) (h1:ss.length<=1048576) (h2:ts.length<=1048576) (a1:Gf (Aq ss)) (a2:Gf (Ao ts)) :
  Calls prog 163 #[.agg #[.slice sa ss.length c1,.slice ta ts.length c2],.string t] w fun e w'=>Bw w w'/\∃ b:Bool,e=.returned (.bool b)/\(b=true↔(Ec (Aq ss) t\/Ec (Ao ts) t)):=by
 have ak:Bw w (w.alloc (.cells #[.slice sa ss.length c1,.slice ta ts.length c2] 42)):=aN _ _
 have k0:(w.alloc (.cells #[.slice sa ss.length c1,.slice ta ts.length c2] 42)).cell? ⟨w.heap.size,0,none⟩=some (.slice sa ss.length c1):=qk
 have k1:(w.alloc (.cells #[.slice sa ss.length c1,.slice ta ts.length c2] 42)).cell? ⟨w.heap.size,1,none⟩=some (.slice ta ts.length c2):=qk
 have HT:Hd (∀ W:World,Bw w W->Calls prog 168 #[.agg #[.slice sa ss.length c1,.slice ta ts.length c2],.string t] W fun e w'=>Bw W w'/\∃(r:Nat) (b:Bool),e=.returned (.tuple #[I r,.bool b])/\At (Ao ts) t r b):=fun W hW=>Mr sa ta ss.length ts.length c1 c2 ts t W (rt.bl hW) h2 a2 rfl
 clear rt a2
 go_enter func163,ntmps163
 go_wp2_with fail
 refine(Mt sa ta ss.length ts.length c1 c2 ss t _ (rs.bl ak) h1 a1 rfl).mono ?_
 rintro e w1 ⟨af,r1,b1,rfl,q1⟩
 have bg:=bt ak af
 have x0:=Aa af k0
 have x1:=Aa af k1
 have lz:=hid q1.has
 clear ak af k0 k1 q1 rs a1
 go_wp2_with fail
 refine(HT.o w1 bg).mono ?_
 rintro e w2 ⟨ag,r2,b2,rfl,q2⟩
 have be:=bt bg ag
 have F9:=hid q2.has
 clear ag q2 HT x0 x1 bg
 have HZ:Hd ((b1 || b2)=true↔(Ec (Aq ss) t\/Ec (Ao ts) t)):=by
  show (b1 || b2)=true↔_;rw[Bool.or_eq_true,lz.o,F9.o]
 clear lz F9
 cases b1
 ·go_wp2;go_ret;exact⟨be,b2,rfl,by simpa using HZ.o⟩
 ·go_wp2;go_ret;exact⟨be,true,rfl,by simpa using HZ.o⟩
end Go.Proofs.YtfgoholldpeabaaGreatDoor
