import Derived.Test.YtoihflimijabjaaGreatDoorBvF
import Derived.Test.YtoihflimijabjaaGreatDoorTForm
import Derived.Test.YtoihflimijabjaaGreatDoorTValidP
namespace Go.Proofs.YtoihflimijabjaaGreatDoor
open _root_.Go.Proofs.Tryz Go.RowKit
open Option renaming some->M,none->N
open Value renaming string->S
open Go renaming World->E
open _root_ renaming List->L,Nat->X
set_option linter.unusedVariables false
set_option maxHeartbeats 8000000
set_option maxRecDepth 100000
set_option linter.unusedSimpArgs false
variable {a:Option Addr} {ss:L S2} {l:L By} {P:Prop} {ts:L T2}
def Cs(w:E)(a:Option Addr)(ss:L By):Prop:=
 ∀i,i<ss.length->∃b off,a=M ⟨b,off,N⟩/\w.cell? ⟨b,off+i,N⟩=M (S (ss.getD i ByteArray.empty))
theorem Cs.bl{w w':E}{ss:L By}(h:Cs w a ss)(hb:Bw w w'):Cs w' a ss:=by
 intro i hi
 obtain⟨b,off,ha,hc⟩:=h i hi
 exact⟨b,off,ha,(hb.cell (p:=⟨b,off+i,N⟩) (World.block_lt_of_cell? w _ hc)).trans hc⟩
def Ip(is:L S2)(k:X)(xs:L Value):Prop:=
 ∀i,i<k->xs[i*2]?=M (S (sx is i).name)/\xs[i*2+1]?=M (S (sx is i).text)
theorem rowS_own{w:E}{B g n cap:X}{is:L S2}{xs:L Value}(hn:n=is.length)(h:w.ownsRow B 110 2 (.slice (p_ g) n cap) n xs)(hf:Ip is n xs):Hz w (p_ g) is:=by
 subst hn
 intro i hi
 obtain⟨h1,h2⟩:=hf i hi
 refine⟨g,0,rfl,?_,?_⟩
 ·rw[Nat.zero_add,h.cellAt _ qg];exact h1
 ·rw[Nat.zero_add,h.cellAt _ qg];exact h2
def Aw(a b:By):Bool:=Op.bytesLess a.toList b.toList
theorem Jj{a b c:By}(h:Aw a b=true)(k:Aw b c=true):Aw a c=true:=by
 unfold Aw at *
 rw[bytesLess_eq]at *
 simp only[decide_eq_true_eq]at *
 exact List.lt_trans h k
theorem Em(a:By):Aw a a=false:=by
 unfold Aw
 rw[bytesLess_eq]
 simp only[decide_eq_false_iff_not]
 exact List.lt_irrefl _
def nx(l:L By)(i:X):By:=l.getD i ByteArray.empty
def Fg(l:L By):Prop:=∀i,1<=i->i<l.length->Aw (nx l (i-1)) (nx l i)=true
theorem Fg.lt{l:L By}(h:Fg l):∀(d i:X),i+d+1<l.length->Aw (nx l i) (nx l (i+d+1))=true
 | 0,i,hi=>by have:=h (i+0+1) qg hi;simpa using this
 | d+1,i,hi=>by
  have h1:=Fg.lt h d i qg;have h2:=h (i+(d+1)+1) qg hi;exact Jj h1 (by have:=h2;rw[Nat.add_sub_cancel]at this;exact this)
theorem Fg.pair(h:Fg l){i j:X}(l7:i<j)(hj:j<l.length):Aw (nx l i) (nx l j)=true:=by
 have:=h.lt (j-i-1) i qg
 rwa [show i+(j-i-1)+1=j from qg]at this
theorem Fh(h:¬ P):(false=true↔P):=⟨λk=>absurd k qh,λk=>absurd k h⟩
theorem Lx(h:P):(true=true↔P):=⟨λ_=>h,λ_=>rfl⟩
theorem Lq{m:X}(h:∀j,1<=j->j<m+1->Aw (nx l (j-1)) (nx l j)=true)(hk:Aw (nx l m) (nx l (m+1))=true):∀j,1<=j->j<m+1+1->Aw (nx l (j-1)) (nx l j)=true:=by
 intro j h1 h2
 rcases Nat.lt_or_ge j (m+1)with h3|h3
 ·exact h j h1 h3
 ·obtain rfl:j=m+1:=qg;simpa using hk
def Ib(l:L By):Prop:=∀i,i<l.length->Fo (nx l i)=true
def Hs(l:L By)(n:By):Prop:=∃j,j<l.length/\nx l j=n
def Qb(l m:L By):Prop:=∃i,i<l.length/\Hs m (nx l i)
def Av(ss:L S2):L By:=ss.map (·.name)
def Au(ts:L T2):L By:=ts.map (·.name)
theorem Bo(ss:L S2):(Av ss).length=ss.length:=by simp[Av]
theorem Cb(ts:L T2):(Au ts).length=ts.length:=by simp[Au]
theorem Dk(ss:L S2)(i:X):nx (Av ss) i=(sx ss i).name:=by
 unfold nx Av sx
 rw[gG,gG,List.getElem?_map]
 cases ss[i]?<;>rfl
theorem Dy(ts:L T2)(i:X):nx (Au ts) i=(tx ts i).name:=by
 unfold nx Au tx
 rw[gG,gG,List.getElem?_map]
 cases ts[i]?<;>rfl
def Kr(ss:L S2):Prop:=∀i,i<ss.length->(sx ss i).text.size<=2000
def Sq(ts:L T2):Prop:=∀i,i<ts.length->Aq (tx ts i).code=true
open Classical in
noncomputable def Gp (ss:L S2) (ts:L T2):Int:=
 if 200<ss.length+ts.length then 1 else if ¬ (Ib (Av ss)/\Ib (Au ts)) then 2 else if ¬ Fg (Av ss) then 3 else if ¬ Fg (Au ts) then 4
 else if Qb (Av ss) (Au ts) then 5 else if ¬ Kr ss then 6 else if ¬ Sq ts then 7 else 0
theorem chk1(h:200<ss.length+ts.length):Gp ss ts=1:=by simp[Gp,h]
theorem chk2(h:¬ 200<ss.length+ts.length)(h2:¬ (Ib (Av ss)/\Ib (Au ts))):Gp ss ts=2:=by unfold Gp;rw[if_neg h,if_pos h2]
theorem chk3(h:¬ 200<ss.length+ts.length)(h2:Ib (Av ss)/\Ib (Au ts))(h3:¬ Fg (Av ss)):Gp ss ts=3:=by unfold Gp;rw[if_neg h,if_neg (λk=>k h2),if_pos h3]
theorem chk4(h:¬ 200<ss.length+ts.length)(h2:Ib (Av ss)/\Ib (Au ts))(h3:Fg (Av ss))(h4:¬ Fg (Au ts)):Gp ss ts=4:=by unfold Gp;rw[if_neg h,if_neg (λk=>k h2),if_neg (λk=>k h3),if_pos h4]
theorem chk5(h:¬ 200<ss.length+ts.length)(h2:Ib (Av ss)/\Ib (Au ts))(h3:Fg (Av ss))(h4:Fg (Au ts))(h5:Qb (Av ss) (Au ts)):Gp ss ts=5:=by unfold Gp;rw[if_neg h,if_neg (λk=>k h2),if_neg (λk=>k h3),if_neg (λk=>k h4),if_pos h5]
theorem chk6(h:¬ 200<ss.length+ts.length)(h2:Ib (Av ss)/\Ib (Au ts))(h3:Fg (Av ss))(h4:Fg (Au ts))(h5:¬ Qb (Av ss) (Au ts))(h6:¬ Kr ss):Gp ss ts=6:=by unfold Gp;rw[if_neg h,if_neg (λk=>k h2),if_neg (λk=>k h3),if_neg (λk=>k h4),if_neg h5,if_pos h6]
theorem chk7(h:¬ 200<ss.length+ts.length)(h2:Ib (Av ss)/\Ib (Au ts))(h3:Fg (Av ss))(h4:Fg (Au ts))(h5:¬ Qb (Av ss) (Au ts))(h6:Kr ss)(h7:¬ Sq ts):Gp ss ts=7:=by unfold Gp;rw[if_neg h,if_neg (λk=>k h2),if_neg (λk=>k h3),if_neg (λk=>k h4),if_neg h5,if_neg (λk=>k h6),if_pos h7]
theorem chk0(h:¬ 200<ss.length+ts.length)(h2:Ib (Av ss)/\Ib (Au ts))(h3:Fg (Av ss))(h4:Fg (Au ts))(h5:¬ Qb (Av ss) (Au ts))(h6:Kr ss)(h7:Sq ts):Gp ss ts=0:=by unfold Gp;rw[if_neg h,if_neg (λk=>k h2),if_neg (λk=>k h3),if_neg (λk=>k h4),if_neg h5,if_neg (λk=>k h6),if_neg (λk=>k h7)]
theorem Te(a:Option Addr)(cap:X)(l:L By)(w:E)(hc:Cs w a l)(hl:l.length<=1048576):Calls prog 46 #[.slice a l.length cap] w λe w'=>Bw w w'/\∃b:Bool,e=.returned (.bool b)/\(b=true↔Fg l):=by
 go_enter func46,ntmps46
 go_wp2
 go_loopw [3] (λi wr=>∃m:X,(m=0\/m+1<=l.length)/\i=I (m+1)/\Hd (∀j,1<=j->j<m+1->Aw (nx l (j-1)) (nx l j)=true)/\Bw w wr) (λi _=>l.length+1-(intOf i).toNat)
 case atStart=>exact⟨0,Or.inl rfl,rfl,(λj h1 h2=>by omega:∀j,1<=j->j<0+1->Aw (nx l (j-1)) (nx l j)=true),Below.refl _ _⟩
 case round=>
  obtain⟨m,hm,rfl,HA,dj⟩:=hrel
  by_cases au:m+1<l.length
  ·obtain⟨b,off,rfl,c1⟩:=(hc.bl dj) m qg;obtain⟨b',bq,e',c2⟩:=(hc.bl dj) (m+1) au;simp only[Option.some.injEq,Addr.mk.injEq,and_true]at e';obtain⟨rfl,rfl⟩:=e';replace c1:wr.cell? ⟨b,off+m,N⟩=M (S (nx l m)):=c1;replace c2:wr.cell? ⟨b,off+(m+1),N⟩=M (S (nx l (m+1))):=c2;obtain⟨v,hv⟩:=Aj (Aw (nx l m) (nx l (m+1)));have HV:Hd (Aw (nx l m) (nx l (m+1))=v):=hv;unfold Aw at hv;clear hc;generalize nx l m=s at c1 hv;generalize nx l (m+1)=s' at c2 hv;have um:(m:Int)+1<(l.length:Int):=qg;cases v
   ·go_wp2;go_region
    all_goals
     go_wp2;go_ret;exact⟨by repeat (first|exact dj|apply Below.drew),false,rfl,Fh (λh=>by have:=h (m+1) qg au;rw[Nat.add_sub_cancel,HV.o]at this;cases this)⟩
   ·go_wp2;go_region
    all_goals
     go_wp2;go_roundw
     case rel=>exact⟨m+1,qg,qp,Lq HA.o HV.o,by repeat (first|exact dj|apply Below.drew)⟩
     case measure=>simp[intOf];omega
  ·go_wp2;go_ret;exact⟨dj,true,rfl,Lx (λj h1 h2=>HA.o j h1 qg)⟩
theorem Cs.nx{w:E}{ss:L By}(h:Cs w a ss)(i:X)(hi:i<ss.length):∃b off,a=M ⟨b,off,N⟩/\w.cell? ⟨b,off+i,N⟩=M (S (nx ss i)):=h i hi
end Go.Proofs.YtoihflimijabjaaGreatDoor
