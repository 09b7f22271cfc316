import Derived.Test.YtoakjccojifagaaGreatDoorBtF
import Derived.Test.YtoakjccojifagaaGreatDoorBuY
import Derived.Test.YtoakjccojifagaaGreatDoorBvF
namespace Go.Proofs.YtoakjccojifagaaGreatDoor
open Value renaming slice->J,string->S,bool->F,agg->G
open Option renaming some->M,none->N
open Obj renaming cells->O
open Go renaming Value->Z,World->E
open Ending renaming returned->H
open _root_ renaming List->L,Nat->X
set_option maxHeartbeats 8000000
set_option maxRecDepth 100000
open _root_.Go.Proofs.Tryz Go.RowKit Go.Deep
set_option linter.unusedVariables false
set_option linter.unusedSimpArgs false
variable {w w' w2:E} {B g n cap j T lo hi b m lo' hi':X} {ys xs zs:L Z} {v v1 v2:Z} {rs is:L T3} {cv lv:X→Z} {cl gl:X→X}
def Keep9(v:Z)(w w':E):Prop:=∀(b:X)(cs:Array Z),w.heap[b]?=M (O cs 9 (0,0))→v.ownBlock≠M b→w'.heap[b]?=M (O cs 9 (0,0))
def Oe(K n:X)(ys:L Z):Prop:=∀i,i<n→ys[i]?=M (S (mt (K+i)))
theorem Ol(a:Option Addr)(cap:X)(ss:L By)(w:E)(hc:Ca w a ss)(hl:ss.length≤maxLen)(hs:∀s∈ss,s.size≤maxLen)(AL:Int)(hL0:0≤AL)(hL:AL≤1048576):Calls prog 6 #[J a ss.length cap,I AL] w λe w'=>w=w'∧∃r:Int,e=H (I r)∧(r<0∨((ss.length+Mr ss:Int)≤AL∧0≤r∧r≤AL)):=by
 have J7:=getD_le hs;unfold maxLen at hl J7
 by_cases h0:(ss.length:Int)≤AL
 ·go_enter func6,ntmps6
  go_wp2
  go_loop [1,5] (λl i=>∃k:X,k≤ss.length∧i=I k∧l=I (AL-ss.length-Mr (ss.take k))∧(ss.length+Mr (ss.take k):Int)≤AL) (λ_ i=>ss.length-(intOf i).toNat)
  case atStart=>exact⟨0,Nat.zero_le _,rfl,by simp[Mr],by simpa [Mr] using h0⟩
  case round=>
   obtain⟨k,hk,rfl,rfl,ht⟩:=hrel
   by_cases aj:k<ss.length
   ·obtain⟨b,off,rfl,B5⟩:=hc k aj
    have S9:=Sj ss k aj;have gh:=J7 k;clear J7;generalize ss.getD k ByteArray.empty=s at *;have HT:Hd (Mr (ss.take (k+1))=Mr (ss.take k)+s.size):=S9;clear S9
    by_cases hneg:AL-ss.length-Mr (ss.take k)-s.size<0
    ·go_wp2
     go_ret;exact⟨rfl,-1,rfl,qb⟩
    ·go_wp2
     go_round
     case rel=>exact⟨k+1,qb,qj,by rw[HT.o];go_num,by rw[HT.o];omega⟩
     case measure=>simp[intOf];omega
   ·go_wp2
    go_ret;rw[List.take_of_length_le (show ss.length≤k from qb)]at ht ⊢;exact⟨rfl,_,rfl,qb⟩
 ·go_enter func6,ntmps6
  go_wp2;go_ret;exact⟨rfl,-1,rfl,qb⟩

theorem Fs(a a':Option Addr)(cap ai:X)(ss:L By)(w:E)(hc:Ca w a ss)(o6:Ca w a' ss)(hl:ss.length≤1048576):Calls prog 15 #[J a ss.length cap,J a' ss.length ai] w λe w'=>Bw w w'∧e=H (F true):=by
 go_enter func15,ntmps15;go_wp2
 go_loopw [5] (λi wr=>∃k:X,k≤ss.length∧i=I k∧Bw w wr) (λi _=>ss.length-(intOf i).toNat)
 case atStart=>exact⟨0,Nat.zero_le _,rfl,Below.refl _ _⟩
 case round=>
  obtain⟨k,hk,rfl,am⟩:=hrel
  by_cases aj:k<ss.length
  ·obtain⟨b,off,rfl,B5⟩:=(hc.bl am) k aj
   obtain⟨b',br,rfl,hck'⟩:=(o6.bl am) k aj;generalize ss.getD k ByteArray.empty=s at *;clear hc o6;go_wp2;go_region
   all_goals
    go_wp2;go_roundw
    case rel=>exact⟨k+1,qb,qj,by repeat (first|exact am|apply Below.drew)⟩
    case measure=>simp[intOf];omega
  ·exact qbp

theorem Yo(i:G3)(l:Int)(w:E)(h0:0≤l)(h1:l≤1048576)(hs:i.name.size≤maxLen)(ht:i.sum.size≤maxLen):Calls prog 92 #[G #[S i.name,F i.ask,S i.sum],I l] w λe w'=>Bw w w'∧∃r:Int,e=H (I r)∧(r<0∨(0≤r∧r≤l∧i.sum.size≤1048576)):=by
 unfold maxLen at hs ht
 by_cases h:l-i.name.size<0
 ·exact qfm
 ·by_cases h2:l-i.name.size-i.sum.size<0
  ·exact qfm
  ·exact qfm

theorem Wb(a:Option Addr)(cap:X)(is:L G3)(lft:Int)(w:E)(hf0:0≤lft)(E7:lft≤1048576)(hc:Gk w a is)(hl:is.length≤maxLen)(hs:∀i,(gx is i).name.size≤maxLen)(ht:∀i,(gx is i).sum.size≤maxLen):Calls prog 66 #[J a is.length cap,I lft] w λe w'=>Bw w w'∧∃r:Int,e=H (I r)∧(r<0∨((is.length:Int)≤lft∧0≤r∧r≤lft∧∀i,i<is.length→(gx is i).sum.size≤1048576)):=by
 have K9:=hl;unfold maxLen at K9
 by_cases h0:(is.length:Int)≤lft
 ·go_enter func66,ntmps66
  go_wp2
  go_loopw [1,5] (λl i wr=>∃k:X,∃q:Int,k≤is.length∧i=I k∧l=I q∧0≤q∧q≤lft∧Bw w wr∧Hd (∀i,i<k→(gx is i).sum.size≤1048576)) (λ_ i _=>is.length-(intOf i).toNat)
  case atStart=>exact⟨0,_,Nat.zero_le _,rfl,rfl,qb,qb,Below.refl _ _,(λi hi=>by omega:∀i,i<0→(gx is i).sum.size≤1048576)⟩
  case round=>
   obtain⟨k,q,hk,rfl,rfl,hq0,l7,bc,HK⟩:=hrel
   by_cases aj:k<is.length
   ·obtain⟨b,off,rfl,c1,c2,c3⟩:=(hc.bl bc) k aj
    have gh:=hs k;have fl:=ht k;clear hs ht hc;obtain⟨i,ei⟩:=Aj (gx is k);rw[ei]at c1 c2 c3 gh fl;have EI:Hd (gx is k=i):=ei;clear ei;go_wp2_with fail;refine(Yo i _ _ qb qb gh fl).mono ?_;exact qil
   ·go_wp2
    go_ret;exact⟨bc,_,rfl,Or.inr ⟨qb,qb,qb,λi hi=>HK.o i qb⟩⟩
 ·go_enter func66,ntmps66
  exact qfy

theorem Yi(i:G3)(w:E):Calls prog 100 #[G #[S i.name,F i.ask,S i.sum]] w λe w'=>Bw w w'∧e=H (G #[S i.name,F i.ask,S i.sum]):=by
 go_enter func100,ntmps100;go_wp2;exact bR (v:=G #[S i.name,F i.ask,S i.sum]) (by simp[results,results100,go_sem]) rfl ⟨((aN _ _).alloc qg _).alloc qh _,rfl⟩

theorem Wr(i:G3)(w:E):Calls prog 115 #[G #[S i.name,F i.ask,S i.sum],G #[S i.name,F i.ask,S i.sum]] w λe w'=>Bw w w'∧e=H (F true):=by
 go_enter func115,ntmps115;exact qft

theorem Vc(a a':Option Addr)(cap ai:X)(is:L G3)(w:E)(hc:Gk w a is)(o6:Gk w a' is)(hl:is.length≤1048576):Calls prog 88 #[J a is.length cap,J a' is.length ai] w λe w'=>Bw w w'∧e=H (F true):=by
 go_enter func88,ntmps88;go_wp2
 go_loopw [5] (λi wr=>∃k:X,k≤is.length∧i=I k∧Bw w wr) (λi _=>is.length-(intOf i).toNat)
 case atStart=>exact⟨0,Nat.zero_le _,rfl,Below.refl _ _⟩
 case round=>
  obtain⟨k,hk,rfl,am⟩:=hrel
  by_cases aj:k<is.length
  ·obtain⟨b,off,rfl,c1,c2,c3⟩:=(hc.bl am) k aj
   obtain⟨b',br,rfl,d1,d2,d3⟩:=(o6.bl am) k aj;generalize gx is k=i at *;clear hc o6;have iy:(k:Int)<(is.length:Int):=qb;have jr:(0:Int)≤(k:Int):=qb;go_wp2_with fail
   go_region_held3 (λw'=>(w'.cell? ⟨b,off+k*3,N⟩=M (S i.name)∧w'.cell? ⟨b,off+k*3+1,N⟩=M (F i.ask)∧w'.cell? ⟨b,off+k*3+2,N⟩=M (S i.sum))∧(w'.cell? ⟨b',br+k*3,N⟩=M (S i.name)∧w'.cell? ⟨b',br+k*3+1,N⟩=M (F i.ask)∧w'.cell? ⟨b',br+k*3+2,N⟩=M (S i.sum)))
    (first|assumption|(simp[*];done)|exact⟨⟨Aa af qq,Aa af qq,Aa af qq⟩,Aa af qq,Aa af qq,Aa af qq⟩)
    (first|(go_at_call 115;refine(Wr i _).mono ?_;rintro e w1 ⟨af,rfl⟩))
   all_goals
    go_wp2;go_roundw
    case rel=>exact⟨k+1,qb,qj,am.trans (Below.trans (Below.drew (Below.refl _ _)) (af.mono qcy))⟩
    case measure=>simp[intOf];omega
  ·exact qbp

theorem Wq(a a' la Of:Option Addr)(cap ai lc X5:X)(is:L I3)(gs:L G3)(out:By)(w:E)(rc:Ch w a is)(rc':Ch w a' is)(rg:Gk w la gs)(rg':Gk w Of gs)(h1:is.length≤1048576)(h2:gs.length≤1048576):Calls prog 59 #[G #[J a is.length cap,J la gs.length lc,S out],G #[J a' is.length ai,J Of gs.length X5,S out]] w λe w'=>Bw w w'∧e=H (F true):=by
 have ak:Bw w ((w.alloc (O #[J a is.length cap,J la gs.length lc,S out] 95)).alloc (O #[J a' is.length ai,J Of gs.length X5,S out] 95)):=(aN _ _).alloc qg _;have k1:((w.alloc (O #[J a is.length cap,J la gs.length lc,S out] 95)).alloc (O #[J a' is.length ai,J Of gs.length X5,S out] 95)).cell? ⟨w.heap.size,1,N⟩=M (J la gs.length lc):=qk;have k2:((w.alloc (O #[J a is.length cap,J la gs.length lc,S out] 95)).alloc (O #[J a' is.length ai,J Of gs.length X5,S out] 95)).cell? ⟨w.heap.size,2,N⟩=M (S out):=qk;have k3:((w.alloc (O #[J a is.length cap,J la gs.length lc,S out] 95)).alloc (O #[J a' is.length ai,J Of gs.length X5,S out] 95)).cell? ⟨w.heap.size+1,1,N⟩=M (J Of gs.length X5):=qk;have k4:((w.alloc (O #[J a is.length cap,J la gs.length lc,S out] 95)).alloc (O #[J a' is.length ai,J Of gs.length X5,S out] 95)).cell? ⟨w.heap.size+1,2,N⟩=M (S out):=qk;go_enter func59,ntmps59;go_wp2_with fail;refine(Nj a a' cap ai is _ (rc.bl ak) (rc'.bl ak) h1).mono ?_;rintro e w1 ⟨af,rfl⟩;have bj:=bt ak af;have c1:=Aa af k1;have c2:=Aa af k2;have c3:=Aa af k3;have c4:=Aa af k4;clear ak af k1 k2 k3 k4;go_wp2_with fail;refine(Vc la Of lc X5 gs _ (rg.bl bj) (rg'.bl bj) h2).mono ?_;rintro e w2 ⟨ag,rfl⟩;have bg:=bt bj ag;have d2:=Aa ag c2;have d4:=Aa ag c4;clear ag bj c1 c2 c3 c4;go_wp2;go_ret;exact⟨bg,rfl⟩

def RdI(K n:X)(w:E)(g:X):Prop:=∀i,i<n→w.cell? ⟨g,i*3,N⟩=M (I ((K+3*i:X):Int))∧w.cell? ⟨g,i*3+1,N⟩=M (S (mt (K+3*i+1)))∧w.cell? ⟨g,i*3+2,N⟩=M (I ((K+3*i+2:X):Int))
theorem Ya.read{K:X}(h:w.ownsRow B 139 3 (J (p_ g) n cap) n ys)(hm:Ya K n ys):RdI K n w g:=by
 exact qjw
theorem RdI.bl{K:X}(h:RdI K n w g)(hb:Bw w w'):RdI K n w' g:=λi hi=>
 ⟨Aa hb (h i hi).1,Aa hb (h i hi).2.1,Aa hb (h i hi).2.2⟩

theorem Qaa(g n cap K:X)(w:E)(hr:RdI K n w g)(hn:n≤1048576)(h1:1≤K)(h2:K≤900000000000000):Calls prog 89 #[J (p_ g) n cap,I K] w λe w'=>e=H (I ((K+3*n:X):Int))∧Bw w w':=by
 have HR:Hd (RdI K n w g):=hr;clear hr;go_enter func89,ntmps89;go_wp2
 go_loopw [1,5] (λk i wr=>∃(m:X),m≤n∧i=I m∧k=I ((K+3*m:X):Int)∧Bw w wr) (λ_ i _=>n-(intOf i).toNat)
 case atStart=>exact⟨0,Nat.zero_le _,rfl,rfl,Below.refl _ _⟩
 case round=>
  obtain⟨m,hm,rfl,rfl,bc⟩:=hrel
  by_cases aj:m<n
  ·obtain⟨c1,c2,c3⟩:=(HR.o.bl bc) m aj
   have F4:K+3*m+1<1000000000000000:=qb;have HT:Hd (∀W:E,Calls prog 38 #[I ((K+3*m+1:X):Int)] W λe w'=>Bw W w'∧e=H (S (mt (K+3*m+1)))):=λW=>Cx (K+3*m+1) W qb F4;generalize mt (K+3*m+1)=t at *;obtain⟨c,ec⟩:=Aj (K+3*m);rw[ec]at c1 c3 HT F4 ⊢;have HE:Hd (K+3*m=c):=ec;clear ec;have et:=Fd (rfl:t=t);have D9:(m:Int)<(n:Int):=qb;have hm0:(0:Int)≤(m:Int):=qb;have e1:(((c+1:X):Int))=(c:Int)+1:=qb;have e2:(((c+2:X):Int))=(c:Int)+1+1:=qb;rw[e2]at c3;have co:Bw wr wr.drew:=(Below.refl _ _).drew;clear e1 e2;go_wp2_with fail
   go_region_held3 (λw'=>w'.cell? ⟨g,m*3,N⟩=M (I (c:Int))∧w'.cell? ⟨g,m*3+1,N⟩=M (S t)∧w'.cell? ⟨g,m*3+2,N⟩=M (I ((c:Int)+1+1)))
    (first|assumption|(simp[*];done)|exact⟨Aa ag qq,Aa ag qq,Aa ag qq⟩)
    (first|(go_at_call 38;refine(HT.o _).mono ?_;rintro e w2 ⟨ag,rfl⟩))
   all_goals
    have bg:=bt bc (bt co ag);clear c1 c2 c3 ag co;exact qkd
  ·exact qdo

def MkG(K n:X)(ys:L Z):Prop:=∀i,i<n→ys[i*3]?=M (S (mt (K+3*i)))∧ys[i*3+1]?=M (F (mb (K+3*i+1)))∧ys[i*3+2]?=M (S (mt (K+3*i+2)))
theorem mkG_set{K k:X}(h:MkG K k ys)(hx:k*3+2<ys.length):MkG K (k+1) (((ys.set (k*3) (S (mt (K+3*k)))).set (k*3+1) (F (mb (K+3*k+1)))).set (k*3+2) (S (mt (K+3*k+2)))):=by
 exact qii
theorem rem3(c:X):(((c:Int)+1) % 3 == 0)=mb (c+1):=by
 unfold mb;rw[Bool.eq_iff_iff];simp;omega

theorem Tb(B g n cap K:X)(xs:L Z)(w:E)(ah:w.ownsRow B 136 3 (J (p_ g) n cap) n xs)(hB:B≤w.heap.size)(hn:n≤1048576)(h1:1≤K)(h2:K≤900000000000000):Calls prog 63 #[J (p_ g) n cap,I K] w λe w'=>e=H (I ((K+3*n:X):Int))∧Below B w w'∧Fm g w w'∧∃ys,w'.ownsRow B 136 3 (J (p_ g) n cap) n ys∧MkG K n ys:=by
 have yo:B≤g:=(ah.lt g rfl).1;go_enter func63,ntmps63;go_wp2
 go_loopw [1,5] (λk i wr=>∃(m:X)(ys:L Z),m≤n∧i=I m∧k=I ((K+3*m:X):Int)∧Hd (wr.ownsRow B 136 3 (J (p_ g) n cap) n ys)∧Hd (MkG K m ys)∧Hd (Fm g w wr)∧w.heap.size≤wr.heap.size∧Below B w wr) (λ_ i _=>n-(intOf i).toNat)
 case atStart=>exact⟨0,xs,Nat.zero_le _,rfl,rfl,ah,(λi hi=>by omega:MkG K 0 xs),(λb _ _=>rfl:Fm g w w),Nat.le_refl _,Below.refl _ _⟩
 case round=>
  obtain⟨m,ys,hm,rfl,rfl,HO,HM,HK,cz,bc⟩:=hrel;clear ah
  by_cases aj:m<n
  ·have K5:m*3+2<ys.length:=by rw[HO.o.1];omega
   have mi:Hd (MkG K (m+1) (((ys.set (m*3) (S (mt (K+3*m)))).set (m*3+1) (F (mb (K+3*m+1)))).set (m*3+2) (S (mt (K+3*m+2))))):=mkG_set HM.o K5;have F4:K+3*m+2<1000000000000000:=qb;have HT:Hd (∀W:E,Calls prog 38 #[I ((K+3*m:X):Int)] W λe w'=>Bw W w'∧e=H (S (mt (K+3*m)))):=λW=>Cx (K+3*m) W qb qb
   have HU:Hd (∀W:E,Calls prog 38 #[I ((K+3*m:X)+1+1:Int)] W λe w'=>Bw W w'∧e=H (S (mt (K+3*m+2)))):=λW=>by
    exact qki
   have r1:=rem3 (K+3*m);generalize mt (K+3*m)=t at *;generalize mt (K+3*m+2)=u at *;generalize mb (K+3*m+1)=q at *;obtain⟨c,ec⟩:=Aj (K+3*m);rw[ec]at HT HU F4 r1 ⊢;have HE:Hd (K+3*m=c):=ec;clear ec;have D9:(m:Int)<(n:Int):=qb;go_wp2_with fail;refine(HT.o _).mono ?_;rintro e w2 ⟨ag,rfl⟩;have aq:=Ac HO.o ag;have lz:Below B w w2:=bc.trans (ag.mono qb);have L0:=aq.frozenAt;obtain⟨o1,d1⟩:=Br aq (j:=m*3) qb;obtain⟨o2,d2⟩:=Br aq (j:=m*3+1) qb;have ws:Hd (w2.ownsRow B 136 3 (J (p_ g) n cap) n ys):=aq;have gg:Hd (Fm g w w2):=HK.o.bl cz ag;have ik:w.heap.size≤w2.heap.size:=zo ag.size;clear aq ag bc HO;go_wp2_with fail;refine(HU.o _).mono ?_;rintro e w3 ⟨au,rfl⟩;have fu:=Ac ((ws.o.stored (m*3) (S t)).1.stored (m*3+1) (F q)).1 au;have zt:Below B w w3:=((lz.setCell (p:=⟨g,m*3,N⟩) yo _).setCell (p:=⟨g,m*3+1,N⟩) yo _).trans (au.mono qh);have si:Hd (Fm g w w3):=((gg.o.set (m*3) _).set (m*3+1) _).bl qdd au;(have ou:w.heap.size≤w3.heap.size:=by have:=au.size;simp at this;omega);have hfr3:=fu.frozenAt;obtain⟨o3,d3⟩:=Br fu (j:=m*3+2) qb;have M7:Hd (w3.ownsRow B 136 3 (J (p_ g) n cap) n ((ys.set (m*3) (S t)).set (m*3+1) (F q))):=fu;clear fu au d1 d2 lz L0 ws;go_wp2;go_roundw
   case rel=>exact⟨m+1,_,qb,qj,congrArg (Value.int .i64) (zo HE.o),(M7.o.stored _ _).1,mi.o,si.o.set _ _,by simpa using ou,zt.setCell (p:=⟨g,m*3+2,N⟩) yo _⟩
   case measure=>simp[intOf];omega
  ·exact qdk

theorem Tp(h:w.ownsRow B T 1 (J (p_ g) n cap) n xs)(hj:j<n):∃v,w.cell? ⟨g,j,N⟩=M v:=by
 have hl:=h.1;exact⟨xs[j]'qb,by rw[h.cellAt j qb];exact Jr _⟩

theorem MkG.read{K:X}(h:w.ownsRow B T 3 (J (p_ g) n cap) n ys)(hm:MkG K n ys):RdG K n w g:=by
 exact qjw
theorem Tk(g n cap K:X)(w:E)(hr:RdG K n w g)(hn:n≤1048576)(h1:1≤K)(h2:K≤900000000000000):Calls prog 90 #[J (p_ g) n cap,I K] w λe w'=>e=H (I ((K+3*n:X):Int))∧Bw w w':=by
 have HR:Hd (RdG K n w g):=hr;clear hr;go_enter func90,ntmps90;go_wp2
 go_loopw [1,5] (λk i wr=>∃(m:X),m≤n∧i=I m∧k=I ((K+3*m:X):Int)∧Bw w wr) (λ_ i _=>n-(intOf i).toNat)
 case atStart=>exact⟨0,Nat.zero_le _,rfl,rfl,Below.refl _ _⟩
 case round=>
  obtain⟨m,hm,rfl,rfl,bc⟩:=hrel
  by_cases aj:m<n
  ·obtain⟨c1,c2,c3⟩:=(HR.o.bl bc) m aj
   have F4:K+3*m+2<1000000000000000:=qb;have HT:Hd (∀W:E,Calls prog 38 #[I ((K+3*m:X):Int)] W λe w'=>Bw W w'∧e=H (S (mt (K+3*m)))):=λW=>Cx (K+3*m) W qb qb
   have HU:Hd (∀W:E,Calls prog 38 #[I ((K+3*m:X)+1+1:Int)] W λe w'=>Bw W w'∧e=H (S (mt (K+3*m+2)))):=λW=>by
    exact qki
   have r1:=rem3 (K+3*m);generalize mt (K+3*m)=t at *;generalize mt (K+3*m+2)=u at *;generalize mb (K+3*m+1)=q at *;obtain⟨c,ec⟩:=Aj (K+3*m);rw[ec]at HT HU F4 r1 ⊢;have HE:Hd (K+3*m=c):=ec;clear ec;have D9:(m:Int)<(n:Int):=qb;have hm0:(0:Int)≤(m:Int):=qb;have co:Bw wr wr.drew:=(Below.refl _ _).drew;go_wp2_with fail
   go_region_held3 (λw'=>w'.cell? ⟨g,m*3,N⟩=M (S t)∧w'.cell? ⟨g,m*3+1,N⟩=M (F q)∧w'.cell? ⟨g,m*3+2,N⟩=M (S u))
    (first|assumption|(simp[*];done)|exact⟨Aa ag qq,Aa ag qq,Aa ag qq⟩)
    (first|(go_at_call 38;refine(HT.o _).mono ?_;rintro e w2 ⟨ag,rfl⟩))
   all_goals
    have d2:=Aa ag (Aa co c2);have d3:=Aa ag (Aa co c3);have bg:=bt bc (bt co ag);clear c1 c2 c3 ag co;have gu:Bw w2 w2.drew:=(Below.refl _ _).drew;go_wp2_with fail
    go_region_held3 (λw'=>w'.cell? ⟨g,m*3+2,N⟩=M (S u))
     (first|assumption|(simp[*];done)|exact Aa au qq)
     (first|(go_at_call 38;refine(HU.o _).mono ?_;rintro e w3 ⟨au,rfl⟩))
    all_goals
     have ip:=bt bg (bt gu au);clear d2 d3 au gu;go_wp2;go_roundw
     case rel=>exact⟨m+1,qb,qj,congrArg (Value.int .i64) (zo HE.o),ip⟩
     case measure=>simp[intOf];omega
  ·exact qdo

theorem Dl.bl{ob:Option X}(h:Dl ob w w')(hs:w.heap.size≤w'.heap.size)(hb:Bw w' w2):Dl ob w w2:=λb hl hne=>by
 rw[hb.block b qb];exact h b hl hne
theorem Oi(a:Option Addr)(cap:X)(ss:L By)(w:E)(hc:Ca w a ss)(hl:ss.length≤1048576):Calls prog 10 #[J a ss.length cap] w λe w'=>Bw w w'∧∃g:X,e=H (J (p_ g) ss.length ss.length)∧w'.ownsRow w.heap.size 9 1 (J (p_ g) ss.length ss.length) ss.length (El ss ss.length ss.length):=by
 obtain⟨i0,hi,bo,bm,cm⟩:=info_parts Tryz.info9;go_enter func10,ntmps10
 go_wp2_with (first|(at_make;refine wpList_make_full _ rfl (.tmp 6) (.tmp 6) 22 rfl w.heap.size 9 i0 (S ByteArray.empty) 1 underlying22 hi bo bm .i64 .i64 _ _ ss.length rfl rfl rfl rfl qao qm (Nat.le_refl _) ?_;intro w1 ah ae))
 rw[Qc]at ah;have ge:Bw w w1:=(Below.refl _ _).grown ae (Nat.le_refl _) qg;clear ae
 go_loopw [4] (λi wr=>∃k:X,k≤ss.length∧i=I k∧wr.ownsRow w.heap.size 9 1 (J (p_ w.heap.size) ss.length ss.length) ss.length (El ss k ss.length)∧Bw w wr) (λi _=>ss.length-(intOf i).toNat)
 case atStart=>exact⟨0,Nat.zero_le _,rfl,by simpa [El] using ah,ge⟩
 case round=>
  obtain⟨k,hk,rfl,ah,am⟩:=hrel
  by_cases aj:k<ss.length
  ·obtain⟨b,off,rfl,B5⟩:=(hc.bl am) k aj
   have cw:=ah.stored k (S (ss.getD k ByteArray.empty));rw[Uy ss k aj]at cw;have ci:=ah.frozenAt k
   have hce:wr.cell? ⟨w.heap.size,k,N⟩=M ((El ss k ss.length)[k]'(by rw[Iv ss k hk];exact aj)):=by
    rw[ah.cellAt k qb];exact Jr _
   generalize (El ss k ss.length)[k]'(by rw[Iv ss k hk];exact aj)=old at hce;generalize ss.getD k ByteArray.empty=s at *;have hbel2:Bw w (wr.setCell ⟨w.heap.size,k,N⟩ (S s)):=am.setCell (Nat.le_refl _) _;clear ah am ge hc;go_wp2;go_roundw
   case rel=>exact⟨k+1,qb,qj,cw.1,hbel2⟩
   case measure=>simp[intOf];omega
  ·have ek:k=ss.length:=qb
   subst ek;go_wp2;go_ret;exact⟨am,_,rfl,ah⟩

theorem Ta(K:X)(w:E)(h2:K≤900000000000000):Calls prog 63 #[nS,I K] w λe w'=>e=H (I (K:Int))∧w=w':=by
 go_enter func63,ntmps63;exact qbe

theorem Sz(B n K:X)(v:Z)(xs:L Z)(w:E)(ah:w.ownsRow B 136 3 v n xs)(hB:B≤w.heap.size)(hn:n≤1048576)(h1:1≤K)(h2:K≤900000000000000):Calls prog 63 #[v,I K] w λe w'=>e=H (I ((K+3*n:X):Int))∧Below B w w'∧Dl v.ownBlock w w'∧∃ys,w'.ownsRow B 136 3 v n ys∧MkG K n ys:=by
 rcases Cz ah with⟨rfl,rfl⟩|⟨g,cap,rfl⟩
 ·refine(Ta K w h2).mono ?_
  exact qlp
 ·refine(Tb B g n cap K xs w ah hB hn h1 h2).mono ?_
  exact qky

theorem Sr(K:X)(w:E)(h2:K≤900000000000000):Calls prog 18 #[nS,I K] w λe w'=>e=H (I (K:Int))∧w=w':=by
 go_enter func18,ntmps18;exact qbe

theorem Zz(K:X)(w:E)(h2:K≤900000000000000):Calls prog 89 #[nS,I K] w λe w'=>e=H (I (K:Int))∧w=w':=by
 go_enter func89,ntmps89;exact qbe

theorem Zy(B n K:X)(v:Z)(ys:L Z)(w:E)(ah:w.ownsRow B 139 3 v n ys)(hm:Ya K n ys)(hn:n≤1048576)(h1:1≤K)(h2:K≤900000000000000):Calls prog 89 #[v,I K] w λe w'=>e=H (I ((K+3*n:X):Int))∧Bw w w':=by
 rcases Cz ah with⟨rfl,rfl⟩|⟨g,cap,rfl⟩
 ·refine(Zz K w h2).mono ?_
  exact qdp
 ·exact Qaa g n cap K w (Ya.read ah hm) hn h1 h2

theorem Tj(K:X)(w:E)(h2:K≤900000000000000):Calls prog 90 #[nS,I K] w λe w'=>e=H (I (K:Int))∧w=w':=by
 go_enter func90,ntmps90;exact qbe

theorem Ti(B n K:X)(v:Z)(ys:L Z)(w:E)(ah:w.ownsRow B 136 3 v n ys)(hm:MkG K n ys)(hn:n≤1048576)(h1:1≤K)(h2:K≤900000000000000):Calls prog 90 #[v,I K] w λe w'=>e=H (I ((K+3*n:X):Int))∧Bw w w':=by
 rcases Cz ah with⟨rfl,rfl⟩|⟨g,cap,rfl⟩
 ·refine(Tj K w h2).mono ?_
  exact qdp
 ·exact Tk g n cap K w (MkG.read ah hm) hn h1 h2

theorem Wa(a la:Option Addr)(cap lc:X)(is:L I3)(gs:L G3)(out:By)(lft:Int)(hf0:0≤lft)(E7:lft≤1048576)(w:E)(h:Xz w a is la gs out):Calls prog 41 #[G #[J a is.length cap,J la gs.length lc,S out],I lft] w λe w'=>Bw w w'∧∃r:Int,e=H (I r)∧(r<0∨(is.length≤1048576∧gs.length≤1048576∧0≤r∧r≤lft)):=by
 obtain⟨rc,rg,hlc,hlg,xc,ng,sg,so⟩:=h;unfold maxLen at so;have ak:Bw w (w.alloc (O #[J a is.length cap,J la gs.length lc,S out] 80)):=aN _ _;have k1:(w.alloc (O #[J a is.length cap,J la gs.length lc,S out] 80)).cell? ⟨w.heap.size,1,N⟩=M (J la gs.length lc):=qk;have k2:(w.alloc (O #[J a is.length cap,J la gs.length lc,S out] 80)).cell? ⟨w.heap.size,2,N⟩=M (S out):=qk;go_enter func41,ntmps41;go_wp2_with fail;refine(Mv a cap is lft _ hf0 E7 (rc.bl ak) hlc xc).mono ?_;rintro e w1 ⟨af,r,rfl,hr⟩;have bj:=bt ak af;have S6:=Aa af k1;have S5:=Aa af k2;clear ak af k1 k2
 rcases hr with hr|⟨h1,B3,my⟩
 ·go_wp2
  go_ret;exact⟨bj,-1,rfl,Or.inl qb⟩
 ·go_wp2_with fail
  refine(Wb la lc gs r _ qb qb (rg.bl bj) hlg ng sg).mono ?_;rintro e w2 ⟨ag,r2,rfl,nr⟩;have bg:=bt bj ag;have k22:=Aa ag S5;clear ag bj S6 S5
  rcases nr with nr|⟨h2,nr,wv,h3⟩
  ·exact qdq
  ·by_cases h4:r2-out.size<0
   ·exact qdq
   ·go_wp2
    go_ret;exact⟨bg,r2-out.size,rfl,Or.inr qb⟩


theorem Vb(a a':Option Addr)(cap ai:X)(is:L T3)(w:E)(hc:Lc w a is)(o6:Lc w a' is)(hk:En is):Calls prog 32 #[J a is.length cap,J a' is.length ai] w λe w'=>Bw w w'∧e=H (F true):=by
 have hl:=hk.1;have HK:Hd (∀i,i<is.length→(qx is i).code.length≤1048576∧(qx is i).looks.length≤1048576):=hk.2;clear hk;go_enter func32,ntmps32;go_wp2
 go_loopw [5] (λi wr=>∃k:X,k≤is.length∧i=I k∧Bw w wr) (λi _=>is.length-(intOf i).toNat)
 case atStart=>exact⟨0,Nat.zero_le _,rfl,Below.refl _ _⟩
 case round=>
  obtain⟨k,hk,rfl,am⟩:=hrel
  by_cases aj:k<is.length
  ·obtain⟨b,off,rfl,ca,cc,la,lc,c1,c2,c3,c4,c5⟩:=(hc.bl am) k aj
   obtain⟨b',br,rfl,ca',cc',Of,X5,d1,d2,d3,d4,d5⟩:=(o6.bl am) k aj;have B5:=HK.o k aj;generalize qx is k=i at *;clear hc o6;have C4:Hd (Ch wr ca i.code):=c4;have C5:Hd (Gk wr la i.looks):=c5;have D4:Hd (Ch wr ca' i.code):=d4;have D5:Hd (Gk wr Of i.looks):=d5;clear c4 c5 d4 d5;have iy:(k:Int)<(is.length:Int):=qb;have jr:(0:Int)≤(k:Int):=qb;have iu:Bw wr wr.drew:=(Below.refl _ _).drew;go_wp2_with fail
   go_region_held3 (λw'=>(w'.cell? ⟨b,off+k*3,N⟩=M (J ca i.code.length cc)∧w'.cell? ⟨b,off+k*3+1,N⟩=M (J la i.looks.length lc)∧w'.cell? ⟨b,off+k*3+2,N⟩=M (S i.out))∧(w'.cell? ⟨b',br+k*3,N⟩=M (J ca' i.code.length cc')∧w'.cell? ⟨b',br+k*3+1,N⟩=M (J Of i.looks.length X5)∧w'.cell? ⟨b',br+k*3+2,N⟩=M (S i.out)))
    (first|assumption|(simp[*];done)|exact⟨⟨Aa af qq,Aa af qq,Aa af qq⟩,Aa af qq,Aa af qq,Aa af qq⟩)
    (first|(go_at_call 59;refine(Wq ca ca' la Of cc cc' lc X5 i.code i.looks i.out _ (C4.o.bl iu) (D4.o.bl iu) (C5.o.bl iu) (D5.o.bl iu) B5.1 B5.2).mono ?_;rintro e w1 ⟨af,rfl⟩))
   all_goals
    go_wp2;go_roundw
    case rel=>exact⟨k+1,qb,qj,am.trans (Below.trans (Below.drew (Below.refl _ _)) (af.mono qcy))⟩
    case measure=>simp[intOf];omega
  ·exact qbp

theorem Qk(n:Int)(ta ra nk ra':Option Addr)(tc rc wu rc':X)(ts:L By)(rs:L T3)(w:E)(st:Ca w ta ts)(pu:Ca w nk ts)(rq:Lc w ra rs)(rq':Lc w ra' rs)(hl:ts.length≤1048576)(hq:En rs):Calls prog 13 #[G #[I n,J ta ts.length tc,J ra rs.length rc],G #[I n,J nk ts.length wu,J ra' rs.length rc']] w λe w'=>Bw w w'∧e=H (F true):=by
 have fc:Hd (Ca w ta ts):=st;have HRQ:Hd (Lc w ra rs):=rq;have HST':Hd (Ca w nk ts):=pu;have HRQ':Hd (Lc w ra' rs):=rq';have HQS:Hd (En rs):=hq;clear st rq pu rq' hq;have ak:Bw w ((w.alloc (O #[I n,J ta ts.length tc,J ra rs.length rc] 35)).alloc (O #[I n,J nk ts.length wu,J ra' rs.length rc'] 35)):=(aN _ _).alloc qg _;have k1:((w.alloc (O #[I n,J ta ts.length tc,J ra rs.length rc] 35)).alloc (O #[I n,J nk ts.length wu,J ra' rs.length rc'] 35)).cell? ⟨w.heap.size,2,N⟩=M (J ra rs.length rc):=qk;have k2:((w.alloc (O #[I n,J ta ts.length tc,J ra rs.length rc] 35)).alloc (O #[I n,J nk ts.length wu,J ra' rs.length rc'] 35)).cell? ⟨w.heap.size+1,2,N⟩=M (J ra' rs.length rc'):=qk;go_enter func13,ntmps13;go_wp2_with fail;refine(Fs ta nk tc wu ts _ (fc.o.bl ak) (HST'.o.bl ak) hl).mono ?_;rintro e w1 ⟨af,rfl⟩;have bj:=bt ak af;have S6:=Aa af k1;have S5:=Aa af k2;clear ak af k1 k2;go_wp2_with fail;refine(Vb ra ra' rc rc' rs _ (HRQ.o.bl bj) (HRQ'.o.bl bj) HQS.o).mono ?_;rintro e w2 ⟨ag,rfl⟩;go_wp2;go_ret;exact⟨bt bj ag,rfl⟩

theorem mkX_set{K k:X}(h:Oe K k ys)(hx:k<ys.length):Oe K (k+1) (ys.set k (S (mt (K+k)))):=by
 intro i hi;rw[List.getElem?_set]
 rcases Nat.lt_or_ge i k with hl|hl
 ·rw[if_neg qb];exact h i hl
 ·obtain rfl:i=k:=qb
  rw[if_pos rfl,if_pos hx]

theorem Uo(B g n cap K:X)(xs:L Z)(w:E)(ah:w.ownsRow B 9 1 (J (p_ g) n cap) n xs)(hB:B≤w.heap.size)(hn:n≤1048576)(h1:1≤K)(h2:K≤900000000000000):Calls prog 18 #[J (p_ g) n cap,I K] w λe w'=>e=H (I ((K+n:X):Int))∧Below B w w'∧Fm g w w'∧∃ys,w'.ownsRow B 9 1 (J (p_ g) n cap) n ys∧Oe K n ys:=by
 have yo:B≤g:=(ah.lt g rfl).1;go_enter func18,ntmps18;go_wp2
 go_loopw [1,5] (λk i wr=>∃(m:X)(ys:L Z),m≤n∧i=I m∧k=I ((K+m:X):Int)∧Hd (wr.ownsRow B 9 1 (J (p_ g) n cap) n ys)∧Hd (Oe K m ys)∧Hd (Fm g w wr)∧w.heap.size≤wr.heap.size∧Below B w wr) (λ_ i _=>n-(intOf i).toNat)
 case atStart=>exact⟨0,xs,Nat.zero_le _,rfl,rfl,ah,(λi hi=>by omega:Oe K 0 xs),(λb _ _=>rfl:Fm g w w),Nat.le_refl _,Below.refl _ _⟩
 case round=>
  obtain⟨m,ys,hm,rfl,rfl,HO,HM,HK,cz,bc⟩:=hrel;clear ah
  by_cases aj:m<n
  ·have K5:m<ys.length:=by rw[HO.o.1];omega
   have mi:Hd (Oe K (m+1) (ys.set m (S (mt (K+m))))):=mkX_set HM.o K5;have F4:K+m<1000000000000000:=qb;have HT:Hd (∀W:E,Calls prog 38 #[I ((K+m:X):Int)] W λe w'=>Bw W w'∧e=H (S (mt (K+m)))):=λW=>Cx (K+m) W qb qb;generalize mt (K+m)=t at *;obtain⟨c,ec⟩:=Aj (K+m);rw[ec]at HT F4 ⊢;have HE:Hd (K+m=c):=ec;clear ec;have D9:(m:Int)<(n:Int):=qb;go_wp2_with fail;refine(HT.o _).mono ?_;rintro e w2 ⟨ag,rfl⟩;have aq:=Ac HO.o ag;have lz:Below B w w2:=bc.trans (ag.mono qb);have L0:=aq.frozenAt;obtain⟨o1,d1⟩:=Tp aq (j:=m) aj;have ws:Hd (w2.ownsRow B 9 1 (J (p_ g) n cap) n ys):=aq;have gg:Hd (Fm g w w2):=HK.o.bl cz ag;have ik:w.heap.size≤w2.heap.size:=zo ag.size;clear aq ag bc HO;go_wp2;go_roundw
   case rel=>exact⟨m+1,_,qb,qj,congrArg (Value.int .i64) (zo HE.o),(ws.o.stored _ _).1,mi.o,gg.o.set _ _,qdd,lz.setCell (p:=⟨g,m,N⟩) yo _⟩
   case measure=>simp[intOf];omega
  ·exact qdk

theorem Fa(lo hi n K:X)(v:Z)(xs:L Z)(w:E)(hr:Bh w lo hi 9 1 v n xs)(hB:lo≤w.heap.size)(hn:n≤1048576)(h1:1≤K)(h2:K≤900000000000000):Calls prog 18 #[v,I K] w λe w'=>e=H (I ((K+n:X):Int))∧Below lo w w'∧Dl v.ownBlock w w'∧∃ys,Bh w' lo hi 9 1 v n ys∧Oe K n ys:=by
 rcases Cz hr.own with⟨rfl,rfl⟩|⟨g,cap,rfl⟩
 ·refine(Sr K w h2).mono ?_
  exact qlu
 ·refine(Uo lo g n cap K xs w hr.own hB hn h1 h2).mono ?_
  exact qko

theorem Oe.read{K:X}(h:w.ownsRow B 9 1 (J (p_ g) n cap) n ys)(hm:Oe K n ys):RdX K n w g:=by
 intro i hi;rw[h.cellAt _ qb];exact hm i hi
theorem Te(g n cap K:X)(w:E)(hr:RdX K n w g)(hn:n≤1048576)(h1:1≤K)(h2:K≤900000000000000):Calls prog 39 #[J (p_ g) n cap,I K] w λe w'=>e=H (I ((K+n:X):Int))∧Bw w w':=by
 have HR:Hd (RdX K n w g):=hr;clear hr;go_enter func39,ntmps39;go_wp2
 go_loopw [1,5] (λk i wr=>∃(m:X),m≤n∧i=I m∧k=I ((K+m:X):Int)∧Bw w wr) (λ_ i _=>n-(intOf i).toNat)
 case atStart=>exact⟨0,Nat.zero_le _,rfl,rfl,Below.refl _ _⟩
 case round=>
  obtain⟨m,hm,rfl,rfl,bc⟩:=hrel
  by_cases aj:m<n
  ·have c1:=(HR.o.bl bc) m aj
   have F4:K+m<1000000000000000:=qb;have HT:Hd (∀W:E,Calls prog 38 #[I ((K+m:X):Int)] W λe w'=>Bw W w'∧e=H (S (mt (K+m)))):=λW=>Cx (K+m) W qb qb;generalize mt (K+m)=t at *;obtain⟨c,ec⟩:=Aj (K+m);rw[ec]at HT F4 ⊢;have HE:Hd (K+m=c):=ec;clear ec;have D9:(m:Int)<(n:Int):=qb;have hm0:(0:Int)≤(m:Int):=qb;have co:Bw wr wr.drew:=(Below.refl _ _).drew;go_wp2_with fail
   go_region_held3 (λw'=>w'.cell? ⟨g,m,N⟩=M (S t))
    (first|assumption|(simp[*];done)|exact Aa ag qq)
    (first|(go_at_call 38;refine(HT.o _).mono ?_;rintro e w2 ⟨ag,rfl⟩))
   all_goals
    have bg:=bt bc (bt co ag);clear c1 ag co;exact qkd
  ·exact qdo

theorem Td(K:X)(w:E)(h2:K≤900000000000000):Calls prog 39 #[nS,I K] w λe w'=>e=H (I (K:Int))∧w=w':=by
 go_enter func39,ntmps39;exact qbe
theorem Gq(lo hi n K:X)(v:Z)(ys:L Z)(w:E)(hr:Bh w lo hi 9 1 v n ys)(hm:Oe K n ys)(hn:n≤1048576)(h1:1≤K)(h2:K≤900000000000000):Calls prog 39 #[v,I K] w λe w'=>e=H (I ((K+n:X):Int))∧Bw w w':=by
 rcases Cz hr.own with⟨rfl,rfl⟩|⟨g,cap,rfl⟩
 ·refine(Td K w h2).mono ?_
  exact qdp
 ·exact Te g n cap K w (Oe.read hr.own hm) hn h1 h2

def kR(cl gl:X→X)(K:X):X→X
 | 0=>K
 | i+1=>kR cl gl K i+3*cl i+3*gl i+1
theorem Qe(cl gl:X→X)(K:X):∀i n,i≤n→kR cl gl K i≤kR cl gl K n:=by
 intro i n h
 induction n with
 | zero=>
   (obtain rfl:i=0:=by omega);exact Nat.le_refl _
 | succ n ih=>
   rcases Nat.lt_or_ge i (n+1)with h1|h1
   ·have:=ih qb
    simp only[kR];omega
   ·obtain rfl:i=n+1:=qb
    exact Nat.le_refl _
theorem kR_bound(cl gl:X→X)(K:X):∀n,(∀i,i<n→cl i≤1048576∧gl i≤1048576)→kR cl gl K n≤K+n*6291457:=by
 intro n
 induction n with
 | zero=>intro _;simp[kR]
 | succ n ih=>
   intro h;have:=ih (λi hi=>h i qb);have:=h n qb;simp only[kR];rw[Nat.succ_mul];omega
structure Cr (w:E) (lo hi:X) (v:Z) (n:X) (cl gl:X→X) (xs:L Z) (cv lv:X→Z):Prop where
 row:Bh w lo hi 95 3 v n xs
 fst:∀i,i<n→xs[i*3]?=M (cv i)
 snd:∀i,i<n→xs[i*3+1]?=M (lv i)
 code:∀i,i<n→∃ys,Bh w lo hi 139 3 (cv i) (cl i) ys
 look:∀i,i<n→∃ys,Bh w lo hi 136 3 (lv i) (gl i) ys
 apc:∀i j,i<n→j<n→i≠j→∀b,(cv i).ownBlock=M b→(cv j).ownBlock≠M b
 apl:∀i j,i<n→j<n→i≠j→∀b,(lv i).ownBlock=M b→(lv j).ownBlock≠M b
theorem Kv.rows(h:Kv w lo hi v rs xs cv lv):Cr w lo hi v rs.length (λi=>(qx rs i).code.length) (λi=>(qx rs i).looks.length) xs cv lv:=
 ⟨h.row,λi hi=>(h.fil i hi).1,λi hi=>(h.fil i hi).2.1,λi hi=>by obtain⟨ys,h1,_⟩:=h.code i hi;exact⟨ys,h1⟩,λi hi=>by obtain⟨ys,h1,_⟩:=h.look i hi;exact⟨ys,h1⟩,λi j hi hj hne b e1 e2=>by
  rcases Nat.lt_or_gt_of_ne hne with h1|h1
  ·exact h.apc i j h1 hj b e1 e2
  ·exact h.apc j i h1 hi b e2 e1,λi j hi hj hne b e1 e2=>by
  rcases Nat.lt_or_gt_of_ne hne with h1|h1
  ·exact h.apl i j h1 hj b e1 e2
  ·exact h.apl j i h1 hi b e2 e1⟩
theorem Cr.same(h:Cr w lo hi v n cl gl xs cv lv)(h1:∀b,v.ownBlock=M b→w'.heap[b]?=w.heap[b]?)(h2:∀i,i<n→∀b,(cv i).ownBlock=M b→w'.heap[b]?=w.heap[b]?)(h3:∀i,i<n→∀b,(lv i).ownBlock=M b→w'.heap[b]?=w.heap[b]?):Cr w' lo hi v n cl gl xs cv lv:=
 ⟨h.row.same h1,h.fst,h.snd,λi hi=>by obtain⟨ys,k⟩:=h.code i hi;exact⟨ys,k.same (h2 i hi)⟩,λi hi=>by obtain⟨ys,k⟩:=h.look i hi;exact⟨ys,k.same (h3 i hi)⟩,h.apc,h.apl⟩
theorem Cr.lt(h:Cr w lo hi v n cl gl xs cv lv)(hb:v.ownBlock=M b∨(∃i,i<n∧(cv i).ownBlock=M b)∨∃i,i<n∧(lv i).ownBlock=M b):lo≤b∧b<hi∧b<w.heap.size:=by
 rcases hb with e|⟨i,hi,e⟩|⟨i,hi,e⟩
 ·exact⟨(h.row.own.lt b e).1,h.row.top b e,(h.row.own.lt b e).2⟩
 ·obtain⟨ys,k⟩:=h.code i hi
  exact⟨(k.own.lt b e).1,k.top b e,(k.own.lt b e).2⟩
 ·obtain⟨ys,k⟩:=h.look i hi
  exact⟨(k.own.lt b e).1,k.top b e,(k.own.lt b e).2⟩
theorem Cr.bl(h:Cr w lo hi v n cl gl xs cv lv)(hb:Bw w w'):Cr w' lo hi v n cl gl xs cv lv:=
 h.same (λb e=>hb.block b (h.lt (Or.inl e)).2.2) (λi hi b e=>hb.block b (h.lt (Or.inr (Or.inl ⟨i,hi,e⟩))).2.2) (λi hi b e=>hb.block b (h.lt (Or.inr (Or.inr ⟨i,hi,e⟩))).2.2)
theorem Cr.keepO{u:Z}{e sz:X}(h:Cr w lo hi v n cl gl xs cv lv)(ho:w.ownsRow B e sz u m zs)(hk:Dl u.ownBlock w w')(h1:95≠e)(h2:139≠e)(h3:136≠e):Cr w' lo hi v n cl gl xs cv lv:=
 h.same (λb eb=>hk b (h.lt (Or.inl eb)).2.2 (λe'=>Ra h.row.own ho h1 b eb e'.symm)) (λi hi b eb=>by
  obtain⟨ys,k⟩:=h.code i hi
  exact hk b (k.own.lt b eb).2 (λe'=>Ra k.own ho h2 b eb e'.symm)) (λi hi b eb=>by
  obtain⟨ys,k⟩:=h.look i hi;exact hk b (k.own.lt b eb).2 (λe'=>Ra k.own ho h3 b eb e'.symm))
theorem Cr.store(h:Cr w lo hi (J (p_ g) n cap) n cl gl xs cv lv)(m:X)(u:Z):Cr (w.setCell ⟨g,m*3+2,N⟩ u) lo hi (J (p_ g) n cap) n cl gl (xs.set (m*3+2) u) cv lv:=
 ⟨⟨(h.row.own.stored (m*3+2) u).1,h.row.top⟩,λi hi=>by rw[List.getElem?_set,if_neg qb];exact h.fst i hi,λi hi=>by rw[List.getElem?_set,if_neg qb];exact h.snd i hi,λi hi=>by
  obtain⟨ys,k1⟩:=h.code i hi
  exact⟨ys,k1.same λb eb=>Dj w ⟨g,m*3+2,N⟩ u b (by show b≠g;intro e;subst e;exact Ra h.row.own k1.own qd b rfl eb)⟩,λi hi=>by
  obtain⟨ys,k1⟩:=h.look i hi;exact⟨ys,k1.same λb eb=>Dj w ⟨g,m*3+2,N⟩ u b (by show b≠g;intro e;subst e;exact Ra h.row.own k1.own qd b rfl eb)⟩,h.apc,h.apl⟩
theorem Cr.markC(h:Cr w lo hi v n cl gl xs cv lv)(hm:m<n)(hk:Dl (cv m).ownBlock w w')(hn:Bh w' lo hi 139 3 (cv m) (cl m) zs):Cr w' lo hi v n cl gl xs cv lv:=by
 obtain⟨y0,k0⟩:=h.code m hm;refine⟨h.row.same λb eb=>hk b (h.row.own.lt b eb).2 (λe'=>Ra h.row.own k0.own qd b eb e'.symm),h.fst,h.snd,λi hi=>?_,λi hi=>?_,h.apc,h.apl⟩
 ·by_cases hi':i=m
  ·subst hi';exact⟨zs,hn⟩
  ·obtain⟨ys,k1⟩:=h.code i hi
   exact⟨ys,k1.same λb eb=>hk b (k1.own.lt b eb).2 (λe'=>h.apc i m hi hm hi' b eb e'.symm)⟩
 ·obtain⟨ys,k1⟩:=h.look i hi
  exact qlk
theorem Cr.markL(h:Cr w lo hi v n cl gl xs cv lv)(hm:m<n)(hk:Dl (lv m).ownBlock w w')(hn:Bh w' lo hi 136 3 (lv m) (gl m) zs):Cr w' lo hi v n cl gl xs cv lv:=by
 obtain⟨y0,k0⟩:=h.look m hm;refine⟨h.row.same λb eb=>hk b (h.row.own.lt b eb).2 (λe'=>Ra h.row.own k0.own qd b eb e'.symm),h.fst,h.snd,λi hi=>?_,λi hi=>?_,h.apc,h.apl⟩
 ·obtain⟨ys,k1⟩:=h.code i hi
  exact qlk
 ·by_cases hi':i=m
  ·subst hi';exact⟨zs,hn⟩
  ·obtain⟨ys,k1⟩:=h.look i hi
   exact⟨ys,k1.same λb eb=>hk b (k1.own.lt b eb).2 (λe'=>h.apl i m hi hm hi' b eb e'.symm)⟩
def Im(w:E)(lo hi K:X)(cl gl:X→X)(cv lv:X→Z)(m:X)(ys:L Z):Prop:=∀i,i<m→ys[i*3+2]?=M (S (mt (kR cl gl K i+3*cl i+3*gl i)))∧(∃zs,Bh w lo hi 139 3 (cv i) (cl i) zs∧Ya (kR cl gl K i) (cl i) zs)∧∃zs,Bh w lo hi 136 3 (lv i) (gl i) zs∧MkG (kR cl gl K i+3*cl i) (gl i) zs
theorem Im.same{K:X}(h:Im w lo hi K cl gl cv lv m ys)(h2:∀i,i<m→∀b,(cv i).ownBlock=M b→w'.heap[b]?=w.heap[b]?)(h3:∀i,i<m→∀b,(lv i).ownBlock=M b→w'.heap[b]?=w.heap[b]?):Im w' lo hi K cl gl cv lv m ys:=λi hi=>by
 obtain⟨k1,⟨zs,k2,k3⟩,us,k4,k5⟩:=h i hi;exact⟨k1,⟨zs,k2.same (h2 i hi),k3⟩,us,k4.same (h3 i hi),k5⟩
theorem Im.bl{K:X}(h:Im w lo hi K cl gl cv lv m ys)(hb:Bw w w'):Im w' lo hi K cl gl cv lv m ys:=λi hi=>by
 obtain⟨k1,⟨zs,k2,k3⟩,us,k4,k5⟩:=h i hi;exact⟨k1,⟨zs,k2.bl hb,k3⟩,us,k4.bl hb,k5⟩
theorem Im.markC{K:X}(h:Im w lo hi K cl gl cv lv m ys)(hr:Cr w lo hi v n cl gl xs cv lv)(hm:m<n)(hk:Dl (cv m).ownBlock w w'):Im w' lo hi K cl gl cv lv m ys:=by
 obtain⟨y0,k0⟩:=hr.code m hm;refine h.same (λi hi b eb=>?_) (λi hi b eb=>?_)
 ·obtain⟨_,⟨zs,k2,_⟩,_⟩:=h i hi
  exact hk b (k2.own.lt b eb).2 (λe'=>hr.apc i m qb hm qb b eb e'.symm)
 ·obtain⟨_,_,zs,k2,_⟩:=h i hi
  exact qmx
theorem Im.markL{K:X}(h:Im w lo hi K cl gl cv lv m ys)(hr:Cr w lo hi v n cl gl xs cv lv)(hm:m<n)(hk:Dl (lv m).ownBlock w w'):Im w' lo hi K cl gl cv lv m ys:=by
 obtain⟨y0,k0⟩:=hr.look m hm;refine h.same (λi hi b eb=>?_) (λi hi b eb=>?_)
 ·obtain⟨_,⟨zs,k2,_⟩,_⟩:=h i hi
  exact qmx
 ·obtain⟨_,_,zs,k2,_⟩:=h i hi
  exact hk b (k2.own.lt b eb).2 (λe'=>hr.apl i m qb hm qb b eb e'.symm)
theorem Im.store{K:X}{us:L Z}(h:Im w lo hi K cl gl cv lv m ys)(hr:Cr w lo hi (J (p_ g) n cap) n cl gl ys cv lv)(hm:m<n)(hz:Bh w lo hi 139 3 (cv m) (cl m) zs)(hzm:Ya (kR cl gl K m) (cl m) zs)(hu:Bh w lo hi 136 3 (lv m) (gl m) us)(hum:MkG (kR cl gl K m+3*cl m) (gl m) us):Im (w.setCell ⟨g,m*3+2,N⟩ (S (mt (kR cl gl K m+3*cl m+3*gl m)))) lo hi K cl gl cv lv (m+1) (ys.set (m*3+2) (S (mt (kR cl gl K m+3*cl m+3*gl m)))):=λi hj=>by
 have hs:∀ {e sz k:X} {u:Z} {ps:L Z},Bh w lo hi e sz u k ps→95≠e→Bh (w.setCell ⟨g,m*3+2,N⟩ (S (mt (kR cl gl K m+3*cl m+3*gl m)))) lo hi e sz u k ps:=fun {e sz k u ps} k1 hne=>k1.same λb eb=>Dj w ⟨g,m*3+2,N⟩ _ b (by show b≠g;intro e;subst e;exact Ra hr.row.own k1.own hne b rfl eb)
 rcases Nat.lt_or_ge i m with aj|Y4
 ·obtain⟨k1,⟨ps,k2,k3⟩,qs,k4,k5⟩:=h i aj
  exact⟨by rw[List.getElem?_set,if_neg qb];exact k1,⟨ps,hs k2 qd,k3⟩,qs,hs k4 qd,k5⟩
 ·obtain rfl:i=m:=qb
  exact⟨by rw[List.getElem?_set,if_pos rfl,if_pos (by rw[hr.row.own.1];omega)],⟨zs,hs hz qd,hzm⟩,us,hs hu qd,hum⟩
def Ei(v:Z)(cv lv:X→Z)(n:X)(w w':E):Prop:=∀b,b<w.heap.size→v.ownBlock≠M b→(∀i,i<n→(cv i).ownBlock≠M b)→(∀i,i<n→(lv i).ownBlock≠M b)→w'.heap[b]?=w.heap[b]?
theorem Ei.bl(h:Ei v cv lv n w w')(hs:w.heap.size≤w'.heap.size)(hb:Bw w' w2):Ei v cv lv n w w2:=λb hl h1 h2 h3=>by
 rw[hb.block b qb];exact h b hl h1 h2 h3
theorem Ei.set(h:Ei (J (p_ g) n cap) cv lv n w w')(u:Z):Ei (J (p_ g) n cap) cv lv n w (w'.setCell ⟨g,m,N⟩ u):=λb hl h1 h2 h3=>by
 rw[Dj w' ⟨g,m,N⟩ u b (λe=>h1 (by rw[e];rfl))];exact h b hl h1 h2 h3
theorem Ei.markC(h:Ei v cv lv n w w')(hs:w.heap.size≤w'.heap.size)(hm:m<n)(hk:Dl (cv m).ownBlock w' w2):Ei v cv lv n w w2:=λb hl h1 h2 h3=>by
 rw[hk b qb (λe=>h2 m hm e.symm)];exact h b hl h1 h2 h3
theorem Ei.markL(h:Ei v cv lv n w w')(hs:w.heap.size≤w'.heap.size)(hm:m<n)(hk:Dl (lv m).ownBlock w' w2):Ei v cv lv n w w2:=λb hl h1 h2 h3=>by
 rw[hk b qb (λe=>h3 m hm e.symm)];exact h b hl h1 h2 h3
theorem Ei.keepR(h:Ei v cv lv n w w')(hr:Cr w lo hi v n cl gl xs cv lv):Dk lo hi w w':=λb hb ho=>h b hb (λe=>by have h1:=hr.lt (Or.inl e);omega) (λi hi e=>by have h1:=hr.lt (Or.inr (Or.inl ⟨i,hi,e⟩));omega) (λi hi e=>by have h1:=hr.lt (Or.inr (Or.inr ⟨i,hi,e⟩));omega)

theorem Sy(lo hi g n cap K:X)(cl gl:X→X)(xs:L Z)(cv lv:X→Z)(w:E)(hr:Cr w lo hi (J (p_ g) n cap) n cl gl xs cv lv)(hB:lo≤w.heap.size)(hn:n≤1048576)(pw:∀i,i<n→cl i≤1048576∧gl i≤1048576)(h1:1≤K)(h2:kR cl gl K n≤800000000000000):Calls prog 35 #[(J (p_ g) n cap),I K] w λe w'=>e=H (I ((kR cl gl K n:X):Int))∧Below lo w w'∧Ei (J (p_ g) n cap) cv lv n w w'∧∃ys,Cr w' lo hi (J (p_ g) n cap) n cl gl ys cv lv∧Im w' lo hi K cl gl cv lv n ys:=by
 have yo:lo≤g:=(hr.row.own.lt g rfl).1;have HCL:Hd (∀i,i<n→cl i≤1048576∧gl i≤1048576):=pw;have HKT:Hd (∀i,i≤n→K≤kR cl gl K i∧kR cl gl K i≤800000000000000):=λi hi=>⟨Qe cl gl K 0 i (Nat.zero_le _),Nat.le_trans (Qe cl gl K i n hi) h2⟩;clear pw h2;go_enter func35,ntmps35;go_wp2
 go_loopw [1,5] (λk i wr=>∃(m:X)(ys:L Z),m≤n∧i=I m∧k=I ((kR cl gl K m:X):Int)∧Hd (Cr wr lo hi (J (p_ g) n cap) n cl gl ys cv lv)∧Hd (Im wr lo hi K cl gl cv lv m ys)∧Hd (Ei (J (p_ g) n cap) cv lv n w wr)∧w.heap.size≤wr.heap.size∧Below lo w wr) (λ_ i _=>n-(intOf i).toNat)
 case atStart=>exact⟨0,xs,Nat.zero_le _,rfl,rfl,hr,(λi hi=>by omega:Im w lo hi K cl gl cv lv 0 xs),(λb _ _ _ _=>rfl:Ei (J (p_ g) n cap) cv lv n w w),Nat.le_refl _,Below.refl _ _⟩
 case round=>
  obtain⟨m,ys,hm,rfl,rfl,HR,HM,HK,cz,bc⟩:=hrel;clear hr
  by_cases aj:m<n
  ·obtain⟨cq,io⟩:=HKT.o m hm
   obtain⟨E9,hgm⟩:=HCL.o m aj;have HS:Hd (kR cl gl K (m+1)=kR cl gl K m+3*cl m+3*gl m+1):=rfl;obtain⟨c,ec⟩:=Aj (kR cl gl K m);have HI:Hd (∀(W:E)(zs:L Z),W.ownsRow lo 139 3 (cv m) (cl m) zs→lo≤W.heap.size→Calls prog 62 #[cv m,I (c:Int)] W λe w'=>e=H (I ((c+3*cl m:X):Int))∧Below lo W w'∧Dl (cv m).ownBlock W w'∧∃ys,w'.ownsRow lo 139 3 (cv m) (cl m) ys∧Ya c (cl m) ys):=λW zs h3 h4=>Qa lo (cl m) c (cv m) zs W h3 h4 E9 qb qb;have HG:Hd (∀(W:E)(zs:L Z),W.ownsRow lo 136 3 (lv m) (gl m) zs→lo≤W.heap.size→Calls prog 63 #[lv m,I ((c+3*cl m:X):Int)] W λe w'=>e=H (I ((c+3*cl m+3*gl m:X):Int))∧Below lo W w'∧Dl (lv m).ownBlock W w'∧∃ys,w'.ownsRow lo 136 3 (lv m) (gl m) ys∧MkG (c+3*cl m) (gl m) ys):=λW zs h3 h4=>Sz lo (gl m) (c+3*cl m) (lv m) zs W h3 h4 hgm qb qb;have HT:Hd (∀W:E,Calls prog 38 #[I ((c+3*cl m+3*gl m:X):Int)] W λe w'=>Bw W w'∧e=H (S (mt (c+3*cl m+3*gl m)))):=λW=>Cx (c+3*cl m+3*gl m) W qb qb;rw[ec]at cq io HS ⊢;have HE:Hd (kR cl gl K m=c):=ec;clear ec;have D9:(m:Int)<(n:Int):=qb;have hqb:c+3*cl m+3*gl m+1<1000000000000000:=qb;obtain⟨p,ep⟩:=Aj (c+3*cl m);obtain⟨q,eq⟩:=Aj (p+3*gl m);rw[ep]at HI HG HT HS hqb;rw[eq]at HG HT HS hqb;have HEP:Hd (c+3*cl m=p):=ep;have HEQ:Hd (p+3*gl m=q):=eq;clear ep eq;obtain⟨z0,bo⟩:=HR.o.code m aj;obtain⟨va,vc,ev⟩:=Cn bo;have EV:Hd (cv m=J va (cl m) vc):=ev;obtain⟨z1,bm⟩:=HR.o.look m aj;obtain⟨ua,uc,eu⟩:=Cn bm;have EU:Hd (lv m=J ua (gl m) uc):=eu;have d0:wr.cell? ⟨g,m*3,N⟩=M (J va (cl m) vc):=by rw[HR.o.row.own.cellAt _ qb,HR.o.fst m aj,EV.o]
   have HC:Hd (Calls prog 62 #[J va (cl m) vc,I (c:Int)] wr λe w'=>e=H (I (p:Int))∧Below lo wr w'∧Dl (cv m).ownBlock wr w'∧∃ys,w'.ownsRow lo 139 3 (cv m) (cl m) ys∧Ya c (cl m) ys):=by
    have h:=HI.o wr z0 bo.own qb;rw[EV.o]at h ⊢;exact h
   have HTOP:Hd (∀b,(cv m).ownBlock=M b→b<hi):=bo.top;have HTOP1:Hd (∀b,(lv m).ownBlock=M b→b<hi):=bm.top;clear bo ev bm eu HI;go_wp2_with fail;refine HC.o.mono ?_;rintro e w2 ⟨rfl,ag,hk2',zs,kw,rm⟩;have ht2:Bh w2 lo hi 139 3 (cv m) (cl m) zs:=⟨kw,HTOP.o⟩;have pd:Hd (Cr w2 lo hi (J (p_ g) n cap) n cl gl ys cv lv):=HR.o.markC aj hk2' ht2;have mi:Hd (Im w2 lo hi K cl gl cv lv m ys):=HM.o.markC HR.o aj hk2';have gg:Hd (Ei (J (p_ g) n cap) cv lv n w w2):=HK.o.markC cz aj hk2';have mu:Hd (Bh w2 lo hi 139 3 (cv m) (cl m) zs):=ht2;have HZM:Hd (Ya c (cl m) zs):=rm;have lz:Below lo w w2:=bc.trans ag;have ik:w.heap.size≤w2.heap.size:=zo ag.size;have d1:w2.cell? ⟨g,m*3+1,N⟩=M (J ua (gl m) uc):=by rw[pd.o.row.own.cellAt _ qb,pd.o.snd m aj,EU.o]
   have HC2:Hd (Calls prog 63 #[J ua (gl m) uc,I (p:Int)] w2 λe w'=>e=H (I (q:Int))∧Below lo w2 w'∧Dl (lv m).ownBlock w2 w'∧∃ys,w'.ownsRow lo 136 3 (lv m) (gl m) ys∧MkG p (gl m) ys):=by
    obtain⟨us,hus⟩:=pd.o.look m aj;have h:=HG.o w2 us hus.own qb;rw[EU.o]at h ⊢;exact h
   clear ag hk2' kw rm ht2 bc HR HM HK HC HG d0;go_wp2_with fail;refine HC2.o.mono ?_;rintro e w3 ⟨rfl,au,gv,us,ho3,hm3⟩;have ht3:Bh w3 lo hi 136 3 (lv m) (gl m) us:=⟨ho3,HTOP1.o⟩;have it:Hd (Cr w3 lo hi (J (p_ g) n cap) n cl gl ys cv lv):=pd.o.markL aj gv ht3;have Gt:Hd (Im w3 lo hi K cl gl cv lv m ys):=mi.o.markL pd.o aj gv;have si:Hd (Ei (J (p_ g) n cap) cv lv n w w3):=gg.o.markL ik aj gv
   have HZ3:Hd (Bh w3 lo hi 139 3 (cv m) (cl m) zs):=by
    obtain⟨y0,k0⟩:=pd.o.look m aj;exact mu.o.same λb eb=>gv b (mu.o.own.lt b eb).2 (λe'=>Ra mu.o.own k0.own qd b eb e'.symm)
   have HU3:Hd (Bh w3 lo hi 136 3 (lv m) (gl m) us):=ht3;have HUM:Hd (MkG p (gl m) us):=hm3;have zt:Below lo w w3:=lz.trans au;have ou:w.heap.size≤w3.heap.size:=zo au.size;clear au gv ho3 hm3 ht3 pd mi gg mu HC2 lz d1;go_wp2_with fail;refine(HT.o _).mono ?_;rintro e w4 ⟨ce,rfl⟩;have mx:Hd (Cr w4 lo hi (J (p_ g) n cap) n cl gl ys cv lv):=it.o.bl ce;have HR5:Hd (Cr (w4.setCell ⟨g,m*3+2,N⟩ (S (mt q))) lo hi (J (p_ g) n cap) n cl gl (ys.set (m*3+2) (S (mt q))) cv lv):=mx.o.store m _
   have HM5:Hd (Im (w4.setCell ⟨g,m*3+2,N⟩ (S (mt q))) lo hi K cl gl cv lv (m+1) (ys.set (m*3+2) (S (mt q)))):=by
    have h:=(Gt.o.bl ce).store mx.o aj (HZ3.o.bl ce) (by rw[HE.o];exact HZM.o) (HU3.o.bl ce) (by rw[HE.o,HEP.o];exact HUM.o);rw[HE.o,HEP.o,HEQ.o]at h;exact h
   have HK5:Hd (Ei (J (p_ g) n cap) cv lv n w (w4.setCell ⟨g,m*3+2,N⟩ (S (mt q)))):=(si.o.bl ou ce).set _;have hbw5:Below lo w (w4.setCell ⟨g,m*3+2,N⟩ (S (mt q))):=(zt.trans (ce.mono qb)).setCell (p:=⟨g,m*3+2,N⟩) yo _;(have yg:w.heap.size≤(w4.setCell ⟨g,m*3+2,N⟩ (S (mt q))).heap.size:=by have:=ce.size;simp;omega);have hfr4:=mx.o.row.own.frozenAt;obtain⟨o1,d2⟩:=Br mx.o.row.own (j:=m*3+2) qb;clear ce it Gt si HZ3 HU3 HT zt mx ou ik;generalize mt q=t at *;go_wp2;go_roundw
   case rel=>exact⟨m+1,_,qb,qj,congrArg (Value.int .i64) (by rw[HS.o];omega),HR5.o,HM5.o,HK5.o,yg,hbw5⟩
   case measure=>simp[intOf];omega
  ·exact qmf

theorem Sx(K:X)(w:E)(h2:K≤900000000000000):Calls prog 35 #[nS,I K] w λe w'=>e=H (I (K:Int))∧w=w':=by
 go_enter func35,ntmps35;exact qbe
theorem Sw(lo hi n K:X)(v:Z)(cl gl:X→X)(xs:L Z)(cv lv:X→Z)(w:E)(hr:Cr w lo hi v n cl gl xs cv lv)(hB:lo≤w.heap.size)(hn:n≤1048576)(pw:∀i,i<n→cl i≤1048576∧gl i≤1048576)(h1:1≤K)(h2:kR cl gl K n≤800000000000000):Calls prog 35 #[v,I K] w λe w'=>e=H (I ((kR cl gl K n:X):Int))∧Below lo w w'∧Ei v cv lv n w w'∧∃ys,Cr w' lo hi v n cl gl ys cv lv∧Im w' lo hi K cl gl cv lv n ys:=by
 rcases Cz hr.row.own with⟨rfl,rfl⟩|⟨g,cap,rfl⟩
 ·refine(Sx K w (by simp only[kR]at h2;omega)).mono ?_
  rintro e w' ⟨rfl,rfl⟩;exact⟨rfl,Below.refl _ _,λ_ _ _ _ _=>rfl,xs,hr,λi hi=>qb⟩
 ·exact Sy lo hi g n cap K cl gl xs cv lv w hr hB hn pw h1 h2

theorem Th(lo hi g n cap K:X)(cl gl:X→X)(ys:L Z)(cv lv:X→Z)(w:E)(hr:Cr w lo hi (J (p_ g) n cap) n cl gl ys cv lv)(hm:Im w lo hi K cl gl cv lv n ys)(hn:n≤1048576)(pw:∀i,i<n→cl i≤1048576∧gl i≤1048576)(h1:1≤K)(h2:kR cl gl K n≤800000000000000):Calls prog 64 #[(J (p_ g) n cap),I K] w λe w'=>e=H (I ((kR cl gl K n:X):Int))∧Bw w w':=by
 have HR:Hd (Cr w lo hi (J (p_ g) n cap) n cl gl ys cv lv):=hr;have HM:Hd (Im w lo hi K cl gl cv lv n ys):=hm;have HCL:Hd (∀i,i<n→cl i≤1048576∧gl i≤1048576):=pw;have HKT:Hd (∀i,i≤n→K≤kR cl gl K i∧kR cl gl K i≤800000000000000):=λi hi=>⟨Qe cl gl K 0 i (Nat.zero_le _),Nat.le_trans (Qe cl gl K i n hi) h2⟩;clear hr hm pw h2;go_enter func64,ntmps64;go_wp2
 go_loopw [1,5] (λk i wr=>∃(m:X),m≤n∧i=I m∧k=I ((kR cl gl K m:X):Int)∧Bw w wr) (λ_ i _=>n-(intOf i).toNat)
 case atStart=>exact⟨0,Nat.zero_le _,rfl,rfl,Below.refl _ _⟩
 case round=>
  obtain⟨m,hm,rfl,rfl,bc⟩:=hrel
  by_cases aj:m<n
  ·obtain⟨cq,io⟩:=HKT.o m hm
   obtain⟨E9,hgm⟩:=HCL.o m aj;have HS:Hd (kR cl gl K (m+1)=kR cl gl K m+3*cl m+3*gl m+1):=rfl;obtain⟨x1,⟨zs,x2,x3⟩,us,x4,x5⟩:=(HM.o.bl bc) m aj;have zl:=HR.o.bl bc;obtain⟨c,ec⟩:=Aj (kR cl gl K m);rw[ec]at cq io HS x1 x3 x5 ⊢;obtain⟨va,vc,ev⟩:=Cn x2;obtain⟨ua,uc,eu⟩:=Cn x4;(have c0:wr.cell? ⟨g,m*3,N⟩=M (J va (cl m) vc):=by rw[zl.row.own.cellAt _ qb,zl.fst m aj,ev]);(have c1:wr.cell? ⟨g,m*3+1,N⟩=M (J ua (gl m) uc):=by rw[zl.row.own.cellAt _ qb,zl.snd m aj,eu]);have c2:wr.cell? ⟨g,m*3+2,N⟩=M (S (mt (c+3*cl m+3*gl m))):=by rw[zl.row.own.cellAt _ qb];exact x1
   have HI:Hd (∀(W:E),Bw wr W→Calls prog 89 #[J va (cl m) vc,I (c:Int)] W λe w'=>e=H (I ((c+3*cl m:X):Int))∧Bw W w'):=λW h3=>by
    have h:=Zy lo (cl m) c (cv m) zs W (x2.bl h3).own x3 E9 qb qb;rw[ev]at h;exact h
   have HG:Hd (∀(W:E),Bw wr W→Calls prog 90 #[J ua (gl m) uc,I ((c+3*cl m:X):Int)] W λe w'=>e=H (I ((c+3*cl m+3*gl m:X):Int))∧Bw W w'):=λW h3=>by
    have h:=Ti lo (gl m) (c+3*cl m) (lv m) us W (x4.bl h3).own x5 hgm qb qb;rw[eu]at h;exact h
   have HT:Hd (∀W:E,Calls prog 38 #[I ((c+3*cl m+3*gl m:X):Int)] W λe w'=>Bw W w'∧e=H (S (mt (c+3*cl m+3*gl m)))):=λW=>Cx (c+3*cl m+3*gl m) W qb qb;clear x1 x2 x3 x4 x5 zl ev eu ec;have hqb:c+3*cl m+3*gl m+1<1000000000000000:=qb;obtain⟨p,ep⟩:=Aj (c+3*cl m);obtain⟨q,eq⟩:=Aj (p+3*gl m);rw[ep]at HI HG HT HS hqb c2;rw[eq]at HG HT HS hqb c2;clear ep eq;generalize mt q=t at *;have D9:(m:Int)<(n:Int):=qb;have hm0:(0:Int)≤(m:Int):=qb;have hlp:decide (((p:X):Int)<0)=false:=qg;have hlq:decide (((q:X):Int)<0)=false:=qg;go_wp2_with fail;refine(HI.o wr (Below.refl _ _)).mono ?_;rintro e w2 ⟨rfl,ag⟩;have e1:=Aa ag c1;have e2:=Aa ag c2;clear c0 c1 c2;go_wp2_with fail;refine(HG.o w2 ag).mono ?_;rintro e w3 ⟨rfl,au⟩;have g2:=Aa au e2;have ip:=bt bc (bt ag au);clear e1 e2 ag au;have co:Bw w3 w3.drew:=(Below.refl _ _).drew;go_wp2_with fail
   go_region_held3 (λw'=>w'.cell? ⟨g,m*3+2,N⟩=M (S t))
    (first|assumption|(simp[*];done)|exact Aa ce qq)
    (first|(go_at_call 38;refine(HT.o _).mono ?_;rintro e w4 ⟨ce,rfl⟩))
   all_goals
    have jn:=bt ip (bt co ce);clear g2 ce co;go_wp2;go_roundw
    case rel=>exact⟨m+1,qb,qj,congrArg (Value.int .i64) (by rw[HS.o];omega),jn⟩
    case measure=>simp[intOf];omega
  ·exact qdo

theorem Tg(K:X)(w:E)(h2:K≤900000000000000):Calls prog 64 #[nS,I K] w λe w'=>e=H (I (K:Int))∧w=w':=by
 go_enter func64,ntmps64;exact qbe
theorem Tf(lo hi n K:X)(v:Z)(cl gl:X→X)(ys:L Z)(cv lv:X→Z)(w:E)(hr:Cr w lo hi v n cl gl ys cv lv)(hm:Im w lo hi K cl gl cv lv n ys)(hn:n≤1048576)(pw:∀i,i<n→cl i≤1048576∧gl i≤1048576)(h1:1≤K)(h2:kR cl gl K n≤800000000000000):Calls prog 64 #[v,I K] w λe w'=>e=H (I ((kR cl gl K n:X):Int))∧Bw w w':=by
 rcases Cz hr.row.own with⟨rfl,rfl⟩|⟨g,cap,rfl⟩
 ·refine(Tg K w (by simp only[kR]at h2;omega)).mono ?_
  exact qdp
 ·exact Th lo hi g n cap K cl gl ys cv lv w hr hm hn pw h1 h2

def Vl(w:E)(lo hi K:X)(v1 v2:Z)(n1 n2:X)(cl gl:X→X):Prop:=(∃ys,Bh w lo hi 9 1 v1 n1 ys∧Oe K n1 ys)∧∃ys cv lv,Cr w lo hi v2 n2 cl gl ys cv lv∧Im w lo hi (K+n1) cl gl cv lv n2 ys
theorem Vl.bl{K n1 n2:X}(h:Vl w lo hi K v1 v2 n1 n2 cl gl)(hb:Bw w w'):Vl w' lo hi K v1 v2 n1 n2 cl gl:=by
 obtain⟨⟨ys,h1,h2⟩,zs,cv,lv,h3,h4⟩:=h;exact⟨⟨ys,h1.bl hb,h2⟩,zs,cv,lv,h3.bl hb,h4.bl hb⟩

theorem Ot(wd:Int)(lo hi n1 n2 K:X)(v1 v2:Z)(cl gl:X→X)(xs zs:L Z)(cv lv:X→Z)(w:E)(h1:Bh w lo hi 9 1 v1 n1 xs)(h2:Cr w lo hi v2 n2 cl gl zs cv lv)(hB:lo≤w.heap.size)(J9:n1≤1048576)(Y0:n2≤1048576)(pw:∀i,i<n2→cl i≤1048576∧gl i≤1048576)(hK:1≤K)(U7:kR cl gl (K+n1) n2≤800000000000000):Calls prog 16 #[G #[I wd,v1,v2],I K] w λe w'=>e=H (I ((kR cl gl (K+n1) n2:X):Int))∧Below lo w w'∧Dk lo hi w w'∧Keep9 v1 w w'∧Vl w' lo hi K v1 v2 n1 n2 cl gl:=by
 have hK3:K+n1≤800000000000000:=Nat.le_trans (Qe cl gl (K+n1) 0 n2 (Nat.zero_le _)) U7;obtain⟨va,vc,rfl⟩:=Cn h1;obtain⟨vb,vd,rfl⟩:=Cn h2.row;have ak:Bw w (w.alloc (O #[I wd,J va n1 vc,J vb n2 vd] 35)):=aN _ _;have k1:(w.alloc (O #[I wd,J va n1 vc,J vb n2 vd] 35)).cell? ⟨w.heap.size,2,N⟩=M (J vb n2 vd):=qk;have hw0:(w.alloc (O #[I wd,J va n1 vc,J vb n2 vd] 35)).heap.size=w.heap.size+1:=qg;have xk:Hd (Cr (w.alloc (O #[I wd,J va n1 vc,J vb n2 vd] 35)) lo hi (J vb n2 vd) n2 cl gl zs cv lv):=h2.bl ak;have h10:=h1.bl ak;have hne:(Value.slice va n1 vc).ownBlock≠M w.heap.size:=λe=>by have:=(h1.own.lt _ e).2;omega
 have HC:Hd (∀W:E,Cr W lo hi (J vb n2 vd) n2 cl gl zs cv lv→lo≤W.heap.size→Calls prog 35 #[J vb n2 vd,I ((K+n1:X):Int)] W λe w'=>e=H (I ((kR cl gl (K+n1) n2:X):Int))∧Below lo W w'∧Ei (J vb n2 vd) cv lv n2 W w'∧∃ys,Cr w' lo hi (J vb n2 vd) n2 cl gl ys cv lv∧Im w' lo hi (K+n1) cl gl cv lv n2 ys):=λW h3 h4=>Sw lo hi n2 (K+n1) _ cl gl zs cv lv W h3 h4 Y0 pw qb U7;clear U7 h2 h1 pw;go_enter func16,ntmps16;go_wp2_with fail;refine(Fa lo hi n1 K _ xs _ h10 qb J9 hK qb).mono ?_;rintro e w1 ⟨rfl,af,cq,ys,my,we⟩;have bj:Below lo w w1:=(ak.mono hB).trans af;have fm:w.heap.size+1≤w1.heap.size:=zo af.size
 have c1:w1.cell? ⟨w.heap.size,2,N⟩=M (J vb n2 vd):=by
  exact qmv
 have je:Hd (Cr w1 lo hi (J vb n2 vd) n2 cl gl zs cv lv):=xk.o.keepO h10.own cq qd qd qd;have fa:Hd (Dk lo hi w w1):=(Dk.of_below ak).trans ak.size (cq.keepR λb e=>⟨(h10.own.lt b e).1,h10.top b e⟩);have HK91:Hd (Keep9 (J va n1 vc) w w1):=λb cs h ne=>by rw[cq b (zo (Ag h)) (λe=>ne e.symm),Lib.alloc_old _ _ _ (Ag h)];exact h
 have ir:Hd (Bh w1 lo hi 9 1 (J va n1 vc) n1 ys):=my;have A5:Hd (Oe K n1 ys):=we;clear ak af cq my we k1 xk h10 hne hw0;go_wp2_with fail;refine(HC.o w1 je.o qb).mono ?_;rintro e w2 ⟨rfl,ag,io,ys2,nr,rm⟩;have bg:Below lo w w2:=bj.trans ag;have gg:Hd (Dk lo hi w w2):=fa.o.trans qb (io.keepR je.o)
 have HK92:Hd (Keep9 (J va n1 vc) w w2):=λb cs h ne=>by
  have h1:=HK91.o b cs h ne;rw[io b (Ag h1) (Ae je.o.row.own qd h1) (λi hi=>by obtain⟨zz,hz⟩:=je.o.code i hi;exact Ae hz.own qd h1) (λi hi=>by obtain⟨zz,hz⟩:=je.o.look i hi;exact Ae hz.own qd h1)];exact h1
 have HP:Hd (Vl w2 lo hi K (J va n1 vc) (J vb n2 vd) n1 n2 cl gl):=⟨⟨ys,ir.o.same λb e=>io b (ir.o.own.lt b e).2 (λe'=>Ra je.o.row.own ir.o.own qd b e' e) (λi hi e'=>by obtain⟨zz,hz⟩:=je.o.code i hi;exact Ra hz.own ir.o.own qd b e' e) (λi hi e'=>by obtain⟨zz,hz⟩:=je.o.look i hi;exact Ra hz.own ir.o.own qd b e' e),A5.o⟩,ys2,cv,lv,nr,rm⟩;clear ag io nr rm je fa ir A5 HC c1;go_wp2;go_ret;exact⟨rfl,bg,gg.o,HK92.o,HP.o⟩

theorem Wn(wd:Int)(lo hi n1 n2 K:X)(v1 v2:Z)(cl gl:X→X)(w:E)(hm:Vl w lo hi K v1 v2 n1 n2 cl gl)(J9:n1≤1048576)(Y0:n2≤1048576)(pw:∀i,i<n2→cl i≤1048576∧gl i≤1048576)(hK:1≤K)(U7:kR cl gl (K+n1) n2≤800000000000000):Calls prog 40 #[G #[I wd,v1,v2],I K] w λe w'=>e=H (I ((kR cl gl (K+n1) n2:X):Int))∧Bw w w':=by
 have hK3:K+n1≤800000000000000:=Nat.le_trans (Qe cl gl (K+n1) 0 n2 (Nat.zero_le _)) U7;obtain⟨⟨ys,h1,h2⟩,zs,cv,lv,h3,h4⟩:=hm;obtain⟨va,vc,rfl⟩:=Cn h1;obtain⟨vb,vd,rfl⟩:=Cn h3.row;have ak:Bw w (w.alloc (O #[I wd,J va n1 vc,J vb n2 vd] 35)):=aN _ _;have k1:(w.alloc (O #[I wd,J va n1 vc,J vb n2 vd] 35)).cell? ⟨w.heap.size,2,N⟩=M (J vb n2 vd):=qk;have HC:Hd (∀W:E,Bw w W→Calls prog 64 #[J vb n2 vd,I ((K+n1:X):Int)] W λe w'=>e=H (I ((kR cl gl (K+n1) n2:X):Int))∧Bw W w'):=λW hW=>Tf lo hi n2 (K+n1) _ cl gl zs cv lv W (h3.bl hW) (h4.bl hW) Y0 pw qb U7;have ww:decide (((K+n1:X):Int)<0)=false:=qh;have K8:decide (((kR cl gl (K+n1) n2:X):Int)<0)=false:=qg;have R6:Hd (decide (((kR cl gl (K+n1) n2:X):Int)<0)=false):=K8;generalize kR cl gl (K+n1) n2=q at *;clear h3 h4 pw K8;go_enter func40,ntmps40;go_wp2_with fail;refine(Gq lo hi n1 K _ ys _ (h1.bl ak) h2 J9 hK qb).mono ?_;rintro e w1 ⟨rfl,af⟩;have bj:=bt ak af;have c1:=Aa af k1;clear ak af k1 h1 h2;go_wp2_with fail;refine(HC.o w1 bj).mono ?_;rintro e w2 ⟨rfl,ag⟩;have bg:=bt bj ag;have K8:=R6.o;clear ag bj c1 HC ww;go_wp2;go_ret;exact⟨rfl,bg⟩

/-! ### of owned stores -/
theorem Ud(a:Option Addr)(cap:X)(is:L T3)(lft:Int)(w:E)(hf0:0≤lft)(E7:lft≤1048576)(hc:Lc w a is)(hk:QsOk is):Calls prog 21 #[J a is.length cap,I lft] w λe w'=>Bw w w'∧∃r:Int,e=H (I r)∧(r<0∨(0≤r∧r≤lft∧En is)):=by
 have K9:=hk.lr;unfold maxLen at K9;have sj:Hd (QsOk is):=hk;clear hk
 by_cases h0:(is.length:Int)≤lft
 ·go_enter func21,ntmps21
  go_wp2
  go_loopw [1,5] (λl i wr=>∃k:X,∃q:Int,k≤is.length∧i=I k∧l=I q∧0≤q∧q≤lft∧Bw w wr∧Hd (∀i,i<k→(qx is i).code.length≤1048576∧(qx is i).looks.length≤1048576)) (λ_ i _=>is.length-(intOf i).toNat)
  case atStart=>exact⟨0,_,Nat.zero_le _,rfl,rfl,qb,qb,Below.refl _ _,(λi hi=>by omega:∀i,i<0→(qx is i).code.length≤1048576∧(qx is i).looks.length≤1048576)⟩
  case round=>
   obtain⟨k,q,hk,rfl,rfl,hq0,l7,bc,HK⟩:=hrel
   by_cases aj:k<is.length
   ·obtain⟨b,off,rfl,ca,cc,la,lc,c1,c2,c3,c4,c5⟩:=(hc.bl bc) k aj
    have fw:Xz wr ca (qx is k).code la (qx is k).looks (qx is k).out:=⟨c4,c5,sj.o.lc k,sj.o.lg k,sj.o.xc k,sj.o.ng k,sj.o.sg k,sj.o.so k⟩;clear hc c4 c5;obtain⟨i,ei⟩:=Aj (qx is k);rw[ei]at c1 c2 c3 fw;have EI:Hd (qx is k=i):=ei;clear ei;go_wp2_with fail;refine(Wa ca la cc lc i.code i.looks i.out q qb qb _ fw).mono ?_;exact qil
   ·exact qld
 ·go_enter func21,ntmps21
  exact qfy

theorem Ym(n:Int)(ta ra:Option Addr)(tc rc:X)(ts:L By)(rs:L T3)(AL:Int)(hL0:0≤AL)(hL1:AL≤1048576)(w:E)(h:Wv w ta ts ra rs):Calls prog 4 #[G #[I n,J ta ts.length tc,J ra rs.length rc],I AL] w λe w'=>Bw w w'∧∃r:Int,e=H (I r)∧(r<0∨(0≤r∧r≤1048576∧ts.length≤1048576∧En rs)):=by
 have ak:Bw w (w.alloc (O #[I n,J ta ts.length tc,J ra rs.length rc] 25)):=aN _ _;have k2:(w.alloc (O #[I n,J ta ts.length tc,J ra rs.length rc] 25)).cell? ⟨w.heap.size,2,N⟩=M (J ra rs.length rc):=qk;have HO:Hd (Wv w ta ts ra rs):=h;clear h;go_enter func4,ntmps4;go_wp2_with fail;refine(Ol ta tc ts _ (HO.o.st.bl ak) HO.o.lt HO.o.xt AL qb qb).mono ?_;rintro e w1 ⟨rfl,r,rfl,hr⟩
 rcases hr with hr|⟨h1,B3,my⟩
 ·go_wp2
  go_ret;exact⟨ak,-1,rfl,Or.inl qb⟩
 ·have aj:ts.length≤1048576:=qb
  go_wp2_with fail;refine(Ud ra rc rs r _ B3 qb (HO.o.rq.bl ak) HO.o.ok).mono ?_;rintro e w2 ⟨ag,r2,rfl,nr⟩;have bg:=bt ak ag;clear ak ag k2
  rcases nr with nr|⟨nr,wv,hq⟩
  ·exact qdq
  ·have HQ:Hd (En rs):=hq
   clear hq;go_wp2;go_ret;exact⟨bg,r2,rfl,Or.inr ⟨qb,qb,aj,HQ.o⟩⟩
theorem Vz(a:Option Addr)(cap:X)(is:L G3)(w:E)(hc:Gk w a is)(hl:is.length≤1048576):Calls prog 72 #[J a is.length cap] w λe w'=>Bw w w'∧∃g:X,e=H (J (p_ g) is.length is.length)∧∃xs,w'.ownsRow w.heap.size 136 3 (J (p_ g) is.length is.length) is.length xs∧Bn is is.length xs:=by
 obtain⟨z0,hi,bo,bm,cm⟩:=info_parts Tryz.info136;go_enter func72,ntmps72
 go_wp2_with (first|(at_make;refine wpList_make_full _ rfl (.tmp 6) (.tmp 6) 93 rfl w.heap.size 136 z0 (G #[S ByteArray.empty,F false,S ByteArray.empty]) 3 underlying93 hi bo bm .i64 .i64 _ _ is.length rfl rfl rfl rfl qao qm (Nat.le_refl _) ?_;intro w1 ah ae))
 have ge:Bw w w1:=(Below.refl _ _).grown ae (Nat.le_refl _) qg;clear ae
 go_loopw [4] (λi wr=>∃k:X,∃xs:L Z,k≤is.length∧i=I k∧wr.ownsRow w.heap.size 136 3 (J (p_ w.heap.size) is.length is.length) is.length xs∧Bn is k xs∧Bw w wr) (λi _=>is.length-(intOf i).toNat)
 case atStart=>exact⟨0,_,Nat.zero_le _,rfl,ah,λi hi=>qb,ge⟩
 case round=>
  obtain⟨k,xs,hk,rfl,ah,T7,am⟩:=hrel
  by_cases aj:k<is.length
  ·obtain⟨b,off,rfl,c1,c2,c3⟩:=(hc.bl am) k aj
   have ut:=filledG_set T7 (show k*3+2<xs.length from qcz);generalize gx is k=i at *;clear ge hc T7;go_wp2_with fail;refine(Yi i _).mono ?_;rintro e w2 ⟨ag,rfl⟩;have aq:=Ac ah ag;have lz:Bw w w2:=am.trans (ag.mono am.size);have ci:=aq.frozenAt;obtain⟨o1,d1⟩:=Br aq (j:=k*3) qb;obtain⟨o2,d2⟩:=Br aq (j:=k*3+1) qb;obtain⟨o3,d3⟩:=Br aq (j:=k*3+2) qb;have HO:Hd (w2.ownsRow w.heap.size 136 3 (J (p_ w.heap.size) is.length is.length) is.length xs):=aq;exact qiz
  ·exact qfr

theorem Yh(a la:Option Addr)(cap lc:X)(is:L I3)(gs:L G3)(out:By)(w:E)(rc:Ch w a is)(rg:Gk w la gs)(h1:is.length≤1048576)(h2:gs.length≤1048576):Calls prog 52 #[G #[J a is.length cap,J la gs.length lc,S out]] w λe w'=>Bw w w'∧∃g1 g2:X,e=H (G #[J (p_ g1) is.length is.length,J (p_ g2) gs.length gs.length,S out])∧(∃ys,w'.ownsRow w.heap.size 139 3 (J (p_ g1) is.length is.length) is.length ys∧Ct is is.length ys)∧∃zs,w'.ownsRow w.heap.size 136 3 (J (p_ g2) gs.length gs.length) gs.length zs∧Bn gs gs.length zs:=by
 go_enter func52,ntmps52;go_wp2_with fail;have ak:Bw w (((w.alloc (O #[J a is.length cap,J la gs.length lc,S out] 80)).alloc (O #[nS,nS,ze] 95)).alloc (O #[nS,nS,ze] 95)):=((aN _ _).alloc qg _).alloc qh _;refine(Oj a cap is _ (rc.bl ak) h1).mono ?_;rintro e w1 ⟨af,g,rfl,ys,hr,zr⟩;have hg:=(hr.lt g rfl).1;simp at hg;have hb:Bw w w1:=ak.trans (af.mono ak.size);have hz:=af.size;simp at hz;have c01:w1.cell? ⟨w.heap.size,1,N⟩=M (J la gs.length lc):=Aa af qk;have c02:w1.cell? ⟨w.heap.size,2,N⟩=M (S out):=Aa af qk;have Mi:w1.cell? ⟨w.heap.size+1,0,N⟩=M nS:=Aa af qk;have vf:w1.cell? ⟨w.heap.size+1,1,N⟩=M nS:=Aa af qk;have c12:w1.cell? ⟨w.heap.size+1,2,N⟩=M ze:=Aa af qk;have c20:w1.cell? ⟨w.heap.size+1+1,0,N⟩=M nS:=Aa af qk;have c21:w1.cell? ⟨w.heap.size+1+1,1,N⟩=M nS:=Aa af qk;have c22:w1.cell? ⟨w.heap.size+1+1,2,N⟩=M ze:=Aa af qk;have f1:∀j,w1.frozen? ⟨w.heap.size+1,j,N⟩=false:=λj=>by rw[af.frozen (p:=⟨w.heap.size+1,j,N⟩) qg];simp[go_sem]
 have f2:∀j,w1.frozen? ⟨w.heap.size+1+1,j,N⟩=false:=λj=>by rw[af.frozen (p:=⟨w.heap.size+1+1,j,N⟩) qg];simp[go_sem]
 clear ak af;go_wp2_with fail;have mo:Bw w (w1.setCell ⟨w.heap.size+1+1,0,N⟩ (J (p_ g) is.length is.length)):=hb.setCell (p:=⟨w.heap.size+1+1,0,N⟩) qh _;refine(Vz la lc gs _ (rg.bl mo) h2).mono ?_;rintro e w2 ⟨ag,g2,rfl,zs,nr,hfz⟩;have wz:=(nr.lt g2 rfl).1;have au:Bw w w2:=mo.trans (ag.mono mo.size);have hrs:=Ac (Dd (Ah hr (B':=w.heap.size) qh) (b:=w.heap.size+1+1) (j:=0) qb (J (p_ g) is.length is.length)) ag;have cm:=ag.size;simp at cm;simp at wz;have d02:w2.cell? ⟨w.heap.size,2,N⟩=M (S out):=Aa ag (by simp[go_sem,c02]);have d10:w2.cell? ⟨w.heap.size+1,0,N⟩=M nS:=Aa ag (by simp[go_sem,Mi]);have d11:w2.cell? ⟨w.heap.size+1,1,N⟩=M nS:=Aa ag (by simp[go_sem,vf]);have d12:w2.cell? ⟨w.heap.size+1,2,N⟩=M ze:=Aa ag (by simp[go_sem,c12]);have d20:w2.cell? ⟨w.heap.size+1+1,0,N⟩=M (J (p_ g) is.length is.length):=Aa ag (by simp[go_sem,c20]);have d21:w2.cell? ⟨w.heap.size+1+1,1,N⟩=M nS:=Aa ag (by simp[go_sem,c21]);have d22:w2.cell? ⟨w.heap.size+1+1,2,N⟩=M ze:=Aa ag (by simp[go_sem,c22]);have e1:∀j,w2.frozen? ⟨w.heap.size+1,j,N⟩=false:=λj=>by rw[ag.frozen (p:=⟨w.heap.size+1,j,N⟩) qh];simp[go_sem,f1]
 have e2:∀j,w2.frozen? ⟨w.heap.size+1+1,j,N⟩=false:=λj=>by rw[ag.frozen (p:=⟨w.heap.size+1+1,j,N⟩) qh];simp[go_sem,f2]
 clear ag mo hb c01 c02 Mi vf c12 c20 c21 c22 f1 f2 hr;go_wp2;refine bR (v:=G #[J (p_ g) is.length is.length,J (p_ g2) gs.length gs.length,S out]) (by simp[results,results52,go_sem,d10,d11,d12]) rfl ⟨?_,g,g2,rfl,⟨ys,?_,zr⟩,zs,?_,hfz⟩
 ·exact((((au.setCell (p:=⟨w.heap.size+1+1,1,N⟩) qh _).setCell (p:=⟨w.heap.size+1+1,2,N⟩) qh _).setCell (p:=⟨w.heap.size+1,0,N⟩) qg _).setCell (p:=⟨w.heap.size+1,1,N⟩) qg _).setCell (p:=⟨w.heap.size+1,2,N⟩) qg _
 ·exact Dd (Dd (Dd (Dd (Dd hrs qb _) qb _) qb _) qb _) qb _
 ·exact Dd (Dd (Dd (Dd (Dd (Ah nr qh) qb _) qb _) qb _) qb _) qb _

theorem Ek.own1(h:Ek w lo' is is.length xs cv lv)(hr:w.ownsRow lo 95 3 v is.length xs)(hl:lo≤lo')(hh:w.heap.size≤hi):Kv w lo hi v is xs cv lv:=
 ⟨⟨hr,λb e=>by have:=(hr.lt b e).2;omega⟩,h.fil,λi hi=>by
  obtain⟨ys,h1,h2⟩:=h.code i hi
  exact⟨ys,⟨Ah h1 hl,λb e=>by have:=(h1.lt b e).2;omega⟩,h2⟩,λi hi=>by
  obtain⟨ys,h1,h2⟩:=h.look i hi;exact⟨ys,⟨Ah h1 hl,λb e=>by have:=(h1.lt b e).2;omega⟩,h2⟩,h.apc,h.apl,h.som⟩
def SomC(is:L T3)(cv:X→Z)(k:X):Prop:=∀i,i<k→∃g cap,cv i=J (p_ g) (qx is i).code.length cap
theorem SomC.add{k:X}(h:SomC is cv k){c:Z}(hc:∃g cp,c=J (p_ g) (qx is k).code.length cp):SomC is (λi=>if i=k then c else cv i) (k+1):=λi hi=>by
 by_cases e:i=k
 ·subst e;show ∃g cap,(if i=i then c else cv i)=_;rw[if_pos rfl];exact hc
 ·show ∃g cap,(if i=k then c else cv i)=_;rw[if_neg e];exact h i qb
def Hs(w:E)(lo hi:X)(v:Z)(rs:L T3):Prop:=∃xs cv lv,Kv w lo hi v rs xs cv lv∧SomC rs cv rs.length
theorem Hs.bl(h:Hs w lo hi v rs)(hb:Bw w w'):Hs w' lo hi v rs:=by obtain⟨xs,cv,lv,h,k⟩:=h;exact⟨xs,cv,lv,h.bl hb,k⟩
theorem Hs.keep(h:Hs w lo hi v rs)(hk:Dk lo' hi' w w')(hd:hi≤lo'∨hi'≤lo):Hs w' lo hi v rs:=by obtain⟨xs,cv,lv,h,k⟩:=h;exact⟨xs,cv,lv,h.keep hk hd,k⟩
theorem Hs.wide(h:Hs w lo hi v rs)(h1:lo'≤lo)(h2:hi≤hi'):Hs w lo' hi' v rs:=by obtain⟨xs,cv,lv,h,k⟩:=h;exact⟨xs,cv,lv,h.wide h1 h2,k⟩
theorem Hs.set(h:Hs w lo hi v rs)(hb:b<lo)(u:Z):Hs (w.setCell ⟨b,j,N⟩ u) lo hi v rs:=h.keep (Dk.set (lo:=b) (hi:=b+1) (Nat.le_refl _) (Nat.lt_succ_self _) j u) (Or.inr hb)
theorem Hs.sl(h:Hs w lo hi v rs):∃a cap,v=J a rs.length cap∧Rk w a rs∧Rl w a rs:=by
 obtain⟨xs,cv,lv,h,sc⟩:=h;have gt:=h.row.own
 rcases Cz h.row.own with⟨rfl,h0⟩|⟨g,cap,rfl⟩
 ·exact⟨N,0,by rw[h0],λi hi=>qb,λi hi=>qb⟩
 ·have key:∀i,i<rs.length→∃cg cc lg lc ys zs,w.cell? ⟨g,0+i*3,N⟩=M (J (p_ cg) (qx rs i).code.length cc)∧w.cell? ⟨g,0+i*3+1,N⟩=M (J (p_ lg) (qx rs i).looks.length lc)∧w.cell? ⟨g,0+i*3+2,N⟩=M (S (qx rs i).out)∧Ch w (p_ cg) (qx rs i).code∧Gk w (p_ lg) (qx rs i).looks∧w.ownsRow lo 136 3 (J (p_ lg) (qx rs i).looks.length lc) (qx rs i).looks.length zs∧Bn (qx rs i).looks (qx rs i).looks.length zs∧ys=zs:=λi hi=>by
   obtain⟨f1,f2,f3⟩:=h.fil i hi;obtain⟨ys,k1,k2⟩:=h.code i hi;obtain⟨zs,j1,j2⟩:=h.look i hi;obtain⟨cg,cc,e1⟩:=sc i hi;obtain⟨lg,lc,e2⟩:=h.som i hi;obtain⟨a1,p1,q1,r1⟩:=Qw k1 k2;obtain⟨a2,p2,q2,r2⟩:=Xf j1 j2;rw[e1]at q1 f1;rw[e2]at q2 f2 j1;cases q1;cases q2;refine⟨cg,cc,lg,lc,zs,zs,?_,?_,?_,r1,r2,j1.own,j2,rfl⟩
   ·rw[Nat.zero_add,h.row.own.cellAt _ qb,f1]
   ·rw[Nat.zero_add,h.row.own.cellAt _ qb,f2]
   ·rw[Nat.zero_add,h.row.own.cellAt _ qb,f3]
  refine⟨_,cap,rfl,λi hi=>?_,λi hi=>?_⟩
  ·obtain⟨cg,cc,lg,lc,ys,zs,c1,c2,c3,r1,r2,_⟩:=key i hi
   exact⟨g,0,rfl,cg,0,cc,lg,0,lc,c1,c2,c3,r1,r2⟩
  ·obtain⟨cg,cc,lg,lc,ys,zs,c1,c2,c3,r1,r2,o,f,_⟩:=key i hi
   exact⟨g,0,rfl,_,cc,_,lc,lo,zs,c1,c2,c3,r1,Or.inr ⟨cg,0,rfl⟩,o,f⟩
theorem Vy(a:Option Addr)(cap:X)(is:L T3)(w:E)(hc:Lc w a is)(hk:En is):Calls prog 28 #[J a is.length cap] w λe w'=>Bw w w'∧∃g:X,e=H (J (p_ g) is.length is.length)∧Hs w' w.heap.size w'.heap.size (J (p_ g) is.length is.length) is:=by
 obtain⟨z0,hi,bo,bm,cm⟩:=info_parts Tryz.info95;have hl:=hk.1;have HK:Hd (∀i,i<is.length→(qx is i).code.length≤1048576∧(qx is i).looks.length≤1048576):=hk.2;clear hk;go_enter func28,ntmps28
 go_wp2_with (first|(at_make;refine wpList_make_full _ rfl (.tmp 6) (.tmp 6) 33 rfl w.heap.size 95 z0 (G #[nS,nS,S ByteArray.empty]) 3 underlying33 hi bo bm .i64 .i64 _ _ is.length rfl rfl rfl rfl qao qm (Nat.le_refl _) ?_;intro w1 ah ae))
 have ge:Bw w w1:=(Below.refl _ _).grown ae (Nat.le_refl _) qg;clear ae
 go_loopw [4] (λi wr=>∃(k:X)(xs:L Z)(cv lv:X→Z),k≤is.length∧i=I k∧wr.ownsRow w.heap.size 95 3 (J (p_ w.heap.size) is.length is.length) is.length xs∧Hd (Ek wr (w.heap.size+1) is k xs cv lv)∧Hd (SomC is cv k)∧Bw w wr) (λi _=>is.length-(intOf i).toNat)
 case atStart=>exact⟨0,_,_,_,Nat.zero_le _,rfl,ah,Ek.zero _ _ _ _,(λi hi=>by omega:SomC is _ 0),ge⟩
 case round=>
  obtain⟨k,xs,cv,lv,hk,rfl,ah,HP,tj,am⟩:=hrel
  by_cases aj:k<is.length
  ·obtain⟨b,off,rfl,ca,cc,la,lc,c1,c2,c3,c4,c5⟩:=(hc.bl am) k aj
   have B5:=HK.o k aj;have K5:k*3+2<xs.length:=qcz;have hgl:w.heap.size<wr.heap.size:=(ah.lt _ rfl).2;have HF:Hd (∀(W:E)(c d:Z)(ys zs:L Z),Bw wr W→W.ownsRow wr.heap.size 139 3 c (qx is k).code.length ys→Ct (qx is k).code (qx is k).code.length ys→W.ownsRow wr.heap.size 136 3 d (qx is k).looks.length zs→Bn (qx is k).looks (qx is k).looks.length zs→(∃g cap,d=J (p_ g) (qx is k).looks.length cap)→Ek W (w.heap.size+1) is (k+1) (((xs.set (k*3) c).set (k*3+1) d).set (k*3+2) (S (qx is k).out)) (λi=>if i=k then c else cv i) (λi=>if i=k then d else lv i)):=λW c d ys zs h1 h2 h3 h4 h5 h6=>HP.o.add (λb _ hl=>Or.inl (h1.block b hl)) hgl h2 h3 h4 h5 h6 (λj hj=>set3_old _ _ _ hj) (set3_0 _ _ _ K5) (set3_1 _ _ _ K5) (set3_2 _ _ _ K5);have sd:Hd (∀c,(∃g cp,c=J (p_ g) (qx is k).code.length cp)→SomC is (λi=>if i=k then c else cv i) (k+1)):=λc hc=>tj.o.add hc;clear tj;generalize qx is k=i at *;have C4:Hd (Ch wr ca i.code):=c4;have C5:Hd (Gk wr la i.looks):=c5;clear ge hc c4 c5;go_wp2_with fail;refine(Yh ca la cc lc i.code i.looks i.out _ C4.o C5.o B5.1 B5.2).mono ?_;rintro e w2 ⟨ag,g1,g2,rfl,⟨ys,my,zr⟩,zs,nr,hfz⟩;have aq:=Ac ah ag;have lz:Bw w w2:=am.trans (ag.mono am.size);have ci:=aq.frozenAt;have ut:=(((HF.o w2 _ _ ys zs ag my zr nr hfz ⟨_,_,rfl⟩).set (b:=w.heap.size) (j:=k*3) (Nat.lt_succ_self _) (J (p_ g1) i.code.length i.code.length)).set (b:=w.heap.size) (j:=k*3+1) (Nat.lt_succ_self _) (J (p_ g2) i.looks.length i.looks.length)).set (b:=w.heap.size) (j:=k*3+2) (Nat.lt_succ_self _) (S i.out);obtain⟨o1,d1⟩:=Br aq (j:=k*3) qb;obtain⟨o2,d2⟩:=Br aq (j:=k*3+1) qb;obtain⟨o3,d3⟩:=Br aq (j:=k*3+2) qb;have HO:Hd (w2.ownsRow w.heap.size 95 3 (J (p_ w.heap.size) is.length is.length) is.length xs):=aq;have fy:Hd _:=ut;clear ah aq ag am ut HP HF my nr zr hfz;go_wp2;go_roundw
   case rel=>exact⟨k+1,_,_,_,qb,qj,(((HO.o.stored _ _).1.stored _ _).1.stored _ _).1,fy.o,sd.o _ ⟨_,_,rfl⟩,((lz.setCell (Nat.le_refl _) _).setCell (Nat.le_refl _) _).setCell (Nat.le_refl _) _⟩
   case measure=>simp[intOf];omega
  ·have ek:k=is.length:=qb
   subst ek;go_wp2;go_ret;exact⟨am,_,rfl,_,_,_,HP.o.own1 ah (Nat.le_succ _) (Nat.le_refl _),tj.o⟩

theorem Mt(n:Int)(ta ra:Option Addr)(tc rc:X)(ts:L By)(rs:L T3)(w:E)(st:Ca w ta ts)(rq:Lc w ra rs)(hl:ts.length≤1048576)(hq:En rs):Calls prog 8 #[G #[I n,J ta ts.length tc,J ra rs.length rc]] w λe w'=>Bw w w'∧∃(g1:X)(v2:Z),e=H (G #[I n,J (p_ g1) ts.length ts.length,v2])∧De w' w.heap.size w'.heap.size (J (p_ g1) ts.length ts.length) ts∧Hs w' w.heap.size w'.heap.size v2 rs:=by
 have fc:Hd (Ca w ta ts):=st;have HRQ:Hd (Lc w ra rs):=rq;have HQS:Hd (En rs):=hq;clear st rq hq;go_enter func8,ntmps8;go_wp2_with fail;have ak:Bw w (((w.alloc (O #[I n,J ta ts.length tc,J ra rs.length rc] 25)).alloc (O #[I 0,nS,nS] 35)).alloc (O #[I n,nS,nS] 35)):=((aN _ _).alloc qg _).alloc qh _;refine(Oi ta tc ts _ (fc.o.bl ak) hl).mono ?_;rintro e w1 ⟨af,g,rfl,hr⟩;have hg:=(hr.lt g rfl).1;simp at hg;rw[Pc]at hr;have ir:Hd (De w1 (w.heap.size+1+1+1) w1.heap.size (J (p_ g) ts.length ts.length) ts):=Bh.new (Ah hr qg);have hb:Bw w w1:=ak.trans (af.mono ak.size);have hz:=af.size;simp at hz;have c02:w1.cell? ⟨w.heap.size,2,N⟩=M (J ra rs.length rc):=Aa af qk;have Mi:w1.cell? ⟨w.heap.size+1,0,N⟩=M (I 0):=Aa af qk;have vf:w1.cell? ⟨w.heap.size+1,1,N⟩=M nS:=Aa af qk;have c12:w1.cell? ⟨w.heap.size+1,2,N⟩=M nS:=Aa af qk;have c20:w1.cell? ⟨w.heap.size+1+1,0,N⟩=M (I n):=Aa af qk;have c21:w1.cell? ⟨w.heap.size+1+1,1,N⟩=M nS:=Aa af qk;have c22:w1.cell? ⟨w.heap.size+1+1,2,N⟩=M nS:=Aa af qk;have f1:∀j,w1.frozen? ⟨w.heap.size+1,j,N⟩=false:=λj=>by rw[af.frozen (p:=⟨w.heap.size+1,j,N⟩) qg];simp[go_sem]
 have f2:∀j,w1.frozen? ⟨w.heap.size+1+1,j,N⟩=false:=λj=>by rw[af.frozen (p:=⟨w.heap.size+1+1,j,N⟩) qg];simp[go_sem]
 clear ak af;go_wp2_with fail;have mo:Bw w (w1.setCell ⟨w.heap.size+1+1,1,N⟩ (J (p_ g) ts.length ts.length)):=hb.setCell (p:=⟨w.heap.size+1+1,1,N⟩) qh _;refine(Vy ra rc rs _ (HRQ.o.bl mo) HQS.o).mono ?_;rintro e w2 ⟨ag,g2,rfl,nr⟩;have au:Bw w w2:=mo.trans (ag.mono mo.size);have cu:Hd (De w2 (w.heap.size+1+1+1) w1.heap.size (J (p_ g) ts.length ts.length) ts):=(ir.o.set (j:=1) (show w.heap.size+1+1<w.heap.size+1+1+1 from qb) _).bl ag;have cm:=ag.size;simp at cm;have HT2:Hd (Hs w2 (w.heap.size+1+1+1) w2.heap.size (J (p_ g2) rs.length rs.length) rs):=nr.wide qh (Nat.le_refl _);have hs12:w1.heap.size≤w2.heap.size:=by simpa using ag.size
 have d10:w2.cell? ⟨w.heap.size+1,0,N⟩=M (I 0):=Aa ag (by simp[go_sem,Mi]);have d11:w2.cell? ⟨w.heap.size+1,1,N⟩=M nS:=Aa ag (by simp[go_sem,vf]);have d12:w2.cell? ⟨w.heap.size+1,2,N⟩=M nS:=Aa ag (by simp[go_sem,c12]);have d20:w2.cell? ⟨w.heap.size+1+1,0,N⟩=M (I n):=Aa ag (by simp[go_sem,c20]);have d21:w2.cell? ⟨w.heap.size+1+1,1,N⟩=M (J (p_ g) ts.length ts.length):=Aa ag (by simp[go_sem,c21]);have d22:w2.cell? ⟨w.heap.size+1+1,2,N⟩=M nS:=Aa ag (by simp[go_sem,c22]);have e1:∀j,w2.frozen? ⟨w.heap.size+1,j,N⟩=false:=λj=>by rw[ag.frozen (p:=⟨w.heap.size+1,j,N⟩) qh];simp[go_sem,f1]
 have e2:∀j,w2.frozen? ⟨w.heap.size+1+1,j,N⟩=false:=λj=>by rw[ag.frozen (p:=⟨w.heap.size+1+1,j,N⟩) qh];simp[go_sem,f2]
 clear ag mo hb c02 Mi vf c12 c20 c21 c22 f1 f2 hr nr ir;go_wp2;refine bR (v:=G #[I n,J (p_ g) ts.length ts.length,J (p_ g2) rs.length rs.length]) (by simp[results,results8,go_sem,d10,d11,d12]) rfl ⟨?_,_,_,rfl,?_,?_⟩
 ·exact(((au.setCell (p:=⟨w.heap.size+1+1,2,N⟩) qh _).setCell (p:=⟨w.heap.size+1,0,N⟩) qg _).setCell (p:=⟨w.heap.size+1,1,N⟩) qg _).setCell (p:=⟨w.heap.size+1,2,N⟩) qg _
 ·exact((((cu.o.set qb _).set qb _).set qb _).set qb _).wide qb qh
 ·exact((((HT2.o.set qb _).set qb _).set qb _).set qb _).wide qb qg
theorem Fe{v0 v3 v4 v5 v6 v7 v8 v9:Z}{T:TypeId}(h:w.heap[b]?=M (O #[v0,v1,v2,v3,v4,v5,v6,v7,v8,v9] T (0,0))):w.cell? ⟨b,0,N⟩=M v0/\w.cell? ⟨b,1,N⟩=M v1/\w.cell? ⟨b,2,N⟩=M v2/\w.cell? ⟨b,3,N⟩=M v3/\w.cell? ⟨b,4,N⟩=M v4/\w.cell? ⟨b,5,N⟩=M v5/\w.cell? ⟨b,6,N⟩=M v6/\w.cell? ⟨b,7,N⟩=M v7/\w.cell? ⟨b,8,N⟩=M v8/\w.cell? ⟨b,9,N⟩=M v9:=by
 exact qmt
structure BD where
 c:Int
 t:By
 ch:L By
 n:Int
 T:L By
 R:L T3
 ran:L By
 held:L By
 A:By
 B:By
structure BD.Sm (d:BD):Prop where
 ch:d.ch.length≤1048576
 T:d.T.length≤1048576
 R:En d.R
 ran:d.ran.length≤1048576
 held:d.held.length≤1048576
structure BV (w:E) (d:BD) (v:Z) (ca:Option Addr) (cc:X) (ta:Option Addr) (tc:X) (qa:Option Addr) (qc:X) (na:Option Addr) (nc:X) (ea:Option Addr) (ec:X):Prop where
 eq:v=G #[I d.c,S d.t,J ca d.ch.length cc,I d.n,J ta d.T.length tc,J qa d.R.length qc,J na d.ran.length nc,J ea d.held.length ec,S d.A,S d.B]
 ch:Ca w ca d.ch
 tx:Ca w ta d.T
 rq:Lc w qa d.R
 ran:Ca w na d.ran
 held:Ca w ea d.held
theorem Ma{d:BD}{v':Z}{ca:Option Addr}{cc:X}{ta:Option Addr}{tc:X}{qa:Option Addr}{qc:X}{na:Option Addr}{nc:X}{ea:Option Addr}{ec:X}{ca':Option Addr}{cc':X}{nk:Option Addr}{wu:X}{J0:Option Addr}{I9:X}{na':Option Addr}{N9:X}{ea':Option Addr}{ec':X}(h:BV w d v ca cc ta tc qa qc na nc ea ec)(k:BV w d v' ca' cc' nk wu J0 I9 na' N9 ea' ec')(hs:d.Sm):Calls prog 12 #[v,v'] w λe w'=>Bw w w'∧e=H (F true):=by
 obtain⟨rfl,h1,h2,h3,h4,h5⟩:=h;obtain⟨rfl,k1,k2,k3,k4,k5⟩:=k;obtain⟨c,t,ch,n,T,R,ran,held,A,B⟩:=d;obtain⟨m1,m2,m3,m4,m5⟩:=hs;dsimp only at h1 h2 h3 h4 h5 k1 k2 k3 k4 k5 m1 m2 m3 m4 m5 ⊢;obtain⟨W,eW⟩:=Aj ((w.alloc (O #[I c,S t,J ca ch.length cc,I n,J ta T.length tc,J qa R.length qc,J na ran.length nc,J ea held.length ec,S A,S B] 37)).alloc (O #[I c,S t,J ca' ch.length cc',I n,J nk T.length wu,J J0 R.length I9,J na' ran.length N9,J ea' held.length ec',S A,S B] 37));have bq:Bw w W:=by rw[←eW];exact Ay (Ai _ _) (Ai _ _)
 have HP:Hd (W.heap[w.heap.size]?=M (O #[I c,S t,J ca ch.length cc,I n,J ta T.length tc,J qa R.length qc,J na ran.length nc,J ea held.length ec,S A,S B] 37 (0,0))):=qel
 have HQ:Hd (W.heap[w.heap.size+1]?=M (O #[I c,S t,J ca' ch.length cc',I n,J nk T.length wu,J J0 R.length I9,J na' ran.length N9,J ea' held.length ec',S A,S B] 37 (0,0))):=by
  show _=_;rw[←eW];have:=Hj (w.alloc (O #[I c,S t,J ca ch.length cc,I n,J ta T.length tc,J qa R.length qc,J na ran.length nc,J ea held.length ec,S A,S B] 37)) (O #[I c,S t,J ca' ch.length cc',I n,J nk T.length wu,J J0 R.length I9,J na' ran.length N9,J ea' held.length ec',S A,S B] 37)
  rwa [show(w.alloc (O #[I c,S t,J ca ch.length cc,I n,J ta T.length tc,J qa R.length qc,J na ran.length nc,J ea held.length ec,S A,S B] 37)).heap.size=w.heap.size+1 from qg]at this
 have HC:=Ad (λ(V:E) (hV:Bw w V)=>Fs ca ca' cc cc' ch V (h1.bl hV) (k1.bl hV) m1);have HS:=Ad (λ(V:E) (hV:Bw w V)=>Qk n ta qa nk J0 tc qc wu I9 T R V (h2.bl hV) (k2.bl hV) (h3.bl hV) (k3.bl hV) m2 m3);have HN:=Ad (λ(V:E) (hV:Bw w V)=>Fs na na' nc N9 ran V (h4.bl hV) (k4.bl hV) m4);have HE:=Ad (λ(V:E) (hV:Bw w V)=>Fs ea ea' ec ec' held V (h5.bl hV) (k5.bl hV) m5);have HB:=Ad bq;clear h1 h2 h3 h4 h5 k1 k2 k3 k4 k5 m1 m2 m3 m4 m5 bq;obtain⟨x0,x1,x2,x3,x4,x5,x6,x7,x8,x9⟩:=Fe HP.o;obtain⟨y0,y1,y2,y3,y4,y5,y6,y7,y8,y9⟩:=Fe HQ.o;go_enter func12,ntmps12;go_wp2_with fail;clear eW x0 x1 x2 x3 x4 x5 x6 x7 x8 x9 y0 y1 y2 y3 y4 y5 y6 y7 y8 y9;refine(HC.o W HB.o).mono ?_;rintro e w1 ⟨af,rfl⟩;replace HP:=Ad (Ab af HP.o);replace HQ:=Ad (Ab af HQ.o);replace HB:=Ad (bt HB.o af);clear af;obtain⟨x0,x1,x2,x3,x4,x5,x6,x7,x8,x9⟩:=Fe HP.o;obtain⟨y0,y1,y2,y3,y4,y5,y6,y7,y8,y9⟩:=Fe HQ.o;go_wp2_with fail;clear x0 x1 x2 x3 x4 x5 x6 x7 x8 x9 y0 y1 y2 y3 y4 y5 y6 y7 y8 y9;refine(HS.o w1 HB.o).mono ?_;rintro e w2 ⟨af,rfl⟩;replace HP:=Ad (Ab af HP.o);replace HQ:=Ad (Ab af HQ.o);replace HB:=Ad (bt HB.o af);clear af;obtain⟨x0,x1,x2,x3,x4,x5,x6,x7,x8,x9⟩:=Fe HP.o;obtain⟨y0,y1,y2,y3,y4,y5,y6,y7,y8,y9⟩:=Fe HQ.o;go_wp2_with fail;clear x0 x1 x2 x3 x4 x5 x6 x7 x8 x9 y0 y1 y2 y3 y4 y5 y6 y7 y8 y9;refine(HN.o w2 HB.o).mono ?_;rintro e w3 ⟨af,rfl⟩;replace HP:=Ad (Ab af HP.o);replace HQ:=Ad (Ab af HQ.o);replace HB:=Ad (bt HB.o af);clear af;obtain⟨x0,x1,x2,x3,x4,x5,x6,x7,x8,x9⟩:=Fe HP.o;obtain⟨y0,y1,y2,y3,y4,y5,y6,y7,y8,y9⟩:=Fe HQ.o;go_wp2_with fail;clear x0 x1 x2 x3 x4 x5 x6 x7 x8 x9 y0 y1 y2 y3 y4 y5 y6 y7 y8 y9;refine(HE.o w3 HB.o).mono ?_;rintro e w4 ⟨af,rfl⟩;replace HP:=Ad (Ab af HP.o);replace HQ:=Ad (Ab af HQ.o);replace HB:=Ad (bt HB.o af);clear af;obtain⟨x0,x1,x2,x3,x4,x5,x6,x7,x8,x9⟩:=Fe HP.o;obtain⟨y0,y1,y2,y3,y4,y5,y6,y7,y8,y9⟩:=Fe HQ.o;go_wp2_with fail;go_ret;exact⟨HB.o,rfl⟩
structure BO (w:E) (lo:X) (d:BD) (v cv tx qv nv ev:Z) (zs:L Z) (kv lv:X→Z):Prop where
 eq:v=G #[I d.c,S d.t,cv,I d.n,tx,qv,nv,ev,S d.A,S d.B]
 ch:w.ownsRow lo 9 1 cv d.ch.length (Av d.ch)
 txs:w.ownsRow lo 9 1 tx d.T.length (Av d.T)
 rq:Hp w lo qv d.R zs kv lv
 ran:w.ownsRow lo 9 1 nv d.ran.length (Av d.ran)
 held:w.ownsRow lo 9 1 ev d.held.length (Av d.held)
 ap:Jf [cv,tx,nv,ev]
theorem Ns{ch:L By}(h:w.ownsRow lo 9 1 v ch.length (Av ch)):∃a cap,v=J a ch.length cap∧Ca w a ch:=De.sl (Bh.new h)
theorem Hp.rowQ{R:L T3}{kv:X→Z}(h:Hp w lo v R zs kv lv):∃a cap,v=J a R.length cap∧Lc w a R:=by
 obtain⟨a,cap,e⟩:=Ax h.row;subst e;refine⟨a,cap,rfl,λi hi=>?_⟩;obtain⟨f1,f2,f3⟩:=h.fil i hi;obtain⟨ys,k1,k2⟩:=h.code i hi;obtain⟨us,l1,l2⟩:=h.look i hi;obtain⟨ca,cc,e1,r1⟩:=Pw k1 k2;obtain⟨la,lc,e2,r2⟩:=Gc l1 l2;rw[e1]at f1;rw[e2]at f2;obtain⟨b,rfl,c1⟩:=Cv h.row f1;obtain⟨b',q,c2⟩:=Cv h.row f2;cases q;obtain⟨b',q,c3⟩:=Cv h.row f3;cases q;exact⟨b,0,rfl,ca,cc,la,lc,by rw[Nat.zero_add];exact c1,by rw[Nat.zero_add];exact c2,by rw[Nat.zero_add];exact c3,r1,r2⟩
end Go.Proofs.YtoakjccojifagaaGreatDoor
