import Derived.Test.YtbkkjodaaijimaaGreatDoorBvF
import Derived.Test.YtbkkjodaaijimaaGreatDoorBvO
namespace Go.Proofs.YtbkkjodaaijimaaGreatDoor
open Value renaming slice->J,string->S,bool->F,agg->G
open Option renaming some->M,none->N
open Obj renaming cells->O
open Go renaming Value->Z,World->E
open Ending renaming returned->H
open _root_ renaming List->L,Nat->X
set_option maxHeartbeats 8000000
set_option maxRecDepth 100000
open _root_.Go.Proofs.Tryz Go.RowKit Go.Deep
set_option linter.unusedVariables false
set_option linter.unusedSimpArgs false
variable {w w' w2:E} {B g n j T lo hi b m lo' hi':X} {ys xs zs:L Z} {rs is:L T3} {cv lv:X→Z} {cl gl:X→X}
def Keep9(v:Z)(w w':E):Prop:=∀(b:X)(cs:Array Z),w.heap[b]?=M (O cs 9 (0,0))→v.ownBlock≠M b→w'.heap[b]?=M (O cs 9 (0,0))
def Qi(K n:X)(ys:L Z):Prop:=∀i,i<n→ys[i]?=M (S (mt (K+i)))
theorem Ve(a:Option Addr)(cap:X)(ss:L By)(w:E)(hc:Cc w a ss)(hl:ss.length≤maxLen)(hs:∀s∈ss,s.size≤maxLen)(AL:Int)(hL0:0≤AL)(hL:AL≤1048576):Calls prog 17 #[J a ss.length cap,I AL] w λe w'=>w=w'∧∃r:Int,e=H (I r)∧(r<0∨((ss.length+Mn ss:Int)≤AL∧0≤r∧r≤AL)):=by
 have yb:=getD_le hs;unfold maxLen at hl yb
 by_cases h0:(ss.length:Int)≤AL
 ·go_enter func17,ntmps17
  go_wp2
  go_loop [1,5] (λl i=>∃k:X,k≤ss.length∧i=I k∧l=I (AL-ss.length-Mn (ss.take k))∧(ss.length+Mn (ss.take k):Int)≤AL) (λ_ i=>ss.length-(intOf i).toNat)
  case atStart=>exact⟨0,Nat.zero_le _,rfl,by simp[Mn],by simpa [Mn] using h0⟩
  case round=>
   obtain⟨k,hk,rfl,rfl,ht⟩:=hrel
   by_cases aj:k<ss.length
   ·obtain⟨b,off,rfl,yg⟩:=hc k aj
    have M0:=Rr ss k aj;have fx:=yb k;clear yb;generalize ss.getD k ByteArray.empty=s at *;have HT:Hd (Mn (ss.take (k+1))=Mn (ss.take k)+s.size):=M0;clear M0
    by_cases hneg:AL-ss.length-Mn (ss.take k)-s.size<0
    ·go_wp2
     go_ret;exact⟨rfl,-1,rfl,qb⟩
    ·go_wp2
     go_round
     case rel=>exact⟨k+1,qb,qj,by rw[HT.o];go_num,by rw[HT.o];omega⟩
     case measure=>simp[intOf];omega
   ·go_wp2
    go_ret;rw[List.take_of_length_le (show ss.length≤k from qb)]at ht ⊢;exact⟨rfl,_,rfl,qb⟩
 ·go_enter func17,ntmps17
  go_wp2;go_ret;exact⟨rfl,-1,rfl,qb⟩

theorem Hh(a a':Option Addr)(cap ai:X)(ss:L By)(w:E)(hc:Cc w a ss)(mr:Cc w a' ss)(hl:ss.length≤1048576):Calls prog 10 #[J a ss.length cap,J a' ss.length ai] w λe w'=>Bw w w'∧e=H (F true):=by
 go_enter func10,ntmps10;go_wp2
 go_loopw [5] (λi wr=>∃k:X,k≤ss.length∧i=I k∧Bw w wr) (λi _=>ss.length-(intOf i).toNat)
 case atStart=>exact⟨0,Nat.zero_le _,rfl,Below.refl _ _⟩
 case round=>
  obtain⟨k,hk,rfl,am⟩:=hrel
  by_cases aj:k<ss.length
  ·obtain⟨b,off,rfl,yg⟩:=(hc.bl am) k aj
   obtain⟨b',bp,rfl,hck'⟩:=(mr.bl am) k aj;generalize ss.getD k ByteArray.empty=s at *;clear hc mr;go_wp2;go_region
   all_goals
    go_wp2;go_roundw
    case rel=>exact⟨k+1,qb,qj,by repeat (first|exact am|apply Below.drew)⟩
    case measure=>simp[intOf];omega
  ·exact qbl

theorem Xv(i:G3)(l:Int)(w:E)(h0:0≤l)(h1:l≤1048576)(hs:i.name.size≤maxLen)(ht:i.sum.size≤maxLen):Calls prog 81 #[G #[S i.name,F i.ask,S i.sum],I l] w λe w'=>Bw w w'∧∃r:Int,e=H (I r)∧(r<0∨(0≤r∧r≤l∧i.sum.size≤1048576)):=by
 unfold maxLen at hs ht
 by_cases h:l-i.name.size<0
 ·exact qer
 ·by_cases h2:l-i.name.size-i.sum.size<0
  ·exact qer
  ·exact qer

theorem Vg(a:Option Addr)(cap:X)(is:L G3)(lft:Int)(w:E)(hf0:0≤lft)(zt:lft≤1048576)(hc:Fr w a is)(hl:is.length≤maxLen)(hs:∀i,(gx is i).name.size≤maxLen)(ht:∀i,(gx is i).sum.size≤maxLen):Calls prog 56 #[J a is.length cap,I lft] w λe w'=>Bw w w'∧∃r:Int,e=H (I r)∧(r<0∨((is.length:Int)≤lft∧0≤r∧r≤lft∧∀i,i<is.length→(gx is i).sum.size≤1048576)):=by
 have F4:=hl;unfold maxLen at F4
 by_cases h0:(is.length:Int)≤lft
 ·go_enter func56,ntmps56
  go_wp2
  go_loopw [1,5] (λl i wr=>∃k:X,∃q:Int,k≤is.length∧i=I k∧l=I q∧0≤q∧q≤lft∧Bw w wr∧Hd (∀i,i<k→(gx is i).sum.size≤1048576)) (λ_ i _=>is.length-(intOf i).toNat)
  case atStart=>exact⟨0,_,Nat.zero_le _,rfl,rfl,qb,qb,Below.refl _ _,(λi hi=>by omega:∀i,i<0→(gx is i).sum.size≤1048576)⟩
  case round=>
   obtain⟨k,q,hk,rfl,rfl,hq0,km,bc,HK⟩:=hrel
   by_cases aj:k<is.length
   ·obtain⟨b,off,rfl,c1,c2,c3⟩:=(hc.bl bc) k aj
    have fx:=hs k;have fe:=ht k;clear hs ht hc;obtain⟨i,ei⟩:=Aj (gx is k);rw[ei]at c1 c2 c3 fx fe;have EI:Hd (gx is k=i):=ei;clear ei;go_wp2_with fail;refine(Xv i _ _ qb qb fx fe).mono ?_;exact qhr
   ·go_wp2
    go_ret;exact⟨bc,_,rfl,Or.inr ⟨qb,qb,qb,λi hi=>HK.o i qb⟩⟩
 ·go_enter func56,ntmps56
  exact qfc

theorem Xo(i:G3)(w:E):Calls prog 91 #[G #[S i.name,F i.ask,S i.sum]] w λe w'=>Bw w w'∧e=H (G #[S i.name,F i.ask,S i.sum]):=by
 go_enter func91,ntmps91;go_wp2;exact bR (v:=G #[S i.name,F i.ask,S i.sum]) (by simp[results,results91,go_sem]) rfl ⟨((aN _ _).alloc qg _).alloc qh _,rfl⟩

theorem Vx(i:G3)(w:E):Calls prog 103 #[G #[S i.name,F i.ask,S i.sum],G #[S i.name,F i.ask,S i.sum]] w λe w'=>Bw w w'∧e=H (F true):=by
 have e1:=Dg (rfl:i.name=i.name);have e2:=Dg (rfl:i.sum=i.sum);go_enter func103,ntmps103;exact qex

theorem Ug(a a':Option Addr)(cap ai:X)(is:L G3)(w:E)(hc:Fr w a is)(mr:Fr w a' is)(hl:is.length≤1048576):Calls prog 79 #[J a is.length cap,J a' is.length ai] w λe w'=>Bw w w'∧e=H (F true):=by
 go_enter func79,ntmps79;go_wp2
 go_loopw [5] (λi wr=>∃k:X,k≤is.length∧i=I k∧Bw w wr) (λi _=>is.length-(intOf i).toNat)
 case atStart=>exact⟨0,Nat.zero_le _,rfl,Below.refl _ _⟩
 case round=>
  obtain⟨k,hk,rfl,am⟩:=hrel
  by_cases aj:k<is.length
  ·obtain⟨b,off,rfl,c1,c2,c3⟩:=(hc.bl am) k aj
   obtain⟨b',bp,rfl,d1,d2,d3⟩:=(mr.bl am) k aj;generalize gx is k=i at *;clear hc mr;have io:(k:Int)<(is.length:Int):=qb;have iy:(0:Int)≤(k:Int):=qb;go_wp2_with fail
   go_region_held3 (λw'=>(w'.cell? ⟨b,off+k*3,N⟩=M (S i.name)∧w'.cell? ⟨b,off+k*3+1,N⟩=M (F i.ask)∧w'.cell? ⟨b,off+k*3+2,N⟩=M (S i.sum))∧(w'.cell? ⟨b',bp+k*3,N⟩=M (S i.name)∧w'.cell? ⟨b',bp+k*3+1,N⟩=M (F i.ask)∧w'.cell? ⟨b',bp+k*3+2,N⟩=M (S i.sum)))
    (first|assumption|(simp[*];done)|exact⟨⟨Aa af qt,Aa af qt,Aa af qt⟩,Aa af qt,Aa af qt,Aa af qt⟩)
    (first|(go_at_call 103;refine(Vx i _).mono ?_;rintro e w1 ⟨af,rfl⟩))
   all_goals
    go_wp2;go_roundw
    case rel=>exact⟨k+1,qb,qj,am.trans (Below.trans (Below.drew (Below.refl _ _)) (af.mono qct))⟩
    case measure=>simp[intOf];omega
  ·exact qbl

theorem Vw(a a' la I4:Option Addr)(cap ai lc P5:X)(is:L I3)(gs:L G3)(out:By)(w:E)(rc:Bu w a is)(rc':Bu w a' is)(rg:Fr w la gs)(rg':Fr w I4 gs)(h1:is.length≤1048576)(h2:gs.length≤1048576):Calls prog 50 #[G #[J a is.length cap,J la gs.length lc,S out],G #[J a' is.length ai,J I4 gs.length P5,S out]] w λe w'=>Bw w w'∧e=H (F true):=by
 have ak:Bw w ((w.alloc (O #[J a is.length cap,J la gs.length lc,S out] 94)).alloc (O #[J a' is.length ai,J I4 gs.length P5,S out] 94)):=(aN _ _).alloc qg _;have k1:((w.alloc (O #[J a is.length cap,J la gs.length lc,S out] 94)).alloc (O #[J a' is.length ai,J I4 gs.length P5,S out] 94)).cell? ⟨w.heap.size,1,N⟩=M (J la gs.length lc):=qk;have k2:((w.alloc (O #[J a is.length cap,J la gs.length lc,S out] 94)).alloc (O #[J a' is.length ai,J I4 gs.length P5,S out] 94)).cell? ⟨w.heap.size,2,N⟩=M (S out):=qk;have k3:((w.alloc (O #[J a is.length cap,J la gs.length lc,S out] 94)).alloc (O #[J a' is.length ai,J I4 gs.length P5,S out] 94)).cell? ⟨w.heap.size+1,1,N⟩=M (J I4 gs.length P5):=qk;have k4:((w.alloc (O #[J a is.length cap,J la gs.length lc,S out] 94)).alloc (O #[J a' is.length ai,J I4 gs.length P5,S out] 94)).cell? ⟨w.heap.size+1,2,N⟩=M (S out):=qk;have e1:=Dg (rfl:out=out);go_enter func50,ntmps50;go_wp2_with fail;refine(Nh a a' cap ai is _ (rc.bl ak) (rc'.bl ak) h1).mono ?_;rintro e w1 ⟨af,rfl⟩;have bh:=bt ak af;have c1:=Aa af k1;have c2:=Aa af k2;have c3:=Aa af k3;have c4:=Aa af k4;clear ak af k1 k2 k3 k4;go_wp2_with fail;refine(Ug la I4 lc P5 gs _ (rg.bl bh) (rg'.bl bh) h2).mono ?_;rintro e w2 ⟨ag,rfl⟩;have be:=bt bh ag;have d2:=Aa ag c2;have d4:=Aa ag c4;clear ag bh c1 c2 c3 c4;go_wp2;go_ret;exact⟨be,rfl⟩

def RdI(K n:X)(w:E)(g:X):Prop:=∀i,i<n→w.cell? ⟨g,i*3,N⟩=M (I ((K+3*i:X):Int))∧w.cell? ⟨g,i*3+1,N⟩=M (S (mt (K+3*i+1)))∧w.cell? ⟨g,i*3+2,N⟩=M (I ((K+3*i+2:X):Int))
theorem Zl.read{cap K:X}(h:w.ownsRow B 143 3 (J (p_ g) n cap) n ys)(hm:Zl K n ys):RdI K n w g:=by
 exact qjh
theorem RdI.bl{K:X}(h:RdI K n w g)(hb:Bw w w'):RdI K n w' g:=λi hi=>
 ⟨Aa hb (h i hi).1,Aa hb (h i hi).2.1,Aa hb (h i hi).2.2⟩

def MkG(K n:X)(ys:L Z):Prop:=∀i,i<n→ys[i*3]?=M (S (mt (K+3*i)))∧ys[i*3+1]?=M (F (mb (K+3*i+1)))∧ys[i*3+2]?=M (S (mt (K+3*i+2)))
theorem mkG_set{K k:X}(h:MkG K k ys)(hx:k*3+2<ys.length):MkG K (k+1) (((ys.set (k*3) (S (mt (K+3*k)))).set (k*3+1) (F (mb (K+3*k+1)))).set (k*3+2) (S (mt (K+3*k+2)))):=by
 exact qht
theorem rem3(c:X):(((c:Int)+1) % 3 == 0)=mb (c+1):=by
 unfold mb;rw[Bool.eq_iff_iff];simp;omega

theorem Si(B g n cap K:X)(xs:L Z)(w:E)(ah:w.ownsRow B 145 3 (J (p_ g) n cap) n xs)(hB:B≤w.heap.size)(hn:n≤1048576)(h1:1≤K)(h2:K≤900000000000000):Calls prog 54 #[J (p_ g) n cap,I K] w λe w'=>e=H (I ((K+3*n:X):Int))∧Below B w w'∧Fl g w w'∧∃ys,w'.ownsRow B 145 3 (J (p_ g) n cap) n ys∧MkG K n ys:=by
 have vx:B≤g:=(ah.lt g rfl).1;go_enter func54,ntmps54;go_wp2
 go_loopw [1,5] (λk i wr=>∃(m:X)(ys:L Z),m≤n∧i=I m∧k=I ((K+3*m:X):Int)∧Hd (wr.ownsRow B 145 3 (J (p_ g) n cap) n ys)∧Hd (MkG K m ys)∧Hd (Fl g w wr)∧w.heap.size≤wr.heap.size∧Below B w wr) (λ_ i _=>n-(intOf i).toNat)
 case atStart=>exact⟨0,xs,Nat.zero_le _,rfl,rfl,ah,(λi hi=>by omega:MkG K 0 xs),(λb _ _=>rfl:Fl g w w),Nat.le_refl _,Below.refl _ _⟩
 case round=>
  obtain⟨m,ys,hm,rfl,rfl,HO,HM,HK,cz,bc⟩:=hrel;clear ah
  by_cases aj:m<n
  ·have C0:m*3+2<ys.length:=by rw[HO.o.1];omega
   have ku:Hd (MkG K (m+1) (((ys.set (m*3) (S (mt (K+3*m)))).set (m*3+1) (F (mb (K+3*m+1)))).set (m*3+2) (S (mt (K+3*m+2))))):=mkG_set HM.o C0;have Q7:K+3*m+2<1000000000000000:=qb;have HT:Hd (∀W:E,Calls prog 35 #[I ((K+3*m:X):Int)] W λe w'=>Bw W w'∧e=H (S (mt (K+3*m)))):=λW=>Dt (K+3*m) W qb qb
   have HU:Hd (∀W:E,Calls prog 35 #[I ((K+3*m:X)+1+1:Int)] W λe w'=>Bw W w'∧e=H (S (mt (K+3*m+2)))):=λW=>by
    have h:=Dt (K+3*m+2) W qb Q7;rw[show((K+3*m+2:X):Int)=((K+3*m:X):Int)+1+1 from qb]at h;exact h
   have r1:=rem3 (K+3*m);generalize mt (K+3*m)=t at *;generalize mt (K+3*m+2)=u at *;generalize mb (K+3*m+1)=q at *;obtain⟨c,ec⟩:=Aj (K+3*m);rw[ec]at HT HU Q7 r1 ⊢;have HE:Hd (K+3*m=c):=ec;clear ec;have V4:(m:Int)<(n:Int):=qb;go_wp2_with fail;refine(HT.o _).mono ?_;rintro e w2 ⟨ag,rfl⟩;have aq:=Ab HO.o ag;have ke:Below B w w2:=bc.trans (ag.mono qb);have F7:=aq.frozenAt;obtain⟨o1,d1⟩:=Bo aq (j:=m*3) qb;obtain⟨o2,d2⟩:=Bo aq (j:=m*3+1) qb;have uy:Hd (w2.ownsRow B 145 3 (J (p_ g) n cap) n ys):=aq;have fs:Hd (Fl g w w2):=HK.o.bl cz ag;have gj:w.heap.size≤w2.heap.size:=zo ag.size;clear aq ag bc HO;go_wp2_with fail;refine(HU.o _).mono ?_;rintro e w3 ⟨ba,rfl⟩;have fj:=Ab ((uy.o.stored (m*3) (S t)).1.stored (m*3+1) (F q)).1 ba;have xd:Below B w w3:=((ke.setCell (p:=⟨g,m*3,N⟩) vx _).setCell (p:=⟨g,m*3+1,N⟩) vx _).trans (ba.mono qh);have ph:Hd (Fl g w w3):=((fs.o.set (m*3) _).set (m*3+1) _).bl qcy ba;(have nj:w.heap.size≤w3.heap.size:=by have:=ba.size;simp at this;omega);have hfr3:=fj.frozenAt;obtain⟨o3,d3⟩:=Bo fj (j:=m*3+2) qb;have G9:Hd (w3.ownsRow B 145 3 (J (p_ g) n cap) n ((ys.set (m*3) (S t)).set (m*3+1) (F q))):=fj;clear fj ba d1 d2 ke F7 uy;go_wp2;go_roundw
   case rel=>exact⟨m+1,_,qb,qj,congrArg (Value.int .i64) (zo HE.o),(G9.o.stored _ _).1,ku.o,ph.o.set _ _,by simpa using nj,xd.setCell (p:=⟨g,m*3+2,N⟩) vx _⟩
   case measure=>simp[intOf];omega
  ·exact qdc

theorem Sr{cap:X}(h:w.ownsRow B T 1 (J (p_ g) n cap) n xs)(hj:j<n):∃v,w.cell? ⟨g,j,N⟩=M v:=by
 have hl:=h.1;exact⟨xs[j]'qb,by rw[h.cellAt j qb];exact Ix _⟩

theorem MkG.read{cap K:X}(h:w.ownsRow B T 3 (J (p_ g) n cap) n ys)(hm:MkG K n ys):RdG K n w g:=by
 exact qjh
theorem Dc.bl{ob:Option X}(h:Dc ob w w')(hs:w.heap.size≤w'.heap.size)(hb:Bw w' w2):Dc ob w w2:=λb hl hne=>by
 rw[hb.block b qb];exact h b hl hne
theorem Va(a:Option Addr)(cap:X)(ss:L By)(w:E)(hc:Cc w a ss)(hl:ss.length≤1048576):Calls prog 23 #[J a ss.length cap] w λe w'=>Bw w w'∧∃g:X,e=H (J (p_ g) ss.length ss.length)∧w'.ownsRow w.heap.size 9 1 (J (p_ g) ss.length ss.length) ss.length (Ej ss ss.length ss.length):=by
 obtain⟨i0,hi,bq,bg,bv⟩:=info_parts Tryz.info9;go_enter func23,ntmps23
 go_wp2_with (first|(at_make;refine wpList_make_full _ rfl (.tmp 6) (.tmp 6) 22 rfl w.heap.size 9 i0 (S ByteArray.empty) 1 underlying22 hi bq bg .i64 .i64 _ _ ss.length rfl rfl rfl rfl qan qm (Nat.le_refl _) ?_;intro w1 ah ae))
 rw[Pm]at ah;have fq:Bw w w1:=(Below.refl _ _).grown ae (Nat.le_refl _) qg;clear ae
 go_loopw [4] (λi wr=>∃k:X,k≤ss.length∧i=I k∧wr.ownsRow w.heap.size 9 1 (J (p_ w.heap.size) ss.length ss.length) ss.length (Ej ss k ss.length)∧Bw w wr) (λi _=>ss.length-(intOf i).toNat)
 case atStart=>exact⟨0,Nat.zero_le _,rfl,by simpa [Ej] using ah,fq⟩
 case round=>
  obtain⟨k,hk,rfl,ah,am⟩:=hrel
  by_cases aj:k<ss.length
  ·obtain⟨b,off,rfl,yg⟩:=(hc.bl am) k aj
   have de:=ah.stored k (S (ss.getD k ByteArray.empty));rw[Ub ss k aj]at de;have bx:=ah.frozenAt k
   have hce:wr.cell? ⟨w.heap.size,k,N⟩=M ((Ej ss k ss.length)[k]'(by rw[Im ss k hk];exact aj)):=by
    rw[ah.cellAt k qb];exact Ix _
   generalize (Ej ss k ss.length)[k]'(by rw[Im ss k hk];exact aj)=old at hce;generalize ss.getD k ByteArray.empty=s at *;have X0:Bw w (wr.setCell ⟨w.heap.size,k,N⟩ (S s)):=am.setCell (Nat.le_refl _) _;clear ah am fq hc;go_wp2;go_roundw
   case rel=>exact⟨k+1,qb,qj,de.1,X0⟩
   case measure=>simp[intOf];omega
  ·have ek:k=ss.length:=qb
   subst ek;go_wp2;go_ret;exact⟨am,_,rfl,ah⟩

theorem Sh(K:X)(w:E)(h2:K≤900000000000000):Calls prog 54 #[nS,I K] w λe w'=>e=H (I (K:Int))∧w=w':=by
 go_enter func54,ntmps54;exact qcz

theorem Sg(B n K:X)(v:Z)(xs:L Z)(w:E)(ah:w.ownsRow B 145 3 v n xs)(hB:B≤w.heap.size)(hn:n≤1048576)(h1:1≤K)(h2:K≤900000000000000):Calls prog 54 #[v,I K] w λe w'=>e=H (I ((K+3*n:X):Int))∧Below B w w'∧Dc v.ownBlock w w'∧∃ys,w'.ownsRow B 145 3 v n ys∧MkG K n ys:=by
 rcases Dm ah with⟨rfl,rfl⟩|⟨g,cap,rfl⟩
 ·refine(Sh K w h2).mono ?_
  exact qld
 ·refine(Si B g n cap K xs w ah hB hn h1 h2).mono ?_
  exact qkl

theorem Rx(K:X)(w:E)(h2:K≤900000000000000):Calls prog 15 #[nS,I K] w λe w'=>e=H (I (K:Int))∧w=w':=by
 go_enter func15,ntmps15;exact qcz

theorem Vf(a la:Option Addr)(cap lc:X)(is:L I3)(gs:L G3)(out:By)(lft:Int)(hf0:0≤lft)(zt:lft≤1048576)(w:E)(h:Xg w a is la gs out):Calls prog 36 #[G #[J a is.length cap,J la gs.length lc,S out],I lft] w λe w'=>Bw w w'∧∃r:Int,e=H (I r)∧(r<0∨(is.length≤1048576∧gs.length≤1048576∧0≤r∧r≤lft)):=by
 obtain⟨rc,rg,hlc,hlg,xc,ng,sg,so⟩:=h;unfold maxLen at so;have ak:Bw w (w.alloc (O #[J a is.length cap,J la gs.length lc,S out] 73)):=aN _ _;have k1:(w.alloc (O #[J a is.length cap,J la gs.length lc,S out] 73)).cell? ⟨w.heap.size,1,N⟩=M (J la gs.length lc):=qk;have k2:(w.alloc (O #[J a is.length cap,J la gs.length lc,S out] 73)).cell? ⟨w.heap.size,2,N⟩=M (S out):=qk;go_enter func36,ntmps36;go_wp2_with fail;refine(Mr a cap is lft _ hf0 zt (rc.bl ak) hlc xc).mono ?_;rintro e w1 ⟨af,r,rfl,hr⟩;have bh:=bt ak af;have L5:=Aa af k1;have L4:=Aa af k2;clear ak af k1 k2
 rcases hr with hr|⟨h1,zk,kl⟩
 ·go_wp2
  go_ret;exact⟨bh,-1,rfl,Or.inl qb⟩
 ·go_wp2_with fail
  refine(Vg la lc gs r _ qb qb (rg.bl bh) hlg ng sg).mono ?_;rintro e w2 ⟨ag,r2,rfl,ly⟩;have be:=bt bh ag;have k22:=Aa ag L4;clear ag bh L5 L4
  rcases ly with ly|⟨h2,ly,ve,h3⟩
  ·exact qdg
  ·by_cases h4:r2-out.size<0
   ·exact qdg
   ·go_wp2
    go_ret;exact⟨be,r2-out.size,rfl,Or.inr qb⟩


theorem Uf(a a':Option Addr)(cap ai:X)(is:L T3)(w:E)(hc:Lw w a is)(mr:Lw w a' is)(hk:Fk is):Calls prog 29 #[J a is.length cap,J a' is.length ai] w λe w'=>Bw w w'∧e=H (F true):=by
 have hl:=hk.1;have HK:Hd (∀i,i<is.length→(qx is i).code.length≤1048576∧(qx is i).looks.length≤1048576):=hk.2;clear hk;go_enter func29,ntmps29;go_wp2
 go_loopw [5] (λi wr=>∃k:X,k≤is.length∧i=I k∧Bw w wr) (λi _=>is.length-(intOf i).toNat)
 case atStart=>exact⟨0,Nat.zero_le _,rfl,Below.refl _ _⟩
 case round=>
  obtain⟨k,hk,rfl,am⟩:=hrel
  by_cases aj:k<is.length
  ·obtain⟨b,off,rfl,ca,cc,la,lc,c1,c2,c3,c4,c5⟩:=(hc.bl am) k aj
   obtain⟨b',bp,rfl,ca',cc',I4,P5,d1,d2,d3,d4,d5⟩:=(mr.bl am) k aj;have yg:=HK.o k aj;generalize qx is k=i at *;clear hc mr;have C4:Hd (Bu wr ca i.code):=c4;have C5:Hd (Fr wr la i.looks):=c5;have D4:Hd (Bu wr ca' i.code):=d4;have D5:Hd (Fr wr I4 i.looks):=d5;clear c4 c5 d4 d5;have io:(k:Int)<(is.length:Int):=qb;have iy:(0:Int)≤(k:Int):=qb;have f9:Bw wr wr.drew:=(Below.refl _ _).drew;go_wp2_with fail
   go_region_held3 (λw'=>(w'.cell? ⟨b,off+k*3,N⟩=M (J ca i.code.length cc)∧w'.cell? ⟨b,off+k*3+1,N⟩=M (J la i.looks.length lc)∧w'.cell? ⟨b,off+k*3+2,N⟩=M (S i.out))∧(w'.cell? ⟨b',bp+k*3,N⟩=M (J ca' i.code.length cc')∧w'.cell? ⟨b',bp+k*3+1,N⟩=M (J I4 i.looks.length P5)∧w'.cell? ⟨b',bp+k*3+2,N⟩=M (S i.out)))
    (first|assumption|(simp[*];done)|exact⟨⟨Aa af qt,Aa af qt,Aa af qt⟩,Aa af qt,Aa af qt,Aa af qt⟩)
    (first|(go_at_call 50;refine(Vw ca ca' la I4 cc cc' lc P5 i.code i.looks i.out _ (C4.o.bl f9) (D4.o.bl f9) (C5.o.bl f9) (D5.o.bl f9) yg.1 yg.2).mono ?_;rintro e w1 ⟨af,rfl⟩))
   all_goals
    go_wp2;go_roundw
    case rel=>exact⟨k+1,qb,qj,am.trans (Below.trans (Below.drew (Below.refl _ _)) (af.mono qct))⟩
    case measure=>simp[intOf];omega
  ·exact qbl

theorem Zh(n:Int)(ta ra mz ra':Option Addr)(tc rc xx rc':X)(ts:L By)(rs:L T3)(w:E)(st:Cc w ta ts)(nh:Cc w mz ts)(rq:Lw w ra rs)(rq':Lw w ra' rs)(hl:ts.length≤1048576)(hq:Fk rs):Calls prog 11 #[G #[I n,J ta ts.length tc,J ra rs.length rc],G #[I n,J mz ts.length xx,J ra' rs.length rc']] w λe w'=>Bw w w'∧e=H (F true):=by
 have fh:Hd (Cc w ta ts):=st;have HRQ:Hd (Lw w ra rs):=rq;have HST':Hd (Cc w mz ts):=nh;have HRQ':Hd (Lw w ra' rs):=rq';have HQS:Hd (Fk rs):=hq;clear st rq nh rq' hq;have ak:Bw w ((w.alloc (O #[I n,J ta ts.length tc,J ra rs.length rc] 35)).alloc (O #[I n,J mz ts.length xx,J ra' rs.length rc'] 35)):=(aN _ _).alloc qg _;have k1:((w.alloc (O #[I n,J ta ts.length tc,J ra rs.length rc] 35)).alloc (O #[I n,J mz ts.length xx,J ra' rs.length rc'] 35)).cell? ⟨w.heap.size,2,N⟩=M (J ra rs.length rc):=qk;have k2:((w.alloc (O #[I n,J ta ts.length tc,J ra rs.length rc] 35)).alloc (O #[I n,J mz ts.length xx,J ra' rs.length rc'] 35)).cell? ⟨w.heap.size+1,2,N⟩=M (J ra' rs.length rc'):=qk;go_enter func11,ntmps11;go_wp2_with fail;refine(Hh ta mz tc xx ts _ (fh.o.bl ak) (HST'.o.bl ak) hl).mono ?_;rintro e w1 ⟨af,rfl⟩;have bh:=bt ak af;have L5:=Aa af k1;have L4:=Aa af k2;clear ak af k1 k2;go_wp2_with fail;refine(Uf ra ra' rc rc' rs _ (HRQ.o.bl bh) (HRQ'.o.bl bh) HQS.o).mono ?_;rintro e w2 ⟨ag,rfl⟩;go_wp2;go_ret;exact⟨bt bh ag,rfl⟩

theorem mkX_set{K k:X}(h:Qi K k ys)(hx:k<ys.length):Qi K (k+1) (ys.set k (S (mt (K+k)))):=by
 intro i hi;rw[List.getElem?_set]
 rcases Nat.lt_or_ge i k with hl|hl
 ·rw[if_neg qb];exact h i hl
 ·obtain rfl:i=k:=qb
  rw[if_pos rfl,if_pos hx]

theorem Tr(B g n cap K:X)(xs:L Z)(w:E)(ah:w.ownsRow B 9 1 (J (p_ g) n cap) n xs)(hB:B≤w.heap.size)(hn:n≤1048576)(h1:1≤K)(h2:K≤900000000000000):Calls prog 15 #[J (p_ g) n cap,I K] w λe w'=>e=H (I ((K+n:X):Int))∧Below B w w'∧Fl g w w'∧∃ys,w'.ownsRow B 9 1 (J (p_ g) n cap) n ys∧Qi K n ys:=by
 have vx:B≤g:=(ah.lt g rfl).1;go_enter func15,ntmps15;go_wp2
 go_loopw [1,5] (λk i wr=>∃(m:X)(ys:L Z),m≤n∧i=I m∧k=I ((K+m:X):Int)∧Hd (wr.ownsRow B 9 1 (J (p_ g) n cap) n ys)∧Hd (Qi K m ys)∧Hd (Fl g w wr)∧w.heap.size≤wr.heap.size∧Below B w wr) (λ_ i _=>n-(intOf i).toNat)
 case atStart=>exact⟨0,xs,Nat.zero_le _,rfl,rfl,ah,(λi hi=>by omega:Qi K 0 xs),(λb _ _=>rfl:Fl g w w),Nat.le_refl _,Below.refl _ _⟩
 case round=>
  obtain⟨m,ys,hm,rfl,rfl,HO,HM,HK,cz,bc⟩:=hrel;clear ah
  by_cases aj:m<n
  ·have C0:m<ys.length:=by rw[HO.o.1];omega
   have ku:Hd (Qi K (m+1) (ys.set m (S (mt (K+m))))):=mkX_set HM.o C0;have Q7:K+m<1000000000000000:=qb;have HT:Hd (∀W:E,Calls prog 35 #[I ((K+m:X):Int)] W λe w'=>Bw W w'∧e=H (S (mt (K+m)))):=λW=>Dt (K+m) W qb qb;generalize mt (K+m)=t at *;obtain⟨c,ec⟩:=Aj (K+m);rw[ec]at HT Q7 ⊢;have HE:Hd (K+m=c):=ec;clear ec;have V4:(m:Int)<(n:Int):=qb;go_wp2_with fail;refine(HT.o _).mono ?_;rintro e w2 ⟨ag,rfl⟩;have aq:=Ab HO.o ag;have ke:Below B w w2:=bc.trans (ag.mono qb);have F7:=aq.frozenAt;obtain⟨o1,d1⟩:=Sr aq (j:=m) aj;have uy:Hd (w2.ownsRow B 9 1 (J (p_ g) n cap) n ys):=aq;have fs:Hd (Fl g w w2):=HK.o.bl cz ag;have gj:w.heap.size≤w2.heap.size:=zo ag.size;clear aq ag bc HO;go_wp2;go_roundw
   case rel=>exact⟨m+1,_,qb,qj,congrArg (Value.int .i64) (zo HE.o),(uy.o.stored _ _).1,ku.o,fs.o.set _ _,qcy,ke.setCell (p:=⟨g,m,N⟩) vx _⟩
   case measure=>simp[intOf];omega
  ·exact qdc

theorem Mb(lo hi n K:X)(v:Z)(xs:L Z)(w:E)(hr:Bg w lo hi 9 1 v n xs)(hB:lo≤w.heap.size)(hn:n≤1048576)(h1:1≤K)(h2:K≤900000000000000):Calls prog 15 #[v,I K] w λe w'=>e=H (I ((K+n:X):Int))∧Below lo w w'∧Dc v.ownBlock w w'∧∃ys,Bg w' lo hi 9 1 v n ys∧Qi K n ys:=by
 rcases Dm hr.own with⟨rfl,rfl⟩|⟨g,cap,rfl⟩
 ·refine(Rx K w h2).mono ?_
  exact qli
 ·refine(Tr lo g n cap K xs w hr.own hB hn h1 h2).mono ?_
  exact qka

theorem Qi.read{cap K:X}(h:w.ownsRow B 9 1 (J (p_ g) n cap) n ys)(hm:Qi K n ys):RdX K n w g:=by
 intro i hi;rw[h.cellAt _ qb];exact hm i hi
theorem Sl(g n cap K:X)(w:E)(hr:RdX K n w g)(hn:n≤1048576)(h1:1≤K)(h2:K≤900000000000000):Calls prog 16 #[J (p_ g) n cap,I K] w λe w'=>e=H (I ((K+n:X):Int))∧Bw w w':=by
 have HR:Hd (RdX K n w g):=hr;clear hr;go_enter func16,ntmps16;go_wp2
 go_loopw [1,5] (λk i wr=>∃(m:X),m≤n∧i=I m∧k=I ((K+m:X):Int)∧Bw w wr) (λ_ i _=>n-(intOf i).toNat)
 case atStart=>exact⟨0,Nat.zero_le _,rfl,rfl,Below.refl _ _⟩
 case round=>
  obtain⟨m,hm,rfl,rfl,bc⟩:=hrel
  by_cases aj:m<n
  ·have c1:=(HR.o.bl bc) m aj
   have Q7:K+m<1000000000000000:=qb;have HT:Hd (∀W:E,Calls prog 35 #[I ((K+m:X):Int)] W λe w'=>Bw W w'∧e=H (S (mt (K+m)))):=λW=>Dt (K+m) W qb qb;generalize mt (K+m)=t at *;obtain⟨c,ec⟩:=Aj (K+m);rw[ec]at HT Q7 ⊢;have HE:Hd (K+m=c):=ec;clear ec;have et:=Dg (rfl:t=t);have V4:(m:Int)<(n:Int):=qb;have hm0:(0:Int)≤(m:Int):=qb;have bu:Bw wr wr.drew:=(Below.refl _ _).drew;go_wp2_with fail
   go_region_held3 (λw'=>w'.cell? ⟨g,m,N⟩=M (S t))
    (first|assumption|(simp[*];done)|exact Aa ag qt)
    (first|(go_at_call 35;refine(HT.o _).mono ?_;rintro e w2 ⟨ag,rfl⟩))
   all_goals
    have be:=bt bc (bt bu ag);clear c1 ag bu;go_wp2;go_roundw
    case rel=>exact⟨m+1,qb,qj,congrArg (Value.int .i64) (zo HE.o),be⟩
    case measure=>simp[intOf];omega
  ·have em:m=n:=qb
   subst em;go_wp2;go_ret;exact⟨rfl,bc⟩

theorem Sk(K:X)(w:E)(h2:K≤900000000000000):Calls prog 16 #[nS,I K] w λe w'=>e=H (I (K:Int))∧w=w':=by
 go_enter func16,ntmps16;exact qcz
theorem Mc(lo hi n K:X)(v:Z)(ys:L Z)(w:E)(hr:Bg w lo hi 9 1 v n ys)(hm:Qi K n ys)(hn:n≤1048576)(h1:1≤K)(h2:K≤900000000000000):Calls prog 16 #[v,I K] w λe w'=>e=H (I ((K+n:X):Int))∧Bw w w':=by
 rcases Dm hr.own with⟨rfl,rfl⟩|⟨g,cap,rfl⟩
 ·refine(Sk K w h2).mono ?_
  rintro e w' ⟨rfl,rfl⟩;exact⟨rfl,Below.refl _ _⟩
 ·exact Sl g n cap K w (Qi.read hr.own hm) hn h1 h2

def kR(cl gl:X→X)(K:X):X→X
 | 0=>K
 | i+1=>kR cl gl K i+3*cl i+3*gl i+1
theorem kR_le(cl gl:X→X)(K:X):∀i n,i≤n→kR cl gl K i≤kR cl gl K n:=by
 intro i n h
 induction n with
 | zero=>
   (obtain rfl:i=0:=by omega);exact Nat.le_refl _
 | succ n ih=>
   rcases Nat.lt_or_ge i (n+1)with h1|h1
   ·have:=ih qb
    simp only[kR];omega
   ·obtain rfl:i=n+1:=qb
    exact Nat.le_refl _
theorem kR_bound(cl gl:X→X)(K:X):∀n,(∀i,i<n→cl i≤1048576∧gl i≤1048576)→kR cl gl K n≤K+n*6291457:=by
 intro n
 induction n with
 | zero=>intro _;simp[kR]
 | succ n ih=>
   intro h;have:=ih (λi hi=>h i qb);have:=h n qb;simp only[kR];rw[Nat.succ_mul];omega
structure Ct (w:E) (lo hi:X) (v:Z) (n:X) (cl gl:X→X) (xs:L Z) (cv lv:X→Z):Prop where
 row:Bg w lo hi 94 3 v n xs
 fst:∀i,i<n→xs[i*3]?=M (cv i)
 snd:∀i,i<n→xs[i*3+1]?=M (lv i)
 code:∀i,i<n→∃ys,Bg w lo hi 143 3 (cv i) (cl i) ys
 look:∀i,i<n→∃ys,Bg w lo hi 145 3 (lv i) (gl i) ys
 apc:∀i j,i<n→j<n→i≠j→∀b,(cv i).ownBlock=M b→(cv j).ownBlock≠M b
 apl:∀i j,i<n→j<n→i≠j→∀b,(lv i).ownBlock=M b→(lv j).ownBlock≠M b
theorem Ko.rows{v:Z}(h:Ko w lo hi v rs xs cv lv):Ct w lo hi v rs.length (λi=>(qx rs i).code.length) (λi=>(qx rs i).looks.length) xs cv lv:=
 ⟨h.row,λi hi=>(h.fil i hi).1,λi hi=>(h.fil i hi).2.1,λi hi=>by obtain⟨ys,h1,_⟩:=h.code i hi;exact⟨ys,h1⟩,λi hi=>by obtain⟨ys,h1,_⟩:=h.look i hi;exact⟨ys,h1⟩,λi j hi hj hne b e1 e2=>by
  rcases Nat.lt_or_gt_of_ne hne with h1|h1
  ·exact h.apc i j h1 hj b e1 e2
  ·exact h.apc j i h1 hi b e2 e1,λi j hi hj hne b e1 e2=>by
  rcases Nat.lt_or_gt_of_ne hne with h1|h1
  ·exact h.apl i j h1 hj b e1 e2
  ·exact h.apl j i h1 hi b e2 e1⟩
theorem Ct.same{v:Z}(h:Ct w lo hi v n cl gl xs cv lv)(h1:∀b,v.ownBlock=M b→w'.heap[b]?=w.heap[b]?)(h2:∀i,i<n→∀b,(cv i).ownBlock=M b→w'.heap[b]?=w.heap[b]?)(h3:∀i,i<n→∀b,(lv i).ownBlock=M b→w'.heap[b]?=w.heap[b]?):Ct w' lo hi v n cl gl xs cv lv:=
 ⟨h.row.same h1,h.fst,h.snd,λi hi=>by obtain⟨ys,k⟩:=h.code i hi;exact⟨ys,k.same (h2 i hi)⟩,λi hi=>by obtain⟨ys,k⟩:=h.look i hi;exact⟨ys,k.same (h3 i hi)⟩,h.apc,h.apl⟩
theorem Ct.lt{v:Z}(h:Ct w lo hi v n cl gl xs cv lv)(hb:v.ownBlock=M b∨(∃i,i<n∧(cv i).ownBlock=M b)∨∃i,i<n∧(lv i).ownBlock=M b):lo≤b∧b<hi∧b<w.heap.size:=by
 rcases hb with e|⟨i,hi,e⟩|⟨i,hi,e⟩
 ·exact⟨(h.row.own.lt b e).1,h.row.top b e,(h.row.own.lt b e).2⟩
 ·obtain⟨ys,k⟩:=h.code i hi
  exact⟨(k.own.lt b e).1,k.top b e,(k.own.lt b e).2⟩
 ·obtain⟨ys,k⟩:=h.look i hi
  exact⟨(k.own.lt b e).1,k.top b e,(k.own.lt b e).2⟩
theorem Ct.bl{v:Z}(h:Ct w lo hi v n cl gl xs cv lv)(hb:Bw w w'):Ct w' lo hi v n cl gl xs cv lv:=
 h.same (λb e=>hb.block b (h.lt (Or.inl e)).2.2) (λi hi b e=>hb.block b (h.lt (Or.inr (Or.inl ⟨i,hi,e⟩))).2.2) (λi hi b e=>hb.block b (h.lt (Or.inr (Or.inr ⟨i,hi,e⟩))).2.2)
theorem Ct.keepO{v u:Z}{e sz:X}(h:Ct w lo hi v n cl gl xs cv lv)(ho:w.ownsRow B e sz u m zs)(hk:Dc u.ownBlock w w')(h1:94≠e)(h2:143≠e)(h3:145≠e):Ct w' lo hi v n cl gl xs cv lv:=
 h.same (λb eb=>hk b (h.lt (Or.inl eb)).2.2 (λe'=>Px h.row.own ho h1 b eb e'.symm)) (λi hi b eb=>by
  obtain⟨ys,k⟩:=h.code i hi
  exact hk b (k.own.lt b eb).2 (λe'=>Px k.own ho h2 b eb e'.symm)) (λi hi b eb=>by
  obtain⟨ys,k⟩:=h.look i hi;exact hk b (k.own.lt b eb).2 (λe'=>Px k.own ho h3 b eb e'.symm))
theorem Ct.store{cap:X}(h:Ct w lo hi (J (p_ g) n cap) n cl gl xs cv lv)(m:X)(u:Z):Ct (w.setCell ⟨g,m*3+2,N⟩ u) lo hi (J (p_ g) n cap) n cl gl (xs.set (m*3+2) u) cv lv:=
 ⟨⟨(h.row.own.stored (m*3+2) u).1,h.row.top⟩,λi hi=>by rw[List.getElem?_set,if_neg qb];exact h.fst i hi,λi hi=>by rw[List.getElem?_set,if_neg qb];exact h.snd i hi,λi hi=>by
  obtain⟨ys,k1⟩:=h.code i hi
  exact⟨ys,k1.same λb eb=>hC w ⟨g,m*3+2,N⟩ u b (by show b≠g;intro e;subst e;exact Px h.row.own k1.own qd b rfl eb)⟩,λi hi=>by
  obtain⟨ys,k1⟩:=h.look i hi;exact⟨ys,k1.same λb eb=>hC w ⟨g,m*3+2,N⟩ u b (by show b≠g;intro e;subst e;exact Px h.row.own k1.own qd b rfl eb)⟩,h.apc,h.apl⟩
theorem Ct.markC{v:Z}(h:Ct w lo hi v n cl gl xs cv lv)(hm:m<n)(hk:Dc (cv m).ownBlock w w')(hn:Bg w' lo hi 143 3 (cv m) (cl m) zs):Ct w' lo hi v n cl gl xs cv lv:=by
 obtain⟨y0,k0⟩:=h.code m hm;refine⟨h.row.same λb eb=>hk b (h.row.own.lt b eb).2 (λe'=>Px h.row.own k0.own qd b eb e'.symm),h.fst,h.snd,λi hi=>?_,λi hi=>?_,h.apc,h.apl⟩
 ·by_cases hi':i=m
  ·subst hi';exact⟨zs,hn⟩
  ·obtain⟨ys,k1⟩:=h.code i hi
   exact⟨ys,k1.same λb eb=>hk b (k1.own.lt b eb).2 (λe'=>h.apc i m hi hm hi' b eb e'.symm)⟩
 ·obtain⟨ys,k1⟩:=h.look i hi
  exact qky
theorem Ct.markL{v:Z}(h:Ct w lo hi v n cl gl xs cv lv)(hm:m<n)(hk:Dc (lv m).ownBlock w w')(hn:Bg w' lo hi 145 3 (lv m) (gl m) zs):Ct w' lo hi v n cl gl xs cv lv:=by
 obtain⟨y0,k0⟩:=h.look m hm;refine⟨h.row.same λb eb=>hk b (h.row.own.lt b eb).2 (λe'=>Px h.row.own k0.own qd b eb e'.symm),h.fst,h.snd,λi hi=>?_,λi hi=>?_,h.apc,h.apl⟩
 ·obtain⟨ys,k1⟩:=h.code i hi
  exact qky
 ·by_cases hi':i=m
  ·subst hi';exact⟨zs,hn⟩
  ·obtain⟨ys,k1⟩:=h.look i hi
   exact⟨ys,k1.same λb eb=>hk b (k1.own.lt b eb).2 (λe'=>h.apl i m hi hm hi' b eb e'.symm)⟩
def Jg(w:E)(lo hi K:X)(cl gl:X→X)(cv lv:X→Z)(m:X)(ys:L Z):Prop:=∀i,i<m→ys[i*3+2]?=M (S (mt (kR cl gl K i+3*cl i+3*gl i)))∧(∃zs,Bg w lo hi 143 3 (cv i) (cl i) zs∧Zl (kR cl gl K i) (cl i) zs)∧∃zs,Bg w lo hi 145 3 (lv i) (gl i) zs∧MkG (kR cl gl K i+3*cl i) (gl i) zs
theorem Jg.same{K:X}(h:Jg w lo hi K cl gl cv lv m ys)(h2:∀i,i<m→∀b,(cv i).ownBlock=M b→w'.heap[b]?=w.heap[b]?)(h3:∀i,i<m→∀b,(lv i).ownBlock=M b→w'.heap[b]?=w.heap[b]?):Jg w' lo hi K cl gl cv lv m ys:=λi hi=>by
 obtain⟨k1,⟨zs,k2,k3⟩,us,k4,k5⟩:=h i hi;exact⟨k1,⟨zs,k2.same (h2 i hi),k3⟩,us,k4.same (h3 i hi),k5⟩
theorem Jg.bl{K:X}(h:Jg w lo hi K cl gl cv lv m ys)(hb:Bw w w'):Jg w' lo hi K cl gl cv lv m ys:=λi hi=>by
 obtain⟨k1,⟨zs,k2,k3⟩,us,k4,k5⟩:=h i hi;exact⟨k1,⟨zs,k2.bl hb,k3⟩,us,k4.bl hb,k5⟩
theorem Jg.markC{K:X}{v:Z}(h:Jg w lo hi K cl gl cv lv m ys)(hr:Ct w lo hi v n cl gl xs cv lv)(hm:m<n)(hk:Dc (cv m).ownBlock w w'):Jg w' lo hi K cl gl cv lv m ys:=by
 obtain⟨y0,k0⟩:=hr.code m hm;refine h.same (λi hi b eb=>?_) (λi hi b eb=>?_)
 ·obtain⟨_,⟨zs,k2,_⟩,_⟩:=h i hi
  exact hk b (k2.own.lt b eb).2 (λe'=>hr.apc i m qb hm qb b eb e'.symm)
 ·obtain⟨_,_,zs,k2,_⟩:=h i hi
  exact qmp
theorem Jg.markL{K:X}{v:Z}(h:Jg w lo hi K cl gl cv lv m ys)(hr:Ct w lo hi v n cl gl xs cv lv)(hm:m<n)(hk:Dc (lv m).ownBlock w w'):Jg w' lo hi K cl gl cv lv m ys:=by
 obtain⟨y0,k0⟩:=hr.look m hm;refine h.same (λi hi b eb=>?_) (λi hi b eb=>?_)
 ·obtain⟨_,⟨zs,k2,_⟩,_⟩:=h i hi
  exact qmp
 ·obtain⟨_,_,zs,k2,_⟩:=h i hi
  exact hk b (k2.own.lt b eb).2 (λe'=>hr.apl i m qb hm qb b eb e'.symm)
theorem Jg.store{K cap:X}{us:L Z}(h:Jg w lo hi K cl gl cv lv m ys)(hr:Ct w lo hi (J (p_ g) n cap) n cl gl ys cv lv)(hm:m<n)(hz:Bg w lo hi 143 3 (cv m) (cl m) zs)(hzm:Zl (kR cl gl K m) (cl m) zs)(hu:Bg w lo hi 145 3 (lv m) (gl m) us)(hum:MkG (kR cl gl K m+3*cl m) (gl m) us):Jg (w.setCell ⟨g,m*3+2,N⟩ (S (mt (kR cl gl K m+3*cl m+3*gl m)))) lo hi K cl gl cv lv (m+1) (ys.set (m*3+2) (S (mt (kR cl gl K m+3*cl m+3*gl m)))):=λi hj=>by
 have hs:∀ {e sz k:X} {u:Z} {ps:L Z},Bg w lo hi e sz u k ps→94≠e→Bg (w.setCell ⟨g,m*3+2,N⟩ (S (mt (kR cl gl K m+3*cl m+3*gl m)))) lo hi e sz u k ps:=fun {e sz k u ps} k1 hne=>k1.same λb eb=>hC w ⟨g,m*3+2,N⟩ _ b (by show b≠g;intro e;subst e;exact Px hr.row.own k1.own hne b rfl eb)
 rcases Nat.lt_or_ge i m with aj|Q4
 ·obtain⟨k1,⟨ps,k2,k3⟩,qs,k4,k5⟩:=h i aj
  exact⟨by rw[List.getElem?_set,if_neg qb];exact k1,⟨ps,hs k2 qd,k3⟩,qs,hs k4 qd,k5⟩
 ·obtain rfl:i=m:=qb
  exact⟨by rw[List.getElem?_set,if_pos rfl,if_pos (by rw[hr.row.own.1];omega)],⟨zs,hs hz qd,hzm⟩,us,hs hu qd,hum⟩
def Ef(v:Z)(cv lv:X→Z)(n:X)(w w':E):Prop:=∀b,b<w.heap.size→v.ownBlock≠M b→(∀i,i<n→(cv i).ownBlock≠M b)→(∀i,i<n→(lv i).ownBlock≠M b)→w'.heap[b]?=w.heap[b]?
theorem Ef.bl{v:Z}(h:Ef v cv lv n w w')(hs:w.heap.size≤w'.heap.size)(hb:Bw w' w2):Ef v cv lv n w w2:=λb hl h1 h2 h3=>by
 rw[hb.block b qb];exact h b hl h1 h2 h3
theorem Ef.set{cap:X}(h:Ef (J (p_ g) n cap) cv lv n w w')(u:Z):Ef (J (p_ g) n cap) cv lv n w (w'.setCell ⟨g,m,N⟩ u):=λb hl h1 h2 h3=>by
 rw[hC w' ⟨g,m,N⟩ u b (λe=>h1 (by rw[e];rfl))];exact h b hl h1 h2 h3
theorem Ef.markC{v:Z}(h:Ef v cv lv n w w')(hs:w.heap.size≤w'.heap.size)(hm:m<n)(hk:Dc (cv m).ownBlock w' w2):Ef v cv lv n w w2:=λb hl h1 h2 h3=>by
 rw[hk b qb (λe=>h2 m hm e.symm)];exact h b hl h1 h2 h3
theorem Ef.markL{v:Z}(h:Ef v cv lv n w w')(hs:w.heap.size≤w'.heap.size)(hm:m<n)(hk:Dc (lv m).ownBlock w' w2):Ef v cv lv n w w2:=λb hl h1 h2 h3=>by
 rw[hk b qb (λe=>h3 m hm e.symm)];exact h b hl h1 h2 h3
theorem Ef.keepR{v:Z}(h:Ef v cv lv n w w')(hr:Ct w lo hi v n cl gl xs cv lv):De lo hi w w':=λb hb ho=>h b hb (λe=>by have h1:=hr.lt (Or.inl e);omega) (λi hi e=>by have h1:=hr.lt (Or.inr (Or.inl ⟨i,hi,e⟩));omega) (λi hi e=>by have h1:=hr.lt (Or.inr (Or.inr ⟨i,hi,e⟩));omega)

theorem Sf(lo hi g n cap K:X)(cl gl:X→X)(xs:L Z)(cv lv:X→Z)(w:E)(hr:Ct w lo hi (J (p_ g) n cap) n cl gl xs cv lv)(hB:lo≤w.heap.size)(hn:n≤1048576)(vu:∀i,i<n→cl i≤1048576∧gl i≤1048576)(h1:1≤K)(h2:kR cl gl K n≤800000000000000):Calls prog 32 #[(J (p_ g) n cap),I K] w λe w'=>e=H (I ((kR cl gl K n:X):Int))∧Below lo w w'∧Ef (J (p_ g) n cap) cv lv n w w'∧∃ys,Ct w' lo hi (J (p_ g) n cap) n cl gl ys cv lv∧Jg w' lo hi K cl gl cv lv n ys:=by
 have vx:lo≤g:=(hr.row.own.lt g rfl).1;have HCL:Hd (∀i,i<n→cl i≤1048576∧gl i≤1048576):=vu;have HKT:Hd (∀i,i≤n→K≤kR cl gl K i∧kR cl gl K i≤800000000000000):=λi hi=>⟨kR_le cl gl K 0 i (Nat.zero_le _),Nat.le_trans (kR_le cl gl K i n hi) h2⟩;clear vu h2;go_enter func32,ntmps32;go_wp2
 go_loopw [1,5] (λk i wr=>∃(m:X)(ys:L Z),m≤n∧i=I m∧k=I ((kR cl gl K m:X):Int)∧Hd (Ct wr lo hi (J (p_ g) n cap) n cl gl ys cv lv)∧Hd (Jg wr lo hi K cl gl cv lv m ys)∧Hd (Ef (J (p_ g) n cap) cv lv n w wr)∧w.heap.size≤wr.heap.size∧Below lo w wr) (λ_ i _=>n-(intOf i).toNat)
 case atStart=>exact⟨0,xs,Nat.zero_le _,rfl,rfl,hr,(λi hi=>by omega:Jg w lo hi K cl gl cv lv 0 xs),(λb _ _ _ _=>rfl:Ef (J (p_ g) n cap) cv lv n w w),Nat.le_refl _,Below.refl _ _⟩
 case round=>
  obtain⟨m,ys,hm,rfl,rfl,HR,HM,HK,cz,bc⟩:=hrel;clear hr
  by_cases aj:m<n
  ·obtain⟨cq,iw⟩:=HKT.o m hm
   obtain⟨F8,hgm⟩:=HCL.o m aj;have HS:Hd (kR cl gl K (m+1)=kR cl gl K m+3*cl m+3*gl m+1):=rfl;(have C0:m*3+2<ys.length:=by rw[HR.o.row.own.1];omega);obtain⟨c,ec⟩:=Aj (kR cl gl K m);have HI:Hd (∀(W:E)(zs:L Z),W.ownsRow lo 143 3 (cv m) (cl m) zs→lo≤W.heap.size→Calls prog 53 #[cv m,I (c:Int)] W λe w'=>e=H (I ((c+3*cl m:X):Int))∧Below lo W w'∧Dc (cv m).ownBlock W w'∧∃ys,w'.ownsRow lo 143 3 (cv m) (cl m) ys∧Zl c (cl m) ys):=λW zs h3 h4=>Pj lo (cl m) c (cv m) zs W h3 h4 F8 qb qb;have HG:Hd (∀(W:E)(zs:L Z),W.ownsRow lo 145 3 (lv m) (gl m) zs→lo≤W.heap.size→Calls prog 54 #[lv m,I ((c+3*cl m:X):Int)] W λe w'=>e=H (I ((c+3*cl m+3*gl m:X):Int))∧Below lo W w'∧Dc (lv m).ownBlock W w'∧∃ys,w'.ownsRow lo 145 3 (lv m) (gl m) ys∧MkG (c+3*cl m) (gl m) ys):=λW zs h3 h4=>Sg lo (gl m) (c+3*cl m) (lv m) zs W h3 h4 hgm qb qb;have HT:Hd (∀W:E,Calls prog 35 #[I ((c+3*cl m+3*gl m:X):Int)] W λe w'=>Bw W w'∧e=H (S (mt (c+3*cl m+3*gl m)))):=λW=>Dt (c+3*cl m+3*gl m) W qb qb;rw[ec]at cq iw HS ⊢;have HE:Hd (kR cl gl K m=c):=ec;clear ec;have V4:(m:Int)<(n:Int):=qb;have hqb:c+3*cl m+3*gl m+1<1000000000000000:=qb;obtain⟨p,ep⟩:=Aj (c+3*cl m);obtain⟨q,eq⟩:=Aj (p+3*gl m);rw[ep]at HI HG HT HS hqb;rw[eq]at HG HT HS hqb;have HEP:Hd (c+3*cl m=p):=ep;have HEQ:Hd (p+3*gl m=q):=eq;clear ep eq;obtain⟨z0,bq⟩:=HR.o.code m aj;obtain⟨va,vc,ev⟩:=Ji bq;have EV:Hd (cv m=J va (cl m) vc):=ev;obtain⟨z1,bg⟩:=HR.o.look m aj;obtain⟨ua,uc,eu⟩:=Ji bg;have EU:Hd (lv m=J ua (gl m) uc):=eu;have d0:wr.cell? ⟨g,m*3,N⟩=M (J va (cl m) vc):=by rw[HR.o.row.own.cellAt _ qb,HR.o.fst m aj,EV.o]
   have HC:Hd (Calls prog 53 #[J va (cl m) vc,I (c:Int)] wr λe w'=>e=H (I (p:Int))∧Below lo wr w'∧Dc (cv m).ownBlock wr w'∧∃ys,w'.ownsRow lo 143 3 (cv m) (cl m) ys∧Zl c (cl m) ys):=by
    have h:=HI.o wr z0 bq.own qb;rw[EV.o]at h ⊢;exact h
   have HTOP:Hd (∀b,(cv m).ownBlock=M b→b<hi):=bq.top;have HTOP1:Hd (∀b,(lv m).ownBlock=M b→b<hi):=bg.top;clear bq ev bg eu HI;go_wp2_with fail;refine HC.o.mono ?_;rintro e w2 ⟨rfl,ag,hk2',zs,jq,rd⟩;have M1:Bg w2 lo hi 143 3 (cv m) (cl m) zs:=⟨jq,HTOP.o⟩;have mx:Hd (Ct w2 lo hi (J (p_ g) n cap) n cl gl ys cv lv):=HR.o.markC aj hk2' M1;have ku:Hd (Jg w2 lo hi K cl gl cv lv m ys):=HM.o.markC HR.o aj hk2';have fs:Hd (Ef (J (p_ g) n cap) cv lv n w w2):=HK.o.markC cz aj hk2';have n9:Hd (Bg w2 lo hi 143 3 (cv m) (cl m) zs):=M1;have HZM:Hd (Zl c (cl m) zs):=rd;have ke:Below lo w w2:=bc.trans ag;have gj:w.heap.size≤w2.heap.size:=zo ag.size;have d1:w2.cell? ⟨g,m*3+1,N⟩=M (J ua (gl m) uc):=by rw[mx.o.row.own.cellAt _ qb,mx.o.snd m aj,EU.o]
   have HC2:Hd (Calls prog 54 #[J ua (gl m) uc,I (p:Int)] w2 λe w'=>e=H (I (q:Int))∧Below lo w2 w'∧Dc (lv m).ownBlock w2 w'∧∃ys,w'.ownsRow lo 145 3 (lv m) (gl m) ys∧MkG p (gl m) ys):=by
    obtain⟨us,hus⟩:=mx.o.look m aj;have h:=HG.o w2 us hus.own qb;rw[EU.o]at h ⊢;exact h
   clear ag hk2' jq rd M1 bc HR HM HK HC HG d0;go_wp2_with fail;refine HC2.o.mono ?_;rintro e w3 ⟨rfl,ba,ia,us,M3,hm3⟩;have ht3:Bg w3 lo hi 145 3 (lv m) (gl m) us:=⟨M3,HTOP1.o⟩;have gz:Hd (Ct w3 lo hi (J (p_ g) n cap) n cl gl ys cv lv):=mx.o.markL aj ia ht3;have B5:Hd (Jg w3 lo hi K cl gl cv lv m ys):=ku.o.markL mx.o aj ia;have ph:Hd (Ef (J (p_ g) n cap) cv lv n w w3):=fs.o.markL gj aj ia
   have HZ3:Hd (Bg w3 lo hi 143 3 (cv m) (cl m) zs):=by
    obtain⟨y0,k0⟩:=mx.o.look m aj;exact n9.o.same λb eb=>ia b (n9.o.own.lt b eb).2 (λe'=>Px n9.o.own k0.own qd b eb e'.symm)
   have HU3:Hd (Bg w3 lo hi 145 3 (lv m) (gl m) us):=ht3;have HUM:Hd (MkG p (gl m) us):=hm3;have xd:Below lo w w3:=ke.trans ba;have nj:w.heap.size≤w3.heap.size:=zo ba.size;clear ba ia M3 hm3 ht3 mx ku fs n9 HC2 ke d1;go_wp2_with fail;refine(HT.o _).mono ?_;rintro e w4 ⟨co,rfl⟩;have li:Hd (Ct w4 lo hi (J (p_ g) n cap) n cl gl ys cv lv):=gz.o.bl co;have HR5:Hd (Ct (w4.setCell ⟨g,m*3+2,N⟩ (S (mt q))) lo hi (J (p_ g) n cap) n cl gl (ys.set (m*3+2) (S (mt q))) cv lv):=li.o.store m _
   have HM5:Hd (Jg (w4.setCell ⟨g,m*3+2,N⟩ (S (mt q))) lo hi K cl gl cv lv (m+1) (ys.set (m*3+2) (S (mt q)))):=by
    have h:=(B5.o.bl co).store li.o aj (HZ3.o.bl co) (by rw[HE.o];exact HZM.o) (HU3.o.bl co) (by rw[HE.o,HEP.o];exact HUM.o);rw[HE.o,HEP.o,HEQ.o]at h;exact h
   have HK5:Hd (Ef (J (p_ g) n cap) cv lv n w (w4.setCell ⟨g,m*3+2,N⟩ (S (mt q)))):=(ph.o.bl nj co).set _;have hbw5:Below lo w (w4.setCell ⟨g,m*3+2,N⟩ (S (mt q))):=(xd.trans (co.mono qb)).setCell (p:=⟨g,m*3+2,N⟩) vx _;(have vp:w.heap.size≤(w4.setCell ⟨g,m*3+2,N⟩ (S (mt q))).heap.size:=by have:=co.size;simp;omega);have hfr4:=li.o.row.own.frozenAt;obtain⟨o1,d2⟩:=Bo li.o.row.own (j:=m*3+2) qb;clear co gz B5 ph HZ3 HU3 HT xd li nj gj;generalize mt q=t at *;go_wp2;go_roundw
   case rel=>exact⟨m+1,_,qb,qj,congrArg (Value.int .i64) (by rw[HS.o];omega),HR5.o,HM5.o,HK5.o,vp,hbw5⟩
   case measure=>simp[intOf];omega
  ·exact qlv

theorem Se(K:X)(w:E)(h2:K≤900000000000000):Calls prog 32 #[nS,I K] w λe w'=>e=H (I (K:Int))∧w=w':=by
 go_enter func32,ntmps32;exact qcz
theorem Sc(lo hi n K:X)(v:Z)(cl gl:X→X)(xs:L Z)(cv lv:X→Z)(w:E)(hr:Ct w lo hi v n cl gl xs cv lv)(hB:lo≤w.heap.size)(hn:n≤1048576)(vu:∀i,i<n→cl i≤1048576∧gl i≤1048576)(h1:1≤K)(h2:kR cl gl K n≤800000000000000):Calls prog 32 #[v,I K] w λe w'=>e=H (I ((kR cl gl K n:X):Int))∧Below lo w w'∧Ef v cv lv n w w'∧∃ys,Ct w' lo hi v n cl gl ys cv lv∧Jg w' lo hi K cl gl cv lv n ys:=by
 rcases Dm hr.row.own with⟨rfl,rfl⟩|⟨g,cap,rfl⟩
 ·refine(Se K w (by simp only[kR]at h2;omega)).mono ?_
  rintro e w' ⟨rfl,rfl⟩;exact⟨rfl,Below.refl _ _,λ_ _ _ _ _=>rfl,xs,hr,λi hi=>qb⟩
 ·exact Sf lo hi g n cap K cl gl xs cv lv w hr hB hn vu h1 h2

def MkSo(w:E)(lo hi K:X)(v1 v2:Z)(n1 n2:X)(cl gl:X→X):Prop:=(∃ys,Bg w lo hi 9 1 v1 n1 ys∧Qi K n1 ys)∧∃ys cv lv,Ct w lo hi v2 n2 cl gl ys cv lv∧Jg w lo hi (K+n1) cl gl cv lv n2 ys
theorem MkSo.bl{K n1 n2:X}{v1 v2:Z}(h:MkSo w lo hi K v1 v2 n1 n2 cl gl)(hb:Bw w w'):MkSo w' lo hi K v1 v2 n1 n2 cl gl:=by
 obtain⟨⟨ys,h1,h2⟩,zs,cv,lv,h3,h4⟩:=h;exact⟨⟨ys,h1.bl hb,h2⟩,zs,cv,lv,h3.bl hb,h4.bl hb⟩

theorem Vo(wd:Int)(lo hi n1 n2 K:X)(v1 v2:Z)(cl gl:X→X)(xs zs:L Z)(cv lv:X→Z)(w:E)(h1:Bg w lo hi 9 1 v1 n1 xs)(h2:Ct w lo hi v2 n2 cl gl zs cv lv)(hB:lo≤w.heap.size)(M5:n1≤1048576)(hn2:n2≤1048576)(vu:∀i,i<n2→cl i≤1048576∧gl i≤1048576)(hK:1≤K)(hK2:kR cl gl (K+n1) n2≤800000000000000):Calls prog 13 #[G #[I wd,v1,v2],I K] w λe w'=>e=H (I ((kR cl gl (K+n1) n2:X):Int))∧Below lo w w'∧De lo hi w w'∧Keep9 v1 w w'∧MkSo w' lo hi K v1 v2 n1 n2 cl gl:=by
 have hK3:K+n1≤800000000000000:=Nat.le_trans (kR_le cl gl (K+n1) 0 n2 (Nat.zero_le _)) hK2;obtain⟨va,vc,rfl⟩:=Ji h1;obtain⟨vb,vd,rfl⟩:=Ji h2.row;have ak:Bw w (w.alloc (O #[I wd,J va n1 vc,J vb n2 vd] 35)):=aN _ _;have k1:(w.alloc (O #[I wd,J va n1 vc,J vb n2 vd] 35)).cell? ⟨w.heap.size,2,N⟩=M (J vb n2 vd):=qk;have hw0:(w.alloc (O #[I wd,J va n1 vc,J vb n2 vd] 35)).heap.size=w.heap.size+1:=qg;have vj:Hd (Ct (w.alloc (O #[I wd,J va n1 vc,J vb n2 vd] 35)) lo hi (J vb n2 vd) n2 cl gl zs cv lv):=h2.bl ak;have Y3:=h1.bl ak;have hne:(Value.slice va n1 vc).ownBlock≠M w.heap.size:=λe=>by have:=(h1.own.lt _ e).2;omega
 have HC:Hd (∀W:E,Ct W lo hi (J vb n2 vd) n2 cl gl zs cv lv→lo≤W.heap.size→Calls prog 32 #[J vb n2 vd,I ((K+n1:X):Int)] W λe w'=>e=H (I ((kR cl gl (K+n1) n2:X):Int))∧Below lo W w'∧Ef (J vb n2 vd) cv lv n2 W w'∧∃ys,Ct w' lo hi (J vb n2 vd) n2 cl gl ys cv lv∧Jg w' lo hi (K+n1) cl gl cv lv n2 ys):=λW h3 h4=>Sc lo hi n2 (K+n1) _ cl gl zs cv lv W h3 h4 hn2 vu qb hK2;clear hK2 h2 h1 vu;go_enter func13,ntmps13;go_wp2_with fail;refine(Mb lo hi n1 K _ xs _ Y3 qb M5 hK qb).mono ?_;rintro e w1 ⟨rfl,af,cq,ys,kl,up⟩;have bh:Below lo w w1:=(ak.mono hB).trans af;have d9:w.heap.size+1≤w1.heap.size:=zo af.size
 have c1:w1.cell? ⟨w.heap.size,2,N⟩=M (J vb n2 vd):=by
  exact qmn
 have ik:Hd (Ct w1 lo hi (J vb n2 vd) n2 cl gl zs cv lv):=vj.o.keepO Y3.own cq qd qd qd;have du:Hd (De lo hi w w1):=(De.of_below ak).trans ak.size (cq.keepR λb e=>⟨(Y3.own.lt b e).1,Y3.top b e⟩);have HK91:Hd (Keep9 (J va n1 vc) w w1):=λb cs h ne=>by rw[cq b (zo (Ag h)) (λe=>ne e.symm),Lib.alloc_old _ _ _ (Ag h)];exact h
 have gy:Hd (Bg w1 lo hi 9 1 (J va n1 vc) n1 ys):=kl;have xu:Hd (Qi K n1 ys):=up;clear ak af cq kl up k1 vj Y3 hne hw0;go_wp2_with fail;refine(HC.o w1 ik.o qb).mono ?_;rintro e w2 ⟨rfl,ag,iw,ys2,ly,rd⟩;have be:Below lo w w2:=bh.trans ag;have fs:Hd (De lo hi w w2):=du.o.trans qb (iw.keepR ik.o)
 have HK92:Hd (Keep9 (J va n1 vc) w w2):=λb cs h ne=>by
  have h1:=HK91.o b cs h ne;rw[iw b (Ag h1) (Ae ik.o.row.own qd h1) (λi hi=>by obtain⟨zz,hz⟩:=ik.o.code i hi;exact Ae hz.own qd h1) (λi hi=>by obtain⟨zz,hz⟩:=ik.o.look i hi;exact Ae hz.own qd h1)];exact h1
 have HP:Hd (MkSo w2 lo hi K (J va n1 vc) (J vb n2 vd) n1 n2 cl gl):=⟨⟨ys,gy.o.same λb e=>iw b (gy.o.own.lt b e).2 (λe'=>Px ik.o.row.own gy.o.own qd b e' e) (λi hi e'=>by obtain⟨zz,hz⟩:=ik.o.code i hi;exact Px hz.own gy.o.own qd b e' e) (λi hi e'=>by obtain⟨zz,hz⟩:=ik.o.look i hi;exact Px hz.own gy.o.own qd b e' e),xu.o⟩,ys2,cv,lv,ly,rd⟩;clear ag iw ly rd ik du gy xu HC c1;go_wp2;go_ret;exact⟨rfl,be,fs.o,HK92.o,HP.o⟩

theorem Tg(a:Option Addr)(cap:X)(is:L T3)(lft:Int)(w:E)(hf0:0≤lft)(zt:lft≤1048576)(hc:Lw w a is)(hk:QsOk is):Calls prog 18 #[J a is.length cap,I lft] w λe w'=>Bw w w'∧∃r:Int,e=H (I r)∧(r<0∨(0≤r∧r≤lft∧Fk is)):=by
 have F4:=hk.lr;unfold maxLen at F4;have pi:Hd (QsOk is):=hk;clear hk
 by_cases h0:(is.length:Int)≤lft
 ·go_enter func18,ntmps18
  go_wp2
  go_loopw [1,5] (λl i wr=>∃k:X,∃q:Int,k≤is.length∧i=I k∧l=I q∧0≤q∧q≤lft∧Bw w wr∧Hd (∀i,i<k→(qx is i).code.length≤1048576∧(qx is i).looks.length≤1048576)) (λ_ i _=>is.length-(intOf i).toNat)
  case atStart=>exact⟨0,_,Nat.zero_le _,rfl,rfl,qb,qb,Below.refl _ _,(λi hi=>by omega:∀i,i<0→(qx is i).code.length≤1048576∧(qx is i).looks.length≤1048576)⟩
  case round=>
   obtain⟨k,q,hk,rfl,rfl,hq0,km,bc,HK⟩:=hrel
   by_cases aj:k<is.length
   ·obtain⟨b,off,rfl,ca,cc,la,lc,c1,c2,c3,c4,c5⟩:=(hc.bl bc) k aj
    have ft:Xg wr ca (qx is k).code la (qx is k).looks (qx is k).out:=⟨c4,c5,pi.o.lc k,pi.o.lg k,pi.o.xc k,pi.o.ng k,pi.o.sg k,pi.o.so k⟩;clear hc c4 c5;obtain⟨i,ei⟩:=Aj (qx is k);rw[ei]at c1 c2 c3 ft;have EI:Hd (qx is k=i):=ei;clear ei;go_wp2_with fail;refine(Vf ca la cc lc i.code i.looks i.out q qb qb _ ft).mono ?_;exact qhr
   ·exact qkr
 ·go_enter func18,ntmps18
  exact qfc

theorem Xs(n:Int)(ta ra:Option Addr)(tc rc:X)(ts:L By)(rs:L T3)(AL:Int)(hL0:0≤AL)(hL1:AL≤1048576)(w:E)(h:Wc w ta ts ra rs):Calls prog 4 #[G #[I n,J ta ts.length tc,J ra rs.length rc],I AL] w λe w'=>Bw w w'∧∃r:Int,e=H (I r)∧(r<0∨(0≤r∧r≤1048576∧ts.length≤1048576∧Fk rs)):=by
 have ak:Bw w (w.alloc (O #[I n,J ta ts.length tc,J ra rs.length rc] 25)):=aN _ _;have k2:(w.alloc (O #[I n,J ta ts.length tc,J ra rs.length rc] 25)).cell? ⟨w.heap.size,2,N⟩=M (J ra rs.length rc):=qk;have HO:Hd (Wc w ta ts ra rs):=h;clear h;go_enter func4,ntmps4;go_wp2_with fail;refine(Ve ta tc ts _ (HO.o.st.bl ak) HO.o.lt HO.o.xt AL qb qb).mono ?_;rintro e w1 ⟨rfl,r,rfl,hr⟩
 rcases hr with hr|⟨h1,zk,kl⟩
 ·go_wp2
  go_ret;exact⟨ak,-1,rfl,Or.inl qb⟩
 ·have aj:ts.length≤1048576:=qb
  go_wp2_with fail;refine(Tg ra rc rs r _ zk qb (HO.o.rq.bl ak) HO.o.ok).mono ?_;rintro e w2 ⟨ag,r2,rfl,ly⟩;have be:=bt ak ag;clear ak ag k2
  rcases ly with ly|⟨ly,ve,hq⟩
  ·exact qdg
  ·have HQ:Hd (Fk rs):=hq
   clear hq;go_wp2;go_ret;exact⟨be,r2,rfl,Or.inr ⟨qb,qb,aj,HQ.o⟩⟩
theorem Vd(a:Option Addr)(cap:X)(is:L G3)(w:E)(hc:Fr w a is)(hl:is.length≤1048576):Calls prog 65 #[J a is.length cap] w λe w'=>Bw w w'∧∃g:X,e=H (J (p_ g) is.length is.length)∧∃xs,w'.ownsRow w.heap.size 145 3 (J (p_ g) is.length is.length) is.length xs∧Bk is is.length xs:=by
 obtain⟨z0,hi,bq,bg,bv⟩:=info_parts Tryz.info145;go_enter func65,ntmps65
 go_wp2_with (first|(at_make;refine wpList_make_full _ rfl (.tmp 6) (.tmp 6) 92 rfl w.heap.size 145 z0 (G #[S ByteArray.empty,F false,S ByteArray.empty]) 3 underlying92 hi bq bg .i64 .i64 _ _ is.length rfl rfl rfl rfl qan qm (Nat.le_refl _) ?_;intro w1 ah ae))
 have fq:Bw w w1:=(Below.refl _ _).grown ae (Nat.le_refl _) qg;clear ae
 go_loopw [4] (λi wr=>∃k:X,∃xs:L Z,k≤is.length∧i=I k∧wr.ownsRow w.heap.size 145 3 (J (p_ w.heap.size) is.length is.length) is.length xs∧Bk is k xs∧Bw w wr) (λi _=>is.length-(intOf i).toNat)
 case atStart=>exact⟨0,_,Nat.zero_le _,rfl,ah,λi hi=>qb,fq⟩
 case round=>
  obtain⟨k,xs,hk,rfl,ah,M8,am⟩:=hrel
  by_cases aj:k<is.length
  ·obtain⟨b,off,rfl,c1,c2,c3⟩:=(hc.bl am) k aj
   have sr:=filledG_set M8 (show k*3+2<xs.length from qcu);generalize gx is k=i at *;clear fq hc M8;go_wp2_with fail;refine(Xo i _).mono ?_;rintro e w2 ⟨ag,rfl⟩;have aq:=Ab ah ag;have ke:Bw w w2:=am.trans (ag.mono am.size);have bx:=aq.frozenAt;obtain⟨o1,d1⟩:=Bo aq (j:=k*3) qb;obtain⟨o2,d2⟩:=Bo aq (j:=k*3+1) qb;obtain⟨o3,d3⟩:=Bo aq (j:=k*3+2) qb;have HO:Hd (w2.ownsRow w.heap.size 145 3 (J (p_ w.heap.size) is.length is.length) is.length xs):=aq;exact qij
  ·exact qev

theorem Xn(a la:Option Addr)(cap lc:X)(is:L I3)(gs:L G3)(out:By)(w:E)(rc:Bu w a is)(rg:Fr w la gs)(h1:is.length≤1048576)(h2:gs.length≤1048576):Calls prog 44 #[G #[J a is.length cap,J la gs.length lc,S out]] w λe w'=>Bw w w'∧∃g1 g2:X,e=H (G #[J (p_ g1) is.length is.length,J (p_ g2) gs.length gs.length,S out])∧(∃ys,w'.ownsRow w.heap.size 143 3 (J (p_ g1) is.length is.length) is.length ys∧Ck is is.length ys)∧∃zs,w'.ownsRow w.heap.size 145 3 (J (p_ g2) gs.length gs.length) gs.length zs∧Bk gs gs.length zs:=by
 go_enter func44,ntmps44;go_wp2_with fail;have ak:Bw w (((w.alloc (O #[J a is.length cap,J la gs.length lc,S out] 73)).alloc (O #[nS,nS,ze] 94)).alloc (O #[nS,nS,ze] 94)):=((aN _ _).alloc qg _).alloc qh _;refine(Nz a cap is _ (rc.bl ak) h1).mono ?_;rintro e w1 ⟨af,g,rfl,ys,hr,ww⟩;have hg:=(hr.lt g rfl).1;simp at hg;have hb:Bw w w1:=ak.trans (af.mono ak.size);have hz:=af.size;simp at hz;have c01:w1.cell? ⟨w.heap.size,1,N⟩=M (J la gs.length lc):=Aa af qk;have c02:w1.cell? ⟨w.heap.size,2,N⟩=M (S out):=Aa af qk;have Nj:w1.cell? ⟨w.heap.size+1,0,N⟩=M nS:=Aa af qk;have wa:w1.cell? ⟨w.heap.size+1,1,N⟩=M nS:=Aa af qk;have c12:w1.cell? ⟨w.heap.size+1,2,N⟩=M ze:=Aa af qk;have c20:w1.cell? ⟨w.heap.size+1+1,0,N⟩=M nS:=Aa af qk;have c21:w1.cell? ⟨w.heap.size+1+1,1,N⟩=M nS:=Aa af qk;have c22:w1.cell? ⟨w.heap.size+1+1,2,N⟩=M ze:=Aa af qk;have f1:∀j,w1.frozen? ⟨w.heap.size+1,j,N⟩=false:=λj=>by rw[af.frozen (p:=⟨w.heap.size+1,j,N⟩) qg];simp[go_sem]
 have f2:∀j,w1.frozen? ⟨w.heap.size+1+1,j,N⟩=false:=λj=>by rw[af.frozen (p:=⟨w.heap.size+1+1,j,N⟩) qg];simp[go_sem]
 clear ak af;go_wp2_with fail;have kh:Bw w (w1.setCell ⟨w.heap.size+1+1,0,N⟩ (J (p_ g) is.length is.length)):=hb.setCell (p:=⟨w.heap.size+1+1,0,N⟩) qh _;refine(Vd la lc gs _ (rg.bl kh) h2).mono ?_;rintro e w2 ⟨ag,g2,rfl,zs,ly,hfz⟩;have F5:=(ly.lt g2 rfl).1;have ba:Bw w w2:=kh.trans (ag.mono kh.size);have hrs:=Ab (Cx (Ah hr (B':=w.heap.size) qh) (b:=w.heap.size+1+1) (j:=0) qb (J (p_ g) is.length is.length)) ag;have bv:=ag.size;simp at bv;simp at F5;have d02:w2.cell? ⟨w.heap.size,2,N⟩=M (S out):=Aa ag (by simp[go_sem,c02]);have d10:w2.cell? ⟨w.heap.size+1,0,N⟩=M nS:=Aa ag (by simp[go_sem,Nj]);have d11:w2.cell? ⟨w.heap.size+1,1,N⟩=M nS:=Aa ag (by simp[go_sem,wa]);have d12:w2.cell? ⟨w.heap.size+1,2,N⟩=M ze:=Aa ag (by simp[go_sem,c12]);have d20:w2.cell? ⟨w.heap.size+1+1,0,N⟩=M (J (p_ g) is.length is.length):=Aa ag (by simp[go_sem,c20]);have d21:w2.cell? ⟨w.heap.size+1+1,1,N⟩=M nS:=Aa ag (by simp[go_sem,c21]);have d22:w2.cell? ⟨w.heap.size+1+1,2,N⟩=M ze:=Aa ag (by simp[go_sem,c22]);have e1:∀j,w2.frozen? ⟨w.heap.size+1,j,N⟩=false:=λj=>by rw[ag.frozen (p:=⟨w.heap.size+1,j,N⟩) qh];simp[go_sem,f1]
 have e2:∀j,w2.frozen? ⟨w.heap.size+1+1,j,N⟩=false:=λj=>by rw[ag.frozen (p:=⟨w.heap.size+1+1,j,N⟩) qh];simp[go_sem,f2]
 clear ag kh hb c01 c02 Nj wa c12 c20 c21 c22 f1 f2 hr;go_wp2;refine bR (v:=G #[J (p_ g) is.length is.length,J (p_ g2) gs.length gs.length,S out]) (by simp[results,results44,go_sem,d10,d11,d12]) rfl ⟨?_,g,g2,rfl,⟨ys,?_,ww⟩,zs,?_,hfz⟩
 ·exact((((ba.setCell (p:=⟨w.heap.size+1+1,1,N⟩) qh _).setCell (p:=⟨w.heap.size+1+1,2,N⟩) qh _).setCell (p:=⟨w.heap.size+1,0,N⟩) qg _).setCell (p:=⟨w.heap.size+1,1,N⟩) qg _).setCell (p:=⟨w.heap.size+1,2,N⟩) qg _
 ·exact Cx (Cx (Cx (Cx (Cx hrs qb _) qb _) qb _) qb _) qb _
 ·exact Cx (Cx (Cx (Cx (Cx (Ah ly qh) qb _) qb _) qb _) qb _) qb _

theorem Ei.own1{v:Z}(h:Ei w lo' is is.length xs cv lv)(hr:w.ownsRow lo 94 3 v is.length xs)(hl:lo≤lo')(hh:w.heap.size≤hi):Ko w lo hi v is xs cv lv:=
 ⟨⟨hr,λb e=>by have:=(hr.lt b e).2;omega⟩,h.fil,λi hi=>by
  obtain⟨ys,h1,h2⟩:=h.code i hi
  exact⟨ys,⟨Ah h1 hl,λb e=>by have:=(h1.lt b e).2;omega⟩,h2⟩,λi hi=>by
  obtain⟨ys,h1,h2⟩:=h.look i hi;exact⟨ys,⟨Ah h1 hl,λb e=>by have:=(h1.lt b e).2;omega⟩,h2⟩,h.apc,h.apl,h.som⟩
def SomC(is:L T3)(cv:X→Z)(k:X):Prop:=∀i,i<k→∃g cap,cv i=J (p_ g) (qx is i).code.length cap
theorem SomC.add{k:X}(h:SomC is cv k){c:Z}(hc:∃g cp,c=J (p_ g) (qx is k).code.length cp):SomC is (λi=>if i=k then c else cv i) (k+1):=λi hi=>by
 by_cases e:i=k
 ·subst e;show ∃g cap,(if i=i then c else cv i)=_;rw[if_pos rfl];exact hc
 ·show ∃g cap,(if i=k then c else cv i)=_;rw[if_neg e];exact h i qb
def Ig(w:E)(lo hi:X)(v:Z)(rs:L T3):Prop:=∃xs cv lv,Ko w lo hi v rs xs cv lv∧SomC rs cv rs.length
theorem Ig.bl{v:Z}(h:Ig w lo hi v rs)(hb:Bw w w'):Ig w' lo hi v rs:=by obtain⟨xs,cv,lv,h,k⟩:=h;exact⟨xs,cv,lv,h.bl hb,k⟩
theorem Ig.keep{v:Z}(h:Ig w lo hi v rs)(hk:De lo' hi' w w')(hd:hi≤lo'∨hi'≤lo):Ig w' lo hi v rs:=by obtain⟨xs,cv,lv,h,k⟩:=h;exact⟨xs,cv,lv,h.keep hk hd,k⟩
theorem Ig.wide{v:Z}(h:Ig w lo hi v rs)(h1:lo'≤lo)(h2:hi≤hi'):Ig w lo' hi' v rs:=by obtain⟨xs,cv,lv,h,k⟩:=h;exact⟨xs,cv,lv,h.wide h1 h2,k⟩
theorem Ig.set{v:Z}(h:Ig w lo hi v rs)(hb:b<lo)(u:Z):Ig (w.setCell ⟨b,j,N⟩ u) lo hi v rs:=h.keep (De.set (lo:=b) (hi:=b+1) (Nat.le_refl _) (Nat.lt_succ_self _) j u) (Or.inr hb)
theorem Ig.sl{v:Z}(h:Ig w lo hi v rs):∃a cap,v=J a rs.length cap∧Qt w a rs∧Uo w a rs:=by
 obtain⟨xs,cv,lv,h,sc⟩:=h;have fg:=h.row.own
 rcases Dm h.row.own with⟨rfl,h0⟩|⟨g,cap,rfl⟩
 ·exact⟨N,0,by rw[h0],λi hi=>qb,λi hi=>qb⟩
 ·have key:∀i,i<rs.length→∃cg cc lg lc ys zs,w.cell? ⟨g,0+i*3,N⟩=M (J (p_ cg) (qx rs i).code.length cc)∧w.cell? ⟨g,0+i*3+1,N⟩=M (J (p_ lg) (qx rs i).looks.length lc)∧w.cell? ⟨g,0+i*3+2,N⟩=M (S (qx rs i).out)∧Bu w (p_ cg) (qx rs i).code∧Fr w (p_ lg) (qx rs i).looks∧w.ownsRow lo 145 3 (J (p_ lg) (qx rs i).looks.length lc) (qx rs i).looks.length zs∧Bk (qx rs i).looks (qx rs i).looks.length zs∧ys=zs:=λi hi=>by
   obtain⟨f1,f2,f3⟩:=h.fil i hi;obtain⟨ys,k1,k2⟩:=h.code i hi;obtain⟨zs,j1,j2⟩:=h.look i hi;obtain⟨cg,cc,e1⟩:=sc i hi;obtain⟨lg,lc,e2⟩:=h.som i hi;obtain⟨a1,p1,q1,r1⟩:=Qg k1 k2;obtain⟨a2,p2,q2,r2⟩:=Wm j1 j2;rw[e1]at q1 f1;rw[e2]at q2 f2 j1;cases q1;cases q2;refine⟨cg,cc,lg,lc,zs,zs,?_,?_,?_,r1,r2,j1.own,j2,rfl⟩
   ·rw[Nat.zero_add,h.row.own.cellAt _ qb,f1]
   ·rw[Nat.zero_add,h.row.own.cellAt _ qb,f2]
   ·rw[Nat.zero_add,h.row.own.cellAt _ qb,f3]
  refine⟨_,cap,rfl,λi hi=>?_,λi hi=>?_⟩
  ·obtain⟨cg,cc,lg,lc,ys,zs,c1,c2,c3,r1,r2,_⟩:=key i hi
   exact⟨g,0,rfl,cg,0,cc,lg,0,lc,c1,c2,c3,r1,r2⟩
  ·obtain⟨cg,cc,lg,lc,ys,zs,c1,c2,c3,r1,r2,o,f,_⟩:=key i hi
   exact⟨g,0,rfl,_,cc,_,lc,lo,zs,c1,c2,c3,r1,Or.inr ⟨cg,0,rfl⟩,o,f⟩
theorem Vc(a:Option Addr)(cap:X)(is:L T3)(w:E)(hc:Lw w a is)(hk:Fk is):Calls prog 24 #[J a is.length cap] w λe w'=>Bw w w'∧∃g:X,e=H (J (p_ g) is.length is.length)∧Ig w' w.heap.size w'.heap.size (J (p_ g) is.length is.length) is:=by
 obtain⟨z0,hi,bq,bg,bv⟩:=info_parts Tryz.info94;have hl:=hk.1;have HK:Hd (∀i,i<is.length→(qx is i).code.length≤1048576∧(qx is i).looks.length≤1048576):=hk.2;clear hk;go_enter func24,ntmps24
 go_wp2_with (first|(at_make;refine wpList_make_full _ rfl (.tmp 6) (.tmp 6) 33 rfl w.heap.size 94 z0 (G #[nS,nS,S ByteArray.empty]) 3 underlying33 hi bq bg .i64 .i64 _ _ is.length rfl rfl rfl rfl qan qm (Nat.le_refl _) ?_;intro w1 ah ae))
 have fq:Bw w w1:=(Below.refl _ _).grown ae (Nat.le_refl _) qg;clear ae
 go_loopw [4] (λi wr=>∃(k:X)(xs:L Z)(cv lv:X→Z),k≤is.length∧i=I k∧wr.ownsRow w.heap.size 94 3 (J (p_ w.heap.size) is.length is.length) is.length xs∧Hd (Ei wr (w.heap.size+1) is k xs cv lv)∧Hd (SomC is cv k)∧Bw w wr) (λi _=>is.length-(intOf i).toNat)
 case atStart=>exact⟨0,_,_,_,Nat.zero_le _,rfl,ah,Ei.zero _ _ _ _,(λi hi=>by omega:SomC is _ 0),fq⟩
 case round=>
  obtain⟨k,xs,cv,lv,hk,rfl,ah,HP,A8,am⟩:=hrel
  by_cases aj:k<is.length
  ·obtain⟨b,off,rfl,ca,cc,la,lc,c1,c2,c3,c4,c5⟩:=(hc.bl am) k aj
   have yg:=HK.o k aj;have C0:k*3+2<xs.length:=qcu;have hgl:w.heap.size<wr.heap.size:=(ah.lt _ rfl).2;have HF:Hd (∀(W:E)(c d:Z)(ys zs:L Z),Bw wr W→W.ownsRow wr.heap.size 143 3 c (qx is k).code.length ys→Ck (qx is k).code (qx is k).code.length ys→W.ownsRow wr.heap.size 145 3 d (qx is k).looks.length zs→Bk (qx is k).looks (qx is k).looks.length zs→(∃g cap,d=J (p_ g) (qx is k).looks.length cap)→Ei W (w.heap.size+1) is (k+1) (((xs.set (k*3) c).set (k*3+1) d).set (k*3+2) (S (qx is k).out)) (λi=>if i=k then c else cv i) (λi=>if i=k then d else lv i)):=λW c d ys zs h1 h2 h3 h4 h5 h6=>HP.o.add (λb _ hl=>Or.inl (h1.block b hl)) hgl h2 h3 h4 h5 h6 (λj hj=>set3_old _ _ _ hj) (set3_0 _ _ _ C0) (set3_1 _ _ _ C0) (set3_2 _ _ _ C0);have pd:Hd (∀c,(∃g cp,c=J (p_ g) (qx is k).code.length cp)→SomC is (λi=>if i=k then c else cv i) (k+1)):=λc hc=>A8.o.add hc;clear A8;generalize qx is k=i at *;have C4:Hd (Bu wr ca i.code):=c4;have C5:Hd (Fr wr la i.looks):=c5;clear fq hc c4 c5;go_wp2_with fail;refine(Xn ca la cc lc i.code i.looks i.out _ C4.o C5.o yg.1 yg.2).mono ?_;rintro e w2 ⟨ag,g1,g2,rfl,⟨ys,kl,ww⟩,zs,ly,hfz⟩;have aq:=Ab ah ag;have ke:Bw w w2:=am.trans (ag.mono am.size);have bx:=aq.frozenAt;have sr:=(((HF.o w2 _ _ ys zs ag kl ww ly hfz ⟨_,_,rfl⟩).set (b:=w.heap.size) (j:=k*3) (Nat.lt_succ_self _) (J (p_ g1) i.code.length i.code.length)).set (b:=w.heap.size) (j:=k*3+1) (Nat.lt_succ_self _) (J (p_ g2) i.looks.length i.looks.length)).set (b:=w.heap.size) (j:=k*3+2) (Nat.lt_succ_self _) (S i.out);obtain⟨o1,d1⟩:=Bo aq (j:=k*3) qb;obtain⟨o2,d2⟩:=Bo aq (j:=k*3+1) qb;obtain⟨o3,d3⟩:=Bo aq (j:=k*3+2) qb;have HO:Hd (w2.ownsRow w.heap.size 94 3 (J (p_ w.heap.size) is.length is.length) is.length xs):=aq;have fl:Hd _:=sr;clear ah aq ag am sr HP HF kl ly ww hfz;go_wp2;go_roundw
   case rel=>exact⟨k+1,_,_,_,qb,qj,(((HO.o.stored _ _).1.stored _ _).1.stored _ _).1,fl.o,pd.o _ ⟨_,_,rfl⟩,((ke.setCell (Nat.le_refl _) _).setCell (Nat.le_refl _) _).setCell (Nat.le_refl _) _⟩
   case measure=>simp[intOf];omega
  ·have ek:k=is.length:=qb
   subst ek;go_wp2;go_ret;exact⟨am,_,rfl,_,_,_,HP.o.own1 ah (Nat.le_succ _) (Nat.le_refl _),A8.o⟩

theorem Mo(n:Int)(ta ra:Option Addr)(tc rc:X)(ts:L By)(rs:L T3)(w:E)(st:Cc w ta ts)(rq:Lw w ra rs)(hl:ts.length≤1048576)(hq:Fk rs):Calls prog 7 #[G #[I n,J ta ts.length tc,J ra rs.length rc]] w λe w'=>Bw w w'∧∃(g1:X)(v2:Z),e=H (G #[I n,J (p_ g1) ts.length ts.length,v2])∧Cp w' w.heap.size w'.heap.size (J (p_ g1) ts.length ts.length) ts∧Ig w' w.heap.size w'.heap.size v2 rs:=by
 have fh:Hd (Cc w ta ts):=st;have HRQ:Hd (Lw w ra rs):=rq;have HQS:Hd (Fk rs):=hq;clear st rq hq;go_enter func7,ntmps7;go_wp2_with fail;have ak:Bw w (((w.alloc (O #[I n,J ta ts.length tc,J ra rs.length rc] 25)).alloc (O #[I 0,nS,nS] 35)).alloc (O #[I n,nS,nS] 35)):=((aN _ _).alloc qg _).alloc qh _;refine(Va ta tc ts _ (fh.o.bl ak) hl).mono ?_;rintro e w1 ⟨af,g,rfl,hr⟩;have hg:=(hr.lt g rfl).1;simp at hg;rw[Uc]at hr;have gy:Hd (Cp w1 (w.heap.size+1+1+1) w1.heap.size (J (p_ g) ts.length ts.length) ts):=Bg.new (Ah hr qg);have hb:Bw w w1:=ak.trans (af.mono ak.size);have hz:=af.size;simp at hz;have c02:w1.cell? ⟨w.heap.size,2,N⟩=M (J ra rs.length rc):=Aa af qk;have Nj:w1.cell? ⟨w.heap.size+1,0,N⟩=M (I 0):=Aa af qk;have wa:w1.cell? ⟨w.heap.size+1,1,N⟩=M nS:=Aa af qk;have c12:w1.cell? ⟨w.heap.size+1,2,N⟩=M nS:=Aa af qk;have c20:w1.cell? ⟨w.heap.size+1+1,0,N⟩=M (I n):=Aa af qk;have c21:w1.cell? ⟨w.heap.size+1+1,1,N⟩=M nS:=Aa af qk;have c22:w1.cell? ⟨w.heap.size+1+1,2,N⟩=M nS:=Aa af qk;have f1:∀j,w1.frozen? ⟨w.heap.size+1,j,N⟩=false:=λj=>by rw[af.frozen (p:=⟨w.heap.size+1,j,N⟩) qg];simp[go_sem]
 have f2:∀j,w1.frozen? ⟨w.heap.size+1+1,j,N⟩=false:=λj=>by rw[af.frozen (p:=⟨w.heap.size+1+1,j,N⟩) qg];simp[go_sem]
 clear ak af;go_wp2_with fail;have kh:Bw w (w1.setCell ⟨w.heap.size+1+1,1,N⟩ (J (p_ g) ts.length ts.length)):=hb.setCell (p:=⟨w.heap.size+1+1,1,N⟩) qh _;refine(Vc ra rc rs _ (HRQ.o.bl kh) HQS.o).mono ?_;rintro e w2 ⟨ag,g2,rfl,ly⟩;have ba:Bw w w2:=kh.trans (ag.mono kh.size);have cr:Hd (Cp w2 (w.heap.size+1+1+1) w1.heap.size (J (p_ g) ts.length ts.length) ts):=(gy.o.set (j:=1) (show w.heap.size+1+1<w.heap.size+1+1+1 from qb) _).bl ag;have bv:=ag.size;simp at bv;have HT2:Hd (Ig w2 (w.heap.size+1+1+1) w2.heap.size (J (p_ g2) rs.length rs.length) rs):=ly.wide qh (Nat.le_refl _);have hs12:w1.heap.size≤w2.heap.size:=by simpa using ag.size
 have d10:w2.cell? ⟨w.heap.size+1,0,N⟩=M (I 0):=Aa ag (by simp[go_sem,Nj]);have d11:w2.cell? ⟨w.heap.size+1,1,N⟩=M nS:=Aa ag (by simp[go_sem,wa]);have d12:w2.cell? ⟨w.heap.size+1,2,N⟩=M nS:=Aa ag (by simp[go_sem,c12]);have d20:w2.cell? ⟨w.heap.size+1+1,0,N⟩=M (I n):=Aa ag (by simp[go_sem,c20]);have d21:w2.cell? ⟨w.heap.size+1+1,1,N⟩=M (J (p_ g) ts.length ts.length):=Aa ag (by simp[go_sem,c21]);have d22:w2.cell? ⟨w.heap.size+1+1,2,N⟩=M nS:=Aa ag (by simp[go_sem,c22]);have e1:∀j,w2.frozen? ⟨w.heap.size+1,j,N⟩=false:=λj=>by rw[ag.frozen (p:=⟨w.heap.size+1,j,N⟩) qh];simp[go_sem,f1]
 have e2:∀j,w2.frozen? ⟨w.heap.size+1+1,j,N⟩=false:=λj=>by rw[ag.frozen (p:=⟨w.heap.size+1+1,j,N⟩) qh];simp[go_sem,f2]
 clear ag kh hb c02 Nj wa c12 c20 c21 c22 f1 f2 hr ly gy;go_wp2;refine bR (v:=G #[I n,J (p_ g) ts.length ts.length,J (p_ g2) rs.length rs.length]) (by simp[results,results7,go_sem,d10,d11,d12]) rfl ⟨?_,_,_,rfl,?_,?_⟩
 ·exact(((ba.setCell (p:=⟨w.heap.size+1+1,2,N⟩) qh _).setCell (p:=⟨w.heap.size+1,0,N⟩) qg _).setCell (p:=⟨w.heap.size+1,1,N⟩) qg _).setCell (p:=⟨w.heap.size+1,2,N⟩) qg _
 ·exact((((cr.o.set qb _).set qb _).set qb _).set qb _).wide qb qh
 ·exact((((HT2.o.set qb _).set qb _).set qb _).set qb _).wide qb qg
end Go.Proofs.YtbkkjodaaijimaaGreatDoor
