import Derived.Test.YtnflkpmmfpfhlaaGreatDoorBaA
namespace Go.Proofs.YtnflkpmmfpfhlaaGreatDoor
open Value renaming slice->J,string->S,bool->F,agg->G
open Option renaming some->M,none->N
open Obj renaming cells->O
open Go renaming Value->Z,World->E
open Ending renaming returned->H
open _root_ renaming List->L,Nat->X
set_option maxHeartbeats 8000000
set_option maxRecDepth 100000
open _root_.Go.Proofs.Tryz Go.RowKit Go.Deep
set_option linter.unusedVariables false
set_option linter.unusedSimpArgs false
variable {w w' w2:E} {lo lo' n T B g cap j hi b m hi':X} {cv lv:X→Z} {zs ys xs:L Z} {is rs:L T3} {v:Z} {cl gl:X→X}
theorem BW.base{d:BD}{cv tx qv nv ev:Z}{kv:X→Z}(h:BW w lo d cv tx qv nv ev zs kv lv)(hl:lo'≤lo):BW w lo' d cv tx qv nv ev zs kv lv:=
 ⟨Ah h.ch hl,Ah h.txs hl,⟨Ah h.rq.row hl,h.rq.fil,λi hi=>by obtain⟨ys,a,b⟩:=h.rq.code i hi;exact⟨ys,Ah a hl,b⟩,λi hi=>by obtain⟨ys,a,b⟩:=h.rq.look i hi;exact⟨ys,Ah a hl,b⟩,h.rq.apc,h.rq.apl⟩,Ah h.ran hl,Ah h.held hl⟩
theorem mostT_le(k:Int):Kt k≤2000:=by unfold Kt;repeat' split<;>decide
theorem prog_text{is:L I3}(h:Av is=true)(j:X):(ix is j).text.size≤maxLen:=by
 by_cases hj:j<is.length
 ·unfold Av at h
  simp only[Bool.and_eq_true,decide_eq_true_eq]at h;have h1:=h.2 j hj;unfold Hk at h1;simp only[Bool.and_eq_true,decide_eq_true_eq]at h1;have h2:=mostT_le (Er (ix is j).op);unfold maxLen;omega
 ·have:ix is j=i0:=by simp[ix,gG,List.getElem?_eq_none (Nat.le_of_not_lt hj)]
  rw[this];unfold i0 maxLen;decide
theorem Jd.qs{T:L By}{R:L T3}(h:Jd n T R)(hn:n≤8):QsOk R∧Ec R∧∀i,(nx T i).size≤maxLen:=by
 have hq:∀i,¬ i<R.length→qx R i=⟨[],[],ByteArray.empty⟩:=λi hi=>by simp[qx,gG,List.getElem?_eq_none (Nat.le_of_not_lt hi)];rfl
 have hg:∀(gs:L G3)(j:X),¬ j<gs.length→gx gs j=g00:=λgs j hj=>by simp[gx,gG,List.getElem?_eq_none (Nat.le_of_not_lt hj)]
 have e0:ByteArray.empty.size≤maxLen:=by unfold maxLen;decide
 refine⟨⟨by have:=h.2.1;unfold maxLen;omega,λi=>?_,λi=>?_,λi j=>?_,λi j=>?_,λi j=>?_,λi=>?_⟩,⟨by have:=h.2.1;omega,λi hi=>?_⟩,λi=>?_⟩
 ·by_cases hi:i<R.length
  ·have:=(Gz (h.2.2 i hi).1).2;unfold maxLen;omega
  ·rw[hq i hi];exact Nat.zero_le _
 ·by_cases hi:i<R.length
  ·have:=(h.2.2 i hi).2.2.1;unfold maxLen;omega
  ·rw[hq i hi];exact Nat.zero_le _
 ·by_cases hi:i<R.length
  ·exact prog_text (h.2.2 i hi).1 j
  ·rw[hq i hi];show(ix [] j).text.size≤_;simp[ix,i0]
 ·by_cases hi:i<R.length
  ·by_cases hj:j<(qx R i).looks.length
   ·have:=((h.2.2 i hi).2.2.2 j hj).1.2;unfold maxLen;omega
   ·rw[hg _ _ hj];exact e0
  ·rw[hq i hi];show(gx [] j).name.size≤_;rw[hg _ _ qi];exact e0
 ·by_cases hi:i<R.length
  ·by_cases hj:j<(qx R i).looks.length
   ·have:=((h.2.2 i hi).2.2.2 j hj).2;unfold maxLen;omega
   ·rw[hg _ _ hj];exact e0
  ·rw[hq i hi];show(gx [] j).sum.size≤_;rw[hg _ _ qi];exact e0
 ·by_cases hi:i<R.length
  ·have:=(h.2.2 i hi).2.1;unfold maxLen;omega
  ·rw[hq i hi];exact e0
 ·have h1:=(Gz (h.2.2 i hi).1).2
  have h2:=(h.2.2 i hi).2.2.1;omega
 ·by_cases hi:i<T.length
  ·have:=h.1.2.1 i hi;unfold maxLen;omega
  ·have:nx T i=ByteArray.empty:=by simp[nx,gG,List.getElem?_eq_none (Nat.le_of_not_lt hi)]
   rw[this];exact e0
theorem Uw(n:Int)(tb tc:X)(qa sa ta:Option Addr)(qc c1 c2:X)(T:L By)(R:L T3)(ss:L S2)(ts:L T2)(nm:By)(w:E)(cr:Nv w (p_ tb) T qa R)(rv:Rc w qa R)(hr:R.length≤1048576)(jg:∀i,i<R.length→(qx R i).code.length≤1048576∧(qx R i).looks.length≤1048576)(sw:Li w sa ss ta ts)(ku:Ep ss ts)(cz:nm.size<=9223372036854775807):Calls prog 51 #[G #[I n,J (p_ tb) T.length tc,J qa R.length qc],G #[J sa ss.length c1,J ta ts.length c2],S nm] w λe w'=>Bw w w'∧∃d cv tx qv nv ev zs kv lv,e=H (G (bV d cv tx qv nv ev))∧SaysB n ss ts T R nm d∧BW w' w.heap.size d cv tx qv nv ev zs kv lv∧∃g p,tx=J (p_ g) d.T.length p:=by
 by_cases hv:Jc n T R∧Fx ss ts=0∧Ao nm
 ·obtain⟨m,rfl⟩:=Int.eq_ofNat_of_zero_le (show 0<=n by have:=hv.1.1;omega)
  refine(Xc m tb qa sa ta tc qc c1 c2 T R ss ts nm w hv.1 hv.2.1 hv.2.2 cr rv sw ku).mono ?_;rintro e w' ⟨hb,ms',s',a,bv,⟨d,tx,qv,nv,ev,rfl,rfl,hs,h3,h4⟩|⟨b,x,y,cv,tx,qv,A,B',rfl,h1,rfl,hs⟩⟩
  ·obtain⟨zs,kv,lv,r⟩:=hs.rcs
   exact⟨hb,⟨d.c,d.t,[],m,s'.T,s'.R,s'.ran,s'.held,⟨#[]⟩,⟨#[]⟩⟩,_,_,_,_,_,zs,kv,lv,rfl,Or.inr ⟨hv,ms',s',_,bv,Or.inl ⟨d,rfl,rfl⟩⟩,⟨Ff _ _,hs.txt,r,h3,h4⟩,hs.txa⟩
  ·obtain⟨rfl,rfl,ho,rfl,rfl⟩:=h1.says
   obtain⟨zs,kv,lv,r⟩:=hs.rcs;exact⟨hb,⟨Hx b,txF b,chF b,m,T,R,[],[],clA b,clB b⟩,_,_,_,_,_,zs,kv,lv,rfl,Or.inr ⟨hv,ms',s',_,bv,Or.inr ⟨b,rfl,rfl⟩⟩,⟨ho,hs.txt,r,Ff _ _,Ff _ _⟩,hs.txa⟩
 ·refine(Qag n tb 0 tc qa sa ta qc c1 c2 T R ss ts nm w cr rv hr jg sw ku cz hv).mono ?_
  rintro e w' ⟨hb,v,rfl,tx,qv,rfl,hs⟩;obtain⟨zs,kv,lv,r⟩:=hs.rcs;exact⟨hb,⟨9,⟨#[]⟩,[],n,T,R,[],[],⟨#[]⟩,⟨#[]⟩⟩,_,_,_,_,_,zs,kv,lv,rfl,Or.inl ⟨hv,rfl⟩,⟨Ff _ _,hs.txt,r,Ff _ _,Ff _ _⟩,hs.txa⟩
def Keep9(v:Z)(w w':E):Prop:=∀(b:X)(cs:Array Z),w.heap[b]?=M (O cs 9 (0,0))→v.ownBlock≠M b→w'.heap[b]?=M (O cs 9 (0,0))
def Vd(K n:X)(ys:L Z):Prop:=∀i,i<n→ys[i]?=M (S (mt (K+i)))
theorem Ox(a:Option Addr)(cap:X)(ss:L By)(w:E)(hc:Cu w a ss)(hl:ss.length≤maxLen)(hs:∀s∈ss,s.size≤maxLen)(AL:Int)(hL0:0≤AL)(hL:AL≤1048576):Calls prog 6 #[J a ss.length cap,I AL] w λe w'=>w=w'∧∃r:Int,e=H (I r)∧(r<0∨((ss.length+Py ss:Int)≤AL∧0≤r∧r≤AL)):=by
 have L5:=getD_le hs;unfold maxLen at hl L5
 by_cases h0:(ss.length:Int)≤AL
 ·go_enter func6,ntmps6
  go_wp2
  go_loop [1,5] (λl i=>∃k:X,k≤ss.length∧i=I k∧l=I (AL-ss.length-Py (ss.take k))∧(ss.length+Py (ss.take k):Int)≤AL) (λ_ i=>ss.length-(intOf i).toNat)
  case atStart=>exact⟨0,Nat.zero_le _,rfl,by simp[Py],by simpa [Py] using h0⟩
  case round=>
   obtain⟨k,hk,rfl,rfl,ht⟩:=hrel
   by_cases ai:k<ss.length
   ·obtain⟨b,off,rfl,C6⟩:=hc k ai
    have U0:=Ta ss k ai;have ge:=L5 k;clear L5;generalize ss.getD k ByteArray.empty=s at *;have HT:=Ab U0;clear U0
    by_cases hneg:AL-ss.length-Py (ss.take k)-s.size<0
    ·go_wp2
     go_ret;exact⟨rfl,-1,rfl,qg⟩
    ·go_wp2
     go_round
     case rel=>exact⟨k+1,qg,qm,by rw[HT.o];go_num,by rw[HT.o];omega⟩
     case measure=>simp[intOf];omega
   ·go_wp2
    go_ret;rw[List.take_of_length_le (show ss.length≤k from qg)]at ht ⊢;exact⟨rfl,_,rfl,qg⟩
 ·go_enter func6,ntmps6
  go_wp2;go_ret;exact⟨rfl,-1,rfl,qg⟩

theorem Nq(a a':Option Addr)(cap aj:X)(ss:L By)(w:E)(hc:Cu w a ss)(pa:Cu w a' ss)(hl:ss.length≤1048576):Calls prog 14 #[J a ss.length cap,J a' ss.length aj] w λe w'=>Bw w w'∧e=H (F true):=by
 go_enter func14,ntmps14;go_wp2
 go_loopw [5] (λi wr=>∃k:X,k≤ss.length∧i=I k∧Bw w wr) (λi _=>ss.length-(intOf i).toNat)
 case atStart=>exact⟨0,Nat.zero_le _,rfl,Below.refl _ _⟩
 case round=>
  obtain⟨k,hk,rfl,am⟩:=hrel
  by_cases ai:k<ss.length
  ·obtain⟨b,off,rfl,C6⟩:=(hc.bl am) k ai
   obtain⟨b',bz,rfl,hck'⟩:=(pa.bl am) k ai;generalize ss.getD k ByteArray.empty=s at *;clear hc pa;go_wp2;go_region
   all_goals
    go_wp2;go_roundw
    case rel=>exact⟨k+1,qg,qm,by repeat (first|exact am|apply Below.drew)⟩
    case measure=>simp[intOf];omega
  ·exact qbu

theorem Zu(i:G3)(l:Int)(w:E)(h0:0≤l)(h1:l≤1048576)(hs:i.name.size≤maxLen)(ht:i.sum.size≤maxLen):Calls prog 103 #[G #[S i.name,F i.ask,S i.sum],I l] w λe w'=>Bw w w'∧∃r:Int,e=H (I r)∧(r<0∨(0≤r∧r≤l∧i.sum.size≤1048576)):=by
 unfold maxLen at hs ht
 by_cases h:l-i.name.size<0
 ·exact qfp
 ·by_cases h2:l-i.name.size-i.sum.size<0
  ·exact qfp
  ·exact qfp

theorem Wz(a:Option Addr)(cap:X)(is:L G3)(lft:Int)(w:E)(hf0:0≤lft)(C0:lft≤1048576)(hc:Gf w a is)(hl:is.length≤maxLen)(hs:∀i,(gx is i).name.size≤maxLen)(ht:∀i,(gx is i).sum.size≤maxLen):Calls prog 74 #[J a is.length cap,I lft] w λe w'=>Bw w w'∧∃r:Int,e=H (I r)∧(r<0∨((is.length:Int)≤lft∧0≤r∧r≤lft∧∀i,i<is.length→(gx is i).sum.size≤1048576)):=by
 have M3:=hl;unfold maxLen at M3
 by_cases h0:(is.length:Int)≤lft
 ·go_enter func74,ntmps74
  go_wp2
  go_loopw [1,5] (λl i wr=>∃k:X,∃q:Int,k≤is.length∧i=I k∧l=I q∧0≤q∧q≤lft∧Bw w wr∧Hd (∀i,i<k→(gx is i).sum.size≤1048576)) (λ_ i _=>is.length-(intOf i).toNat)
  case atStart=>exact⟨0,_,Nat.zero_le _,rfl,rfl,qg,qg,Below.refl _ _,(λi hi=>by omega:∀i,i<0→(gx is i).sum.size≤1048576)⟩
  case round=>
   obtain⟨k,q,hk,rfl,rfl,hq0,mh,bc,HK⟩:=hrel
   by_cases ai:k<is.length
   ·obtain⟨b,off,rfl,c1,c2,c3⟩:=(hc.bl bc) k ai
    have ge:=hs k;have fk:=ht k;clear hs ht hc;obtain⟨i,ei⟩:=Aj (gx is k);rw[ei]at c1 c2 c3 ge fk;have EI:=Ab ei;clear ei;go_wp2_with fail;refine(Zu i _ _ qg qg ge fk).mono ?_;exact qix
   ·go_wp2
    go_ret;exact⟨bc,_,rfl,Or.inr ⟨qg,qg,qg,λi hi=>HK.o i qg⟩⟩
 ·go_enter func74,ntmps74
  exact qgd

theorem Zo(i:G3)(w:E):Calls prog 116 #[G #[S i.name,F i.ask,S i.sum]] w λe w'=>Bw w w'∧e=H (G #[S i.name,F i.ask,S i.sum]):=by
 go_enter func116,ntmps116;go_wp2;exact bR (v:=G #[S i.name,F i.ask,S i.sum]) (by simp[results,results116,go_sem]) rfl ⟨((aN _ _).alloc qi _).alloc qj _,rfl⟩

theorem Xp(i:G3)(w:E):Calls prog 130 #[G #[S i.name,F i.ask,S i.sum],G #[S i.name,F i.ask,S i.sum]] w λe w'=>Bw w w'∧e=H (F true):=by
 go_enter func130,ntmps130;exact qfy

theorem Wb(a a':Option Addr)(cap aj:X)(is:L G3)(w:E)(hc:Gf w a is)(pa:Gf w a' is)(hl:is.length≤1048576):Calls prog 101 #[J a is.length cap,J a' is.length aj] w λe w'=>Bw w w'∧e=H (F true):=by
 go_enter func101,ntmps101;go_wp2
 go_loopw [5] (λi wr=>∃k:X,k≤is.length∧i=I k∧Bw w wr) (λi _=>is.length-(intOf i).toNat)
 case atStart=>exact⟨0,Nat.zero_le _,rfl,Below.refl _ _⟩
 case round=>
  obtain⟨k,hk,rfl,am⟩:=hrel
  by_cases ai:k<is.length
  ·obtain⟨b,off,rfl,c1,c2,c3⟩:=(hc.bl am) k ai
   obtain⟨b',bz,rfl,d1,d2,d3⟩:=(pa.bl am) k ai;generalize gx is k=i at *;clear hc pa;have fs:(k:Int)<(is.length:Int):=qg;have jn:(0:Int)≤(k:Int):=qg;go_wp2_with fail
   go_region_held3 (λw'=>(w'.cell? ⟨b,off+k*3,N⟩=M (S i.name)∧w'.cell? ⟨b,off+k*3+1,N⟩=M (F i.ask)∧w'.cell? ⟨b,off+k*3+2,N⟩=M (S i.sum))∧(w'.cell? ⟨b',bz+k*3,N⟩=M (S i.name)∧w'.cell? ⟨b',bz+k*3+1,N⟩=M (F i.ask)∧w'.cell? ⟨b',bz+k*3+2,N⟩=M (S i.sum)))
    (first|assumption|(simp[*];done)|exact⟨⟨Aa ag qu,Aa ag qu,Aa ag qu⟩,Aa ag qu,Aa ag qu,Aa ag qu⟩)
    (first|(go_at_call 130;refine(Xp i _).mono ?_;rintro e w1 ⟨ag,rfl⟩))
   all_goals
    go_wp2;go_roundw
    case rel=>exact⟨k+1,qg,qm,am.trans (Below.trans (Below.drew (Below.refl _ _)) (ag.mono qda))⟩
    case measure=>simp[intOf];omega
  ·exact qbu

theorem Xo(a a' la zh:Option Addr)(cap aj lc B7:X)(is:L I3)(gs:L G3)(out:By)(w:E)(rc:Cn w a is)(rc':Cn w a' is)(rg:Gf w la gs)(rg':Gf w zh gs)(h1:is.length≤1048576)(h2:gs.length≤1048576):Calls prog 66 #[G #[J a is.length cap,J la gs.length lc,S out],G #[J a' is.length aj,J zh gs.length B7,S out]] w λe w'=>Bw w w'∧e=H (F true):=by
 have ak:Bw w ((w.alloc (O #[J a is.length cap,J la gs.length lc,S out] 73)).alloc (O #[J a' is.length aj,J zh gs.length B7,S out] 73)):=(aN _ _).alloc qi _;have k1:((w.alloc (O #[J a is.length cap,J la gs.length lc,S out] 73)).alloc (O #[J a' is.length aj,J zh gs.length B7,S out] 73)).cell? ⟨w.heap.size,1,N⟩=M (J la gs.length lc):=qo;have k2:((w.alloc (O #[J a is.length cap,J la gs.length lc,S out] 73)).alloc (O #[J a' is.length aj,J zh gs.length B7,S out] 73)).cell? ⟨w.heap.size,2,N⟩=M (S out):=qo;have k3:((w.alloc (O #[J a is.length cap,J la gs.length lc,S out] 73)).alloc (O #[J a' is.length aj,J zh gs.length B7,S out] 73)).cell? ⟨w.heap.size+1,1,N⟩=M (J zh gs.length B7):=qo;have k4:((w.alloc (O #[J a is.length cap,J la gs.length lc,S out] 73)).alloc (O #[J a' is.length aj,J zh gs.length B7,S out] 73)).cell? ⟨w.heap.size+1,2,N⟩=M (S out):=qo;go_enter func66,ntmps66;go_wp2_with fail;refine(Nr a a' cap aj is _ (rc.bl ak) (rc'.bl ak) h1).mono ?_;rintro e w1 ⟨ag,rfl⟩;have bm:=bt ak ag;have c1:=Aa ag k1;have c2:=Aa ag k2;have c3:=Aa ag k3;have c4:=Aa ag k4;clear ak ag k1 k2 k3 k4;go_wp2_with fail;refine(Wb la zh lc B7 gs _ (rg.bl bm) (rg'.bl bm) h2).mono ?_;rintro e w2 ⟨af,rfl⟩;have bg:=bt bm af;have d2:=Aa af c2;have d4:=Aa af c4;clear af bm c1 c2 c3 c4;go_wp2;go_ret;exact⟨bg,rfl⟩

def RdI(K n:X)(w:E)(g:X):Prop:=∀i,i<n→w.cell? ⟨g,i*3,N⟩=M (I ((K+3*i:X):Int))∧w.cell? ⟨g,i*3+1,N⟩=M (S (mt (K+3*i+1)))∧w.cell? ⟨g,i*3+2,N⟩=M (I ((K+3*i+2:X):Int))
theorem MkI.read{K:X}(h:w.ownsRow B 174 3 (J (p_ g) n cap) n ys)(hm:MkI K n ys):RdI K n w g:=by
 exact qkj
theorem RdI.bl{K:X}(h:RdI K n w g)(hb:Bw w w'):RdI K n w' g:=λi hi=>
 ⟨Aa hb (h i hi).1,Aa hb (h i hi).2.1,Aa hb (h i hi).2.2⟩

theorem heldInsS_any(g n cap K:X)(w:E)(hr:RdI K n w g)(hn:n≤1048576)(h1:1≤K)(h2:K≤900000000000000):Calls prog 71 #[J (p_ g) n cap,I K] w λe w'=>e=H (I ((K+3*n:X):Int))∧Bw w w':=by
 have HR:=Ab hr;clear hr;go_enter func71,ntmps71;go_wp2
 go_loopw [1,5] (λk i wr=>∃(m:X),m≤n∧i=I m∧k=I ((K+3*m:X):Int)∧Bw w wr) (λ_ i _=>n-(intOf i).toNat)
 case atStart=>exact⟨0,Nat.zero_le _,rfl,rfl,Below.refl _ _⟩
 case round=>
  obtain⟨m,hm,rfl,rfl,bc⟩:=hrel
  by_cases ai:m<n
  ·obtain⟨c1,c2,c3⟩:=(HR.o.bl bc) m ai
   have F6:K+3*m+1<1000000000000000:=qg;have HT:Hd (∀W:E,Calls prog 43 #[I ((K+3*m+1:X):Int)] W λe w'=>Bw W w'∧e=H (S (mt (K+3*m+1)))):=λW=>Cy (K+3*m+1) W qg F6;generalize mt (K+3*m+1)=t at *;obtain⟨c,ec⟩:=Aj (K+3*m);rw[ec]at c1 c3 HT F6 ⊢;have HE:=Ab ec;clear ec;have et:=Fk (rfl:t=t);have E4:(m:Int)<(n:Int):=qg;have hm0:(0:Int)≤(m:Int):=qg;have e1:(((c+1:X):Int))=(c:Int)+1:=qg;have e2:(((c+2:X):Int))=(c:Int)+1+1:=qg;rw[e2]at c3;have cq:Bw wr wr.drew:=(Below.refl _ _).drew;clear e1 e2;go_wp2_with fail
   go_region_held3 (λw'=>w'.cell? ⟨g,m*3,N⟩=M (I (c:Int))∧w'.cell? ⟨g,m*3+1,N⟩=M (S t)∧w'.cell? ⟨g,m*3+2,N⟩=M (I ((c:Int)+1+1)))
    (first|assumption|(simp[*];done)|exact⟨Aa af qu,Aa af qu,Aa af qu⟩)
    (first|(go_at_call 43;refine(HT.o _).mono ?_;rintro e w2 ⟨af,rfl⟩))
   all_goals
    have bg:=bt bc (bt cq af);clear c1 c2 c3 af cq;exact qkq
  ·exact qdn

def MkG(K n:X)(ys:L Z):Prop:=∀i,i<n→ys[i*3]?=M (S (mt (K+3*i)))∧ys[i*3+1]?=M (F (mb (K+3*i+1)))∧ys[i*3+2]?=M (S (mt (K+3*i+2)))
theorem mkG_set{K k:X}(h:MkG K k ys)(hx:k*3+2<ys.length):MkG K (k+1) (((ys.set (k*3) (S (mt (K+3*k)))).set (k*3+1) (F (mb (K+3*k+1)))).set (k*3+2) (S (mt (K+3*k+2)))):=by
 exact qiu
theorem rem3(c:X):(((c:Int)+1) % 3 == 0)=mb (c+1):=by
 unfold mb;rw[Bool.eq_iff_iff];simp;omega

theorem Tq(B g n cap K:X)(xs:L Z)(w:E)(ah:w.ownsRow B 115 3 (J (p_ g) n cap) n xs)(hB:B≤w.heap.size)(hn:n≤1048576)(h1:1≤K)(h2:K≤900000000000000):Calls prog 70 #[J (p_ g) n cap,I K] w λe w'=>e=H (I ((K+3*n:X):Int))∧Below B w w'∧Gr g w w'∧∃ys,w'.ownsRow B 115 3 (J (p_ g) n cap) n ys∧MkG K n ys:=by
 have yv:B≤g:=(ah.lt g rfl).1;go_enter func70,ntmps70;go_wp2
 go_loopw [1,5] (λk i wr=>∃(m:X)(ys:L Z),m≤n∧i=I m∧k=I ((K+3*m:X):Int)∧Hd (wr.ownsRow B 115 3 (J (p_ g) n cap) n ys)∧Hd (MkG K m ys)∧Hd (Gr g w wr)∧w.heap.size≤wr.heap.size∧Below B w wr) (λ_ i _=>n-(intOf i).toNat)
 case atStart=>exact⟨0,xs,Nat.zero_le _,rfl,rfl,ah,(λi hi=>by omega:MkG K 0 xs),(λb _ _=>rfl:Gr g w w),Nat.le_refl _,Below.refl _ _⟩
 case round=>
  obtain⟨m,ys,hm,rfl,rfl,HO,HM,HK,de,bc⟩:=hrel;clear ah
  by_cases ai:m<n
  ·have L9:m*3+2<ys.length:=by rw[HO.o.1];omega
   have lz:=Ab (mkG_set HM.o L9);have F6:K+3*m+2<1000000000000000:=qg;have HT:Hd (∀W:E,Calls prog 43 #[I ((K+3*m:X):Int)] W λe w'=>Bw W w'∧e=H (S (mt (K+3*m)))):=λW=>Cy (K+3*m) W qg qg
   have HU:Hd (∀W:E,Calls prog 43 #[I ((K+3*m:X)+1+1:Int)] W λe w'=>Bw W w'∧e=H (S (mt (K+3*m+2)))):=λW=>by
    exact qkw
   have r1:=rem3 (K+3*m);generalize mt (K+3*m)=t at *;generalize mt (K+3*m+2)=u at *;generalize mb (K+3*m+1)=q at *;obtain⟨c,ec⟩:=Aj (K+3*m);rw[ec]at HT HU F6 r1 ⊢;have HE:=Ab ec;clear ec;have E4:(m:Int)<(n:Int):=qg;go_wp2_with fail;refine(HT.o _).mono ?_;rintro e w2 ⟨af,rfl⟩;have aq:=Ad HO.o af;have lh:Below B w w2:=bc.trans (af.mono qg);have M6:=aq.frozenAt;obtain⟨o1,d1⟩:=Br aq (j:=m*3) qg;obtain⟨o2,d2⟩:=Br aq (j:=m*3+1) qg;have xr:=Ab aq;have ft:=Ab (HK.o.bl de af);have ir:w.heap.size≤w2.heap.size:=zo af.size;clear aq af bc HO;go_wp2_with fail;refine(HU.o _).mono ?_;rintro e w3 ⟨au,rfl⟩;have fq:=Ad ((xr.o.stored (m*3) (S t)).1.stored (m*3+1) (F q)).1 au;have zw:Below B w w3:=((lh.setCell (p:=⟨g,m*3,N⟩) yv _).setCell (p:=⟨g,m*3+1,N⟩) yv _).trans (au.mono qj);have tu:Hd (Gr g w w3):=((ft.o.set (m*3) _).set (m*3+1) _).bl qdf au;(have o6:w.heap.size≤w3.heap.size:=by have:=au.size;simp at this;omega);have hfr3:=fq.frozenAt;obtain⟨o3,d3⟩:=Br fq (j:=m*3+2) qg;have A6:=Ab fq;clear fq au d1 d2 lh M6 xr;go_wp2;go_roundw
   case rel=>exact⟨m+1,_,qg,qm,congrArg (Value.int .i64) (zo HE.o),(A6.o.stored _ _).1,lz.o,tu.o.set _ _,by simpa using o6,zw.setCell (p:=⟨g,m*3+2,N⟩) yv _⟩
   case measure=>simp[intOf];omega
  ·exact qdj

theorem Ud(h:w.ownsRow B T 1 (J (p_ g) n cap) n xs)(hj:j<n):∃v,w.cell? ⟨g,j,N⟩=M v:=by
 have hl:=h.1;exact⟨xs[j]'qg,by rw[h.cellAt j qg];exact Hq _⟩

theorem MkG.read{K:X}(h:w.ownsRow B T 3 (J (p_ g) n cap) n ys)(hm:MkG K n ys):RdG K n w g:=by
 exact qkj
theorem Ua(g n cap K:X)(w:E)(hr:RdG K n w g)(hn:n≤1048576)(h1:1≤K)(h2:K≤900000000000000):Calls prog 72 #[J (p_ g) n cap,I K] w λe w'=>e=H (I ((K+3*n:X):Int))∧Bw w w':=by
 have HR:=Ab hr;clear hr;go_enter func72,ntmps72;go_wp2
 go_loopw [1,5] (λk i wr=>∃(m:X),m≤n∧i=I m∧k=I ((K+3*m:X):Int)∧Bw w wr) (λ_ i _=>n-(intOf i).toNat)
 case atStart=>exact⟨0,Nat.zero_le _,rfl,rfl,Below.refl _ _⟩
 case round=>
  obtain⟨m,hm,rfl,rfl,bc⟩:=hrel
  by_cases ai:m<n
  ·obtain⟨c1,c2,c3⟩:=(HR.o.bl bc) m ai
   have F6:K+3*m+2<1000000000000000:=qg;have HT:Hd (∀W:E,Calls prog 43 #[I ((K+3*m:X):Int)] W λe w'=>Bw W w'∧e=H (S (mt (K+3*m)))):=λW=>Cy (K+3*m) W qg qg
   have HU:Hd (∀W:E,Calls prog 43 #[I ((K+3*m:X)+1+1:Int)] W λe w'=>Bw W w'∧e=H (S (mt (K+3*m+2)))):=λW=>by
    exact qkw
   have r1:=rem3 (K+3*m);generalize mt (K+3*m)=t at *;generalize mt (K+3*m+2)=u at *;generalize mb (K+3*m+1)=q at *;obtain⟨c,ec⟩:=Aj (K+3*m);rw[ec]at HT HU F6 r1 ⊢;have HE:=Ab ec;clear ec;have E4:(m:Int)<(n:Int):=qg;have hm0:(0:Int)≤(m:Int):=qg;have cq:Bw wr wr.drew:=(Below.refl _ _).drew;go_wp2_with fail
   go_region_held3 (λw'=>w'.cell? ⟨g,m*3,N⟩=M (S t)∧w'.cell? ⟨g,m*3+1,N⟩=M (F q)∧w'.cell? ⟨g,m*3+2,N⟩=M (S u))
    (first|assumption|(simp[*];done)|exact⟨Aa af qu,Aa af qu,Aa af qu⟩)
    (first|(go_at_call 43;refine(HT.o _).mono ?_;rintro e w2 ⟨af,rfl⟩))
   all_goals
    have d2:=Aa af (Aa cq c2);have d3:=Aa af (Aa cq c3);have bg:=bt bc (bt cq af);clear c1 c2 c3 af cq;have jo:Bw w2 w2.drew:=(Below.refl _ _).drew;go_wp2_with fail
    go_region_held3 (λw'=>w'.cell? ⟨g,m*3+2,N⟩=M (S u))
     (first|assumption|(simp[*];done)|exact Aa au qu)
     (first|(go_at_call 43;refine(HU.o _).mono ?_;rintro e w3 ⟨au,rfl⟩))
    all_goals
     have ig:=bt bg (bt jo au);clear d2 d3 au jo;go_wp2;go_roundw
     case rel=>exact⟨m+1,qg,qm,congrArg (Value.int .i64) (zo HE.o),ig⟩
     case measure=>simp[intOf];omega
  ·exact qdn

theorem Ou(a:Option Addr)(cap:X)(ss:L By)(w:E)(hc:Cu w a ss)(hl:ss.length≤1048576):Calls prog 10 #[J a ss.length cap] w λe w'=>Bw w w'∧∃g:X,e=H (J (p_ g) ss.length ss.length)∧w'.ownsRow w.heap.size 9 1 (J (p_ g) ss.length ss.length) ss.length (Es ss ss.length ss.length):=by
 obtain⟨i0,hi,bq,bi,ci⟩:=info_parts Tryz.info9;go_enter func10,ntmps10
 go_wp2_with (first|(at_make;refine wpList_make_full _ rfl (.tmp 6) (.tmp 6) 22 rfl w.heap.size 9 i0 (S ByteArray.empty) 1 underlying22 hi bq bi .i64 .i64 _ _ ss.length rfl rfl rfl rfl qaq qq (Nat.le_refl _) ?_;intro w1 ah ae))
 rw[Qo]at ah;have fy:Bw w w1:=(Below.refl _ _).grown ae (Nat.le_refl _) qi;clear ae
 go_loopw [4] (λi wr=>∃k:X,k≤ss.length∧i=I k∧wr.ownsRow w.heap.size 9 1 (J (p_ w.heap.size) ss.length ss.length) ss.length (Es ss k ss.length)∧Bw w wr) (λi _=>ss.length-(intOf i).toNat)
 case atStart=>exact⟨0,Nat.zero_le _,rfl,by simpa [Es] using ah,fy⟩
 case round=>
  obtain⟨k,hk,rfl,ah,am⟩:=hrel
  by_cases ai:k<ss.length
  ·obtain⟨b,off,rfl,C6⟩:=(hc.bl am) k ai
   have cr:=ah.stored k (S (ss.getD k ByteArray.empty));rw[Vx ss k ai]at cr;have cm:=ah.frozenAt k
   have hce:wr.cell? ⟨w.heap.size,k,N⟩=M ((Es ss k ss.length)[k]'(by rw[It ss k hk];exact ai)):=by
    rw[ah.cellAt k qg];exact Hq _
   generalize (Es ss k ss.length)[k]'(by rw[It ss k hk];exact ai)=old at hce;generalize ss.getD k ByteArray.empty=s at *;have hbel2:Bw w (wr.setCell ⟨w.heap.size,k,N⟩ (S s)):=am.setCell (Nat.le_refl _) _;clear ah am fy hc;go_wp2;go_roundw
   case rel=>exact⟨k+1,qg,qm,cr.1,hbel2⟩
   case measure=>simp[intOf];omega
  ·have ek:k=ss.length:=qg
   subst ek;go_wp2;go_ret;exact⟨am,_,rfl,ah⟩

theorem Tp(K:X)(w:E)(h2:K≤900000000000000):Calls prog 70 #[nS,I K] w λe w'=>e=H (I (K:Int))∧w=w':=by
 go_enter func70,ntmps70;exact qbi

theorem Tn(B n K:X)(v:Z)(xs:L Z)(w:E)(ah:w.ownsRow B 115 3 v n xs)(hB:B≤w.heap.size)(hn:n≤1048576)(h1:1≤K)(h2:K≤900000000000000):Calls prog 70 #[v,I K] w λe w'=>e=H (I ((K+3*n:X):Int))∧Below B w w'∧Ej v.ownBlock w w'∧∃ys,w'.ownsRow B 115 3 v n ys∧MkG K n ys:=by
 rcases Db ah with⟨rfl,rfl⟩|⟨g,cap,rfl⟩
 ·refine(Tp K w h2).mono ?_
  exact qmf
 ·refine(Tq B g n cap K xs w ah hB hn h1 h2).mono ?_
  exact qln

theorem Tg(K:X)(w:E)(h2:K≤900000000000000):Calls prog 17 #[nS,I K] w λe w'=>e=H (I (K:Int))∧w=w':=by
 go_enter func17,ntmps17;exact qbi

theorem heldInsS_nil(K:X)(w:E)(h2:K≤900000000000000):Calls prog 71 #[nS,I K] w λe w'=>e=H (I (K:Int))∧w=w':=by
 go_enter func71,ntmps71;exact qbi

theorem heldInsS_own(B n K:X)(v:Z)(ys:L Z)(w:E)(ah:w.ownsRow B 174 3 v n ys)(hm:MkI K n ys)(hn:n≤1048576)(h1:1≤K)(h2:K≤900000000000000):Calls prog 71 #[v,I K] w λe w'=>e=H (I ((K+3*n:X):Int))∧Bw w w':=by
 rcases Db ah with⟨rfl,rfl⟩|⟨g,cap,rfl⟩
 ·refine(heldInsS_nil K w h2).mono ?_
  exact qdp
 ·exact heldInsS_any g n cap K w (MkI.read ah hm) hn h1 h2

theorem Tz(K:X)(w:E)(h2:K≤900000000000000):Calls prog 72 #[nS,I K] w λe w'=>e=H (I (K:Int))∧w=w':=by
 go_enter func72,ntmps72;exact qbi

theorem Ty(B n K:X)(v:Z)(ys:L Z)(w:E)(ah:w.ownsRow B 115 3 v n ys)(hm:MkG K n ys)(hn:n≤1048576)(h1:1≤K)(h2:K≤900000000000000):Calls prog 72 #[v,I K] w λe w'=>e=H (I ((K+3*n:X):Int))∧Bw w w':=by
 rcases Db ah with⟨rfl,rfl⟩|⟨g,cap,rfl⟩
 ·refine(Tz K w h2).mono ?_
  exact qdp
 ·exact Ua g n cap K w (MkG.read ah hm) hn h1 h2

theorem Wy(a la:Option Addr)(cap lc:X)(is:L I3)(gs:L G3)(out:By)(lft:Int)(hf0:0≤lft)(C0:lft≤1048576)(w:E)(h:Zf w a is la gs out):Calls prog 46 #[G #[J a is.length cap,J la gs.length lc,S out],I lft] w λe w'=>Bw w w'∧∃r:Int,e=H (I r)∧(r<0∨(is.length≤1048576∧gs.length≤1048576∧0≤r∧r≤lft)):=by
 obtain⟨rc,rg,hlc,hlg,xc,ng,sg,so⟩:=h;unfold maxLen at so;have ak:Bw w (w.alloc (O #[J a is.length cap,J la gs.length lc,S out] 102)):=aN _ _;have k1:(w.alloc (O #[J a is.length cap,J la gs.length lc,S out] 102)).cell? ⟨w.heap.size,1,N⟩=M (J la gs.length lc):=qo;have k2:(w.alloc (O #[J a is.length cap,J la gs.length lc,S out] 102)).cell? ⟨w.heap.size,2,N⟩=M (S out):=qo;go_enter func46,ntmps46;go_wp2_with fail;refine(Na a cap is lft _ hf0 C0 (rc.bl ak) hlc xc).mono ?_;rintro e w1 ⟨ag,r,rfl,hr⟩;have bm:=bt ak ag;have T6:=Aa ag k1;have T5:=Aa ag k2;clear ak ag k1 k2
 rcases hr with hr|⟨h1,yn,nj⟩
 ·go_wp2
  go_ret;exact⟨bm,-1,rfl,Or.inl qg⟩
 ·go_wp2_with fail
  refine(Wz la lc gs r _ qg qg (rg.bl bm) hlg ng sg).mono ?_;rintro e w2 ⟨af,r2,rfl,mq⟩;have bg:=bt bm af;have k22:=Aa af T5;clear af bm T6 T5
  rcases mq with mq|⟨h2,mq,xv,h3⟩
  ·exact qdq
  ·by_cases h4:r2-out.size<0
   ·exact qdq
   ·go_wp2
    go_ret;exact⟨bg,r2-out.size,rfl,Or.inr qg⟩


theorem Wa(a a':Option Addr)(cap aj:X)(is:L T3)(w:E)(hc:Mk w a is)(pa:Mk w a' is)(hk:Ec is):Calls prog 37 #[J a is.length cap,J a' is.length aj] w λe w'=>Bw w w'∧e=H (F true):=by
 have hl:=hk.1;have HK:=Ab hk.2;clear hk;go_enter func37,ntmps37;go_wp2
 go_loopw [5] (λi wr=>∃k:X,k≤is.length∧i=I k∧Bw w wr) (λi _=>is.length-(intOf i).toNat)
 case atStart=>exact⟨0,Nat.zero_le _,rfl,Below.refl _ _⟩
 case round=>
  obtain⟨k,hk,rfl,am⟩:=hrel
  by_cases ai:k<is.length
  ·obtain⟨b,off,rfl,ca,cc,la,lc,c1,c2,c3,c4,c5⟩:=(hc.bl am) k ai
   obtain⟨b',bz,rfl,ca',cc',zh,B7,d1,d2,d3,d4,d5⟩:=(pa.bl am) k ai;have C6:=HK.o k ai;generalize qx is k=i at *;clear hc pa;have C4:=Ab c4;have C5:=Ab c5;have D4:=Ab d4;have D5:=Ab d5;clear c4 c5 d4 d5;have fs:(k:Int)<(is.length:Int):=qg;have jn:(0:Int)≤(k:Int):=qg;have iz:Bw wr wr.drew:=(Below.refl _ _).drew;go_wp2_with fail
   go_region_held3 (λw'=>(w'.cell? ⟨b,off+k*3,N⟩=M (J ca i.code.length cc)∧w'.cell? ⟨b,off+k*3+1,N⟩=M (J la i.looks.length lc)∧w'.cell? ⟨b,off+k*3+2,N⟩=M (S i.out))∧(w'.cell? ⟨b',bz+k*3,N⟩=M (J ca' i.code.length cc')∧w'.cell? ⟨b',bz+k*3+1,N⟩=M (J zh i.looks.length B7)∧w'.cell? ⟨b',bz+k*3+2,N⟩=M (S i.out)))
    (first|assumption|(simp[*];done)|exact⟨⟨Aa ag qu,Aa ag qu,Aa ag qu⟩,Aa ag qu,Aa ag qu,Aa ag qu⟩)
    (first|(go_at_call 66;refine(Xo ca ca' la zh cc cc' lc B7 i.code i.looks i.out _ (C4.o.bl iz) (D4.o.bl iz) (C5.o.bl iz) (D5.o.bl iz) C6.1 C6.2).mono ?_;rintro e w1 ⟨ag,rfl⟩))
   all_goals
    go_wp2;go_roundw
    case rel=>exact⟨k+1,qg,qm,am.trans (Below.trans (Below.drew (Below.refl _ _)) (ag.mono qda))⟩
    case measure=>simp[intOf];omega
  ·exact qbu

theorem Qx(n:Int)(ta ra ur ra':Option Addr)(tc rc P1 rc':X)(ts:L By)(rs:L T3)(w:E)(st:Cu w ta ts)(ri:Cu w ur ts)(rq:Mk w ra rs)(rq':Mk w ra' rs)(hl:ts.length≤1048576)(hq:Ec rs):Calls prog 12 #[G #[I n,J ta ts.length tc,J ra rs.length rc],G #[I n,J ur ts.length P1,J ra' rs.length rc']] w λe w'=>Bw w w'∧e=H (F true):=by
 have di:=Ab st;have X7:=Ab rq;have HST':=Ab ri;have HRQ':=Ab rq';have HQS:=Ab hq;clear st rq ri rq' hq;have ak:Bw w ((w.alloc (O #[I n,J ta ts.length tc,J ra rs.length rc] 35)).alloc (O #[I n,J ur ts.length P1,J ra' rs.length rc'] 35)):=(aN _ _).alloc qi _;have k1:((w.alloc (O #[I n,J ta ts.length tc,J ra rs.length rc] 35)).alloc (O #[I n,J ur ts.length P1,J ra' rs.length rc'] 35)).cell? ⟨w.heap.size,2,N⟩=M (J ra rs.length rc):=qo;have k2:((w.alloc (O #[I n,J ta ts.length tc,J ra rs.length rc] 35)).alloc (O #[I n,J ur ts.length P1,J ra' rs.length rc'] 35)).cell? ⟨w.heap.size+1,2,N⟩=M (J ra' rs.length rc'):=qo;go_enter func12,ntmps12;go_wp2_with fail;refine(Nq ta ur tc P1 ts _ (di.o.bl ak) (HST'.o.bl ak) hl).mono ?_;rintro e w1 ⟨ag,rfl⟩;have bm:=bt ak ag;have T6:=Aa ag k1;have T5:=Aa ag k2;clear ak ag k1 k2;go_wp2_with fail;refine(Wa ra ra' rc rc' rs _ (X7.o.bl bm) (HRQ'.o.bl bm) HQS.o).mono ?_;rintro e w2 ⟨af,rfl⟩;go_wp2;go_ret;exact⟨bt bm af,rfl⟩

theorem mkX_set{K k:X}(h:Vd K k ys)(hx:k<ys.length):Vd K (k+1) (ys.set k (S (mt (K+k)))):=by
 intro i hi;rw[List.getElem?_set]
 rcases Nat.lt_or_ge i k with hl|hl
 ·rw[if_neg qg];exact h i hl
 ·obtain rfl:i=k:=qg
  rw[if_pos rfl,if_pos hx]

theorem Vl(B g n cap K:X)(xs:L Z)(w:E)(ah:w.ownsRow B 9 1 (J (p_ g) n cap) n xs)(hB:B≤w.heap.size)(hn:n≤1048576)(h1:1≤K)(h2:K≤900000000000000):Calls prog 17 #[J (p_ g) n cap,I K] w λe w'=>e=H (I ((K+n:X):Int))∧Below B w w'∧Gr g w w'∧∃ys,w'.ownsRow B 9 1 (J (p_ g) n cap) n ys∧Vd K n ys:=by
 have yv:B≤g:=(ah.lt g rfl).1;go_enter func17,ntmps17;go_wp2
 go_loopw [1,5] (λk i wr=>∃(m:X)(ys:L Z),m≤n∧i=I m∧k=I ((K+m:X):Int)∧Hd (wr.ownsRow B 9 1 (J (p_ g) n cap) n ys)∧Hd (Vd K m ys)∧Hd (Gr g w wr)∧w.heap.size≤wr.heap.size∧Below B w wr) (λ_ i _=>n-(intOf i).toNat)
 case atStart=>exact⟨0,xs,Nat.zero_le _,rfl,rfl,ah,(λi hi=>by omega:Vd K 0 xs),(λb _ _=>rfl:Gr g w w),Nat.le_refl _,Below.refl _ _⟩
 case round=>
  obtain⟨m,ys,hm,rfl,rfl,HO,HM,HK,de,bc⟩:=hrel;clear ah
  by_cases ai:m<n
  ·have L9:m<ys.length:=by rw[HO.o.1];omega
   have lz:=Ab (mkX_set HM.o L9);have F6:K+m<1000000000000000:=qg;have HT:Hd (∀W:E,Calls prog 43 #[I ((K+m:X):Int)] W λe w'=>Bw W w'∧e=H (S (mt (K+m)))):=λW=>Cy (K+m) W qg qg;generalize mt (K+m)=t at *;obtain⟨c,ec⟩:=Aj (K+m);rw[ec]at HT F6 ⊢;have HE:=Ab ec;clear ec;have E4:(m:Int)<(n:Int):=qg;go_wp2_with fail;refine(HT.o _).mono ?_;rintro e w2 ⟨af,rfl⟩;have aq:=Ad HO.o af;have lh:Below B w w2:=bc.trans (af.mono qg);have M6:=aq.frozenAt;obtain⟨o1,d1⟩:=Ud aq (j:=m) ai;have xr:=Ab aq;have ft:=Ab (HK.o.bl de af);have ir:w.heap.size≤w2.heap.size:=zo af.size;clear aq af bc HO;go_wp2;go_roundw
   case rel=>exact⟨m+1,_,qg,qm,congrArg (Value.int .i64) (zo HE.o),(xr.o.stored _ _).1,lz.o,ft.o.set _ _,qdf,lh.setCell (p:=⟨g,m,N⟩) yv _⟩
   case measure=>simp[intOf];omega
  ·exact qdj

theorem Mq(lo hi n K:X)(v:Z)(xs:L Z)(w:E)(hr:Bu w lo hi 9 1 v n xs)(hB:lo≤w.heap.size)(hn:n≤1048576)(h1:1≤K)(h2:K≤900000000000000):Calls prog 17 #[v,I K] w λe w'=>e=H (I ((K+n:X):Int))∧Below lo w w'∧Ej v.ownBlock w w'∧∃ys,Bu w' lo hi 9 1 v n ys∧Vd K n ys:=by
 rcases Db hr.own with⟨rfl,rfl⟩|⟨g,cap,rfl⟩
 ·refine(Tg K w h2).mono ?_
  exact qmk
 ·refine(Vl lo g n cap K xs w hr.own hB hn h1 h2).mono ?_
  exact qld

theorem Vd.read{K:X}(h:w.ownsRow B 9 1 (J (p_ g) n cap) n ys)(hm:Vd K n ys):RdX K n w g:=by
 intro i hi;rw[h.cellAt _ qg];exact hm i hi
theorem Tu(g n cap K:X)(w:E)(hr:RdX K n w g)(hn:n≤1048576)(h1:1≤K)(h2:K≤900000000000000):Calls prog 44 #[J (p_ g) n cap,I K] w λe w'=>e=H (I ((K+n:X):Int))∧Bw w w':=by
 have HR:=Ab hr;clear hr;go_enter func44,ntmps44;go_wp2
 go_loopw [1,5] (λk i wr=>∃(m:X),m≤n∧i=I m∧k=I ((K+m:X):Int)∧Bw w wr) (λ_ i _=>n-(intOf i).toNat)
 case atStart=>exact⟨0,Nat.zero_le _,rfl,rfl,Below.refl _ _⟩
 case round=>
  obtain⟨m,hm,rfl,rfl,bc⟩:=hrel
  by_cases ai:m<n
  ·have c1:=(HR.o.bl bc) m ai
   have F6:K+m<1000000000000000:=qg;have HT:Hd (∀W:E,Calls prog 43 #[I ((K+m:X):Int)] W λe w'=>Bw W w'∧e=H (S (mt (K+m)))):=λW=>Cy (K+m) W qg qg;generalize mt (K+m)=t at *;obtain⟨c,ec⟩:=Aj (K+m);rw[ec]at HT F6 ⊢;have HE:=Ab ec;clear ec;have E4:(m:Int)<(n:Int):=qg;have hm0:(0:Int)≤(m:Int):=qg;have cq:Bw wr wr.drew:=(Below.refl _ _).drew;go_wp2_with fail
   go_region_held3 (λw'=>w'.cell? ⟨g,m,N⟩=M (S t))
    (first|assumption|(simp[*];done)|exact Aa af qu)
    (first|(go_at_call 43;refine(HT.o _).mono ?_;rintro e w2 ⟨af,rfl⟩))
   all_goals
    have bg:=bt bc (bt cq af);clear c1 af cq;exact qkq
  ·exact qdn

theorem Tt(K:X)(w:E)(h2:K≤900000000000000):Calls prog 44 #[nS,I K] w λe w'=>e=H (I (K:Int))∧w=w':=by
 go_enter func44,ntmps44;exact qbi
theorem Ts(lo hi n K:X)(v:Z)(ys:L Z)(w:E)(hr:Bu w lo hi 9 1 v n ys)(hm:Vd K n ys)(hn:n≤1048576)(h1:1≤K)(h2:K≤900000000000000):Calls prog 44 #[v,I K] w λe w'=>e=H (I ((K+n:X):Int))∧Bw w w':=by
 rcases Db hr.own with⟨rfl,rfl⟩|⟨g,cap,rfl⟩
 ·refine(Tt K w h2).mono ?_
  exact qdp
 ·exact Tu g n cap K w (Vd.read hr.own hm) hn h1 h2

def kR(cl gl:X→X)(K:X):X→X
 | 0=>K
 | i+1=>kR cl gl K i+3*cl i+3*gl i+1
theorem Vt(cl gl:X→X)(K:X):∀i n,i≤n→kR cl gl K i≤kR cl gl K n:=by
 intro i n h
 induction n with
 | zero=>
   (obtain rfl:i=0:=by omega);exact Nat.le_refl _
 | succ n ih=>
   rcases Nat.lt_or_ge i (n+1)with h1|h1
   ·have:=ih qg
    simp only[kR];omega
   ·obtain rfl:i=n+1:=qg
    exact Nat.le_refl _
theorem kR_bound(cl gl:X→X)(K:X):∀n,(∀i,i<n→cl i≤1048576∧gl i≤1048576)→kR cl gl K n≤K+n*6291457:=by
 intro n
 induction n with
 | zero=>intro _;simp[kR]
 | succ n ih=>
   intro h;have:=ih (λi hi=>h i qg);have:=h n qg;simp only[kR];rw[Nat.succ_mul];omega
structure Di (w:E) (lo hi:X) (v:Z) (n:X) (cl gl:X→X) (xs:L Z) (cv lv:X→Z):Prop where
 row:Bu w lo hi 73 3 v n xs
 fst:∀i,i<n→xs[i*3]?=M (cv i)
 snd:∀i,i<n→xs[i*3+1]?=M (lv i)
 code:∀i,i<n→∃ys,Bu w lo hi 174 3 (cv i) (cl i) ys
 look:∀i,i<n→∃ys,Bu w lo hi 115 3 (lv i) (gl i) ys
 apc:∀i j,i<n→j<n→i≠j→∀b,(cv i).ownBlock=M b→(cv j).ownBlock≠M b
 apl:∀i j,i<n→j<n→i≠j→∀b,(lv i).ownBlock=M b→(lv j).ownBlock≠M b
theorem Kz.rows(h:Kz w lo hi v rs xs cv lv):Di w lo hi v rs.length (λi=>(qx rs i).code.length) (λi=>(qx rs i).looks.length) xs cv lv:=
 ⟨h.row,λi hi=>(h.fil i hi).1,λi hi=>(h.fil i hi).2.1,λi hi=>by obtain⟨ys,h1,_⟩:=h.code i hi;exact⟨ys,h1⟩,λi hi=>by obtain⟨ys,h1,_⟩:=h.look i hi;exact⟨ys,h1⟩,λi j hi hj hne b e1 e2=>by
  rcases Nat.lt_or_gt_of_ne hne with h1|h1
  ·exact h.apc i j h1 hj b e1 e2
  ·exact h.apc j i h1 hi b e2 e1,λi j hi hj hne b e1 e2=>by
  rcases Nat.lt_or_gt_of_ne hne with h1|h1
  ·exact h.apl i j h1 hj b e1 e2
  ·exact h.apl j i h1 hi b e2 e1⟩
theorem Di.same(h:Di w lo hi v n cl gl xs cv lv)(h1:∀b,v.ownBlock=M b→w'.heap[b]?=w.heap[b]?)(h2:∀i,i<n→∀b,(cv i).ownBlock=M b→w'.heap[b]?=w.heap[b]?)(h3:∀i,i<n→∀b,(lv i).ownBlock=M b→w'.heap[b]?=w.heap[b]?):Di w' lo hi v n cl gl xs cv lv:=
 ⟨h.row.same h1,h.fst,h.snd,λi hi=>by obtain⟨ys,k⟩:=h.code i hi;exact⟨ys,k.same (h2 i hi)⟩,λi hi=>by obtain⟨ys,k⟩:=h.look i hi;exact⟨ys,k.same (h3 i hi)⟩,h.apc,h.apl⟩
theorem Di.lt(h:Di w lo hi v n cl gl xs cv lv)(hb:v.ownBlock=M b∨(∃i,i<n∧(cv i).ownBlock=M b)∨∃i,i<n∧(lv i).ownBlock=M b):lo≤b∧b<hi∧b<w.heap.size:=by
 rcases hb with e|⟨i,hi,e⟩|⟨i,hi,e⟩
 ·exact⟨(h.row.own.lt b e).1,h.row.top b e,(h.row.own.lt b e).2⟩
 ·obtain⟨ys,k⟩:=h.code i hi
  exact⟨(k.own.lt b e).1,k.top b e,(k.own.lt b e).2⟩
 ·obtain⟨ys,k⟩:=h.look i hi
  exact⟨(k.own.lt b e).1,k.top b e,(k.own.lt b e).2⟩
theorem Di.bl(h:Di w lo hi v n cl gl xs cv lv)(hb:Bw w w'):Di w' lo hi v n cl gl xs cv lv:=
 h.same (λb e=>hb.block b (h.lt (Or.inl e)).2.2) (λi hi b e=>hb.block b (h.lt (Or.inr (Or.inl ⟨i,hi,e⟩))).2.2) (λi hi b e=>hb.block b (h.lt (Or.inr (Or.inr ⟨i,hi,e⟩))).2.2)
theorem Di.keepO{u:Z}{e sz:X}(h:Di w lo hi v n cl gl xs cv lv)(ho:w.ownsRow B e sz u m zs)(hk:Ej u.ownBlock w w')(h1:73≠e)(h2:174≠e)(h3:115≠e):Di w' lo hi v n cl gl xs cv lv:=
 h.same (λb eb=>hk b (h.lt (Or.inl eb)).2.2 (λe'=>Tc h.row.own ho h1 b eb e'.symm)) (λi hi b eb=>by
  obtain⟨ys,k⟩:=h.code i hi
  exact hk b (k.own.lt b eb).2 (λe'=>Tc k.own ho h2 b eb e'.symm)) (λi hi b eb=>by
  obtain⟨ys,k⟩:=h.look i hi;exact hk b (k.own.lt b eb).2 (λe'=>Tc k.own ho h3 b eb e'.symm))
theorem Di.store(h:Di w lo hi (J (p_ g) n cap) n cl gl xs cv lv)(m:X)(u:Z):Di (w.setCell ⟨g,m*3+2,N⟩ u) lo hi (J (p_ g) n cap) n cl gl (xs.set (m*3+2) u) cv lv:=
 ⟨⟨(h.row.own.stored (m*3+2) u).1,h.row.top⟩,λi hi=>by rw[List.getElem?_set,if_neg qg];exact h.fst i hi,λi hi=>by rw[List.getElem?_set,if_neg qg];exact h.snd i hi,λi hi=>by
  obtain⟨ys,k1⟩:=h.code i hi
  exact⟨ys,k1.same λb eb=>Dm w ⟨g,m*3+2,N⟩ u b (by show b≠g;intro e;subst e;exact Tc h.row.own k1.own qh b rfl eb)⟩,λi hi=>by
  obtain⟨ys,k1⟩:=h.look i hi;exact⟨ys,k1.same λb eb=>Dm w ⟨g,m*3+2,N⟩ u b (by show b≠g;intro e;subst e;exact Tc h.row.own k1.own qh b rfl eb)⟩,h.apc,h.apl⟩
theorem Di.markC(h:Di w lo hi v n cl gl xs cv lv)(hm:m<n)(hk:Ej (cv m).ownBlock w w')(hn:Bu w' lo hi 174 3 (cv m) (cl m) zs):Di w' lo hi v n cl gl xs cv lv:=by
 obtain⟨y0,k0⟩:=h.code m hm;refine⟨h.row.same λb eb=>hk b (h.row.own.lt b eb).2 (λe'=>Tc h.row.own k0.own qh b eb e'.symm),h.fst,h.snd,λi hi=>?_,λi hi=>?_,h.apc,h.apl⟩
 ·by_cases hi':i=m
  ·subst hi';exact⟨zs,hn⟩
  ·obtain⟨ys,k1⟩:=h.code i hi
   exact⟨ys,k1.same λb eb=>hk b (k1.own.lt b eb).2 (λe'=>h.apc i m hi hm hi' b eb e'.symm)⟩
 ·obtain⟨ys,k1⟩:=h.look i hi
  exact qlz
theorem Di.markL(h:Di w lo hi v n cl gl xs cv lv)(hm:m<n)(hk:Ej (lv m).ownBlock w w')(hn:Bu w' lo hi 115 3 (lv m) (gl m) zs):Di w' lo hi v n cl gl xs cv lv:=by
 obtain⟨y0,k0⟩:=h.look m hm;refine⟨h.row.same λb eb=>hk b (h.row.own.lt b eb).2 (λe'=>Tc h.row.own k0.own qh b eb e'.symm),h.fst,h.snd,λi hi=>?_,λi hi=>?_,h.apc,h.apl⟩
 ·obtain⟨ys,k1⟩:=h.code i hi
  exact qlz
 ·by_cases hi':i=m
  ·subst hi';exact⟨zs,hn⟩
  ·obtain⟨ys,k1⟩:=h.look i hi
   exact⟨ys,k1.same λb eb=>hk b (k1.own.lt b eb).2 (λe'=>h.apl i m hi hm hi' b eb e'.symm)⟩
def Jt(w:E)(lo hi K:X)(cl gl:X→X)(cv lv:X→Z)(m:X)(ys:L Z):Prop:=∀i,i<m→ys[i*3+2]?=M (S (mt (kR cl gl K i+3*cl i+3*gl i)))∧(∃zs,Bu w lo hi 174 3 (cv i) (cl i) zs∧MkI (kR cl gl K i) (cl i) zs)∧∃zs,Bu w lo hi 115 3 (lv i) (gl i) zs∧MkG (kR cl gl K i+3*cl i) (gl i) zs
theorem Jt.same{K:X}(h:Jt w lo hi K cl gl cv lv m ys)(h2:∀i,i<m→∀b,(cv i).ownBlock=M b→w'.heap[b]?=w.heap[b]?)(h3:∀i,i<m→∀b,(lv i).ownBlock=M b→w'.heap[b]?=w.heap[b]?):Jt w' lo hi K cl gl cv lv m ys:=λi hi=>by
 obtain⟨k1,⟨zs,k2,k3⟩,us,k4,k5⟩:=h i hi;exact⟨k1,⟨zs,k2.same (h2 i hi),k3⟩,us,k4.same (h3 i hi),k5⟩
theorem Jt.bl{K:X}(h:Jt w lo hi K cl gl cv lv m ys)(hb:Bw w w'):Jt w' lo hi K cl gl cv lv m ys:=λi hi=>by
 obtain⟨k1,⟨zs,k2,k3⟩,us,k4,k5⟩:=h i hi;exact⟨k1,⟨zs,k2.bl hb,k3⟩,us,k4.bl hb,k5⟩
theorem Jt.markC{K:X}(h:Jt w lo hi K cl gl cv lv m ys)(hr:Di w lo hi v n cl gl xs cv lv)(hm:m<n)(hk:Ej (cv m).ownBlock w w'):Jt w' lo hi K cl gl cv lv m ys:=by
 obtain⟨y0,k0⟩:=hr.code m hm;refine h.same (λi hi b eb=>?_) (λi hi b eb=>?_)
 ·obtain⟨_,⟨zs,k2,_⟩,_⟩:=h i hi
  exact hk b (k2.own.lt b eb).2 (λe'=>hr.apc i m qg hm qg b eb e'.symm)
 ·obtain⟨_,_,zs,k2,_⟩:=h i hi
  exact qnm
theorem Jt.markL{K:X}(h:Jt w lo hi K cl gl cv lv m ys)(hr:Di w lo hi v n cl gl xs cv lv)(hm:m<n)(hk:Ej (lv m).ownBlock w w'):Jt w' lo hi K cl gl cv lv m ys:=by
 obtain⟨y0,k0⟩:=hr.look m hm;refine h.same (λi hi b eb=>?_) (λi hi b eb=>?_)
 ·obtain⟨_,⟨zs,k2,_⟩,_⟩:=h i hi
  exact qnm
 ·obtain⟨_,_,zs,k2,_⟩:=h i hi
  exact hk b (k2.own.lt b eb).2 (λe'=>hr.apl i m qg hm qg b eb e'.symm)
theorem Jt.store{K:X}{us:L Z}(h:Jt w lo hi K cl gl cv lv m ys)(hr:Di w lo hi (J (p_ g) n cap) n cl gl ys cv lv)(hm:m<n)(hz:Bu w lo hi 174 3 (cv m) (cl m) zs)(hzm:MkI (kR cl gl K m) (cl m) zs)(hu:Bu w lo hi 115 3 (lv m) (gl m) us)(hum:MkG (kR cl gl K m+3*cl m) (gl m) us):Jt (w.setCell ⟨g,m*3+2,N⟩ (S (mt (kR cl gl K m+3*cl m+3*gl m)))) lo hi K cl gl cv lv (m+1) (ys.set (m*3+2) (S (mt (kR cl gl K m+3*cl m+3*gl m)))):=λi hj=>by
 have hs:∀ {e sz k:X} {u:Z} {ps:L Z},Bu w lo hi e sz u k ps→73≠e→Bu (w.setCell ⟨g,m*3+2,N⟩ (S (mt (kR cl gl K m+3*cl m+3*gl m)))) lo hi e sz u k ps:=fun {e sz k u ps} k1 hne=>k1.same λb eb=>Dm w ⟨g,m*3+2,N⟩ _ b (by show b≠g;intro e;subst e;exact Tc hr.row.own k1.own hne b rfl eb)
 rcases Nat.lt_or_ge i m with ai|hge
 ·obtain⟨k1,⟨ps,k2,k3⟩,qs,k4,k5⟩:=h i ai
  exact⟨by rw[List.getElem?_set,if_neg qg];exact k1,⟨ps,hs k2 qh,k3⟩,qs,hs k4 qh,k5⟩
 ·obtain rfl:i=m:=qg
  exact⟨by rw[List.getElem?_set,if_pos rfl,if_pos (by rw[hr.row.own.1];omega)],⟨zs,hs hz qh,hzm⟩,us,hs hu qh,hum⟩
def Ev(v:Z)(cv lv:X→Z)(n:X)(w w':E):Prop:=∀b,b<w.heap.size→v.ownBlock≠M b→(∀i,i<n→(cv i).ownBlock≠M b)→(∀i,i<n→(lv i).ownBlock≠M b)→w'.heap[b]?=w.heap[b]?
theorem Ev.bl(h:Ev v cv lv n w w')(hs:w.heap.size≤w'.heap.size)(hb:Bw w' w2):Ev v cv lv n w w2:=λb hl h1 h2 h3=>by
 rw[hb.block b qg];exact h b hl h1 h2 h3
theorem Ev.set(h:Ev (J (p_ g) n cap) cv lv n w w')(u:Z):Ev (J (p_ g) n cap) cv lv n w (w'.setCell ⟨g,m,N⟩ u):=λb hl h1 h2 h3=>by
 rw[Dm w' ⟨g,m,N⟩ u b (λe=>h1 (by rw[e];rfl))];exact h b hl h1 h2 h3
theorem Ev.markC(h:Ev v cv lv n w w')(hs:w.heap.size≤w'.heap.size)(hm:m<n)(hk:Ej (cv m).ownBlock w' w2):Ev v cv lv n w w2:=λb hl h1 h2 h3=>by
 rw[hk b qg (λe=>h2 m hm e.symm)];exact h b hl h1 h2 h3
theorem Ev.markL(h:Ev v cv lv n w w')(hs:w.heap.size≤w'.heap.size)(hm:m<n)(hk:Ej (lv m).ownBlock w' w2):Ev v cv lv n w w2:=λb hl h1 h2 h3=>by
 rw[hk b qg (λe=>h3 m hm e.symm)];exact h b hl h1 h2 h3
theorem Ev.keepR(h:Ev v cv lv n w w')(hr:Di w lo hi v n cl gl xs cv lv):Dw lo hi w w':=λb hb ho=>h b hb (λe=>by have h1:=hr.lt (Or.inl e);omega) (λi hi e=>by have h1:=hr.lt (Or.inr (Or.inl ⟨i,hi,e⟩));omega) (λi hi e=>by have h1:=hr.lt (Or.inr (Or.inr ⟨i,hi,e⟩));omega)

theorem Tm(lo hi g n cap K:X)(cl gl:X→X)(xs:L Z)(cv lv:X→Z)(w:E)(hr:Di w lo hi (J (p_ g) n cap) n cl gl xs cv lv)(hB:lo≤w.heap.size)(hn:n≤1048576)(pz:∀i,i<n→cl i≤1048576∧gl i≤1048576)(h1:1≤K)(h2:kR cl gl K n≤800000000000000):Calls prog 40 #[(J (p_ g) n cap),I K] w λe w'=>e=H (I ((kR cl gl K n:X):Int))∧Below lo w w'∧Ev (J (p_ g) n cap) cv lv n w w'∧∃ys,Di w' lo hi (J (p_ g) n cap) n cl gl ys cv lv∧Jt w' lo hi K cl gl cv lv n ys:=by
 have yv:lo≤g:=(hr.row.own.lt g rfl).1;have HCL:=Ab pz;have HKT:Hd (∀i,i≤n→K≤kR cl gl K i∧kR cl gl K i≤800000000000000):=λi hi=>⟨Vt cl gl K 0 i (Nat.zero_le _),Nat.le_trans (Vt cl gl K i n hi) h2⟩;clear pz h2;go_enter func40,ntmps40;go_wp2
 go_loopw [1,5] (λk i wr=>∃(m:X)(ys:L Z),m≤n∧i=I m∧k=I ((kR cl gl K m:X):Int)∧Hd (Di wr lo hi (J (p_ g) n cap) n cl gl ys cv lv)∧Hd (Jt wr lo hi K cl gl cv lv m ys)∧Hd (Ev (J (p_ g) n cap) cv lv n w wr)∧w.heap.size≤wr.heap.size∧Below lo w wr) (λ_ i _=>n-(intOf i).toNat)
 case atStart=>exact⟨0,xs,Nat.zero_le _,rfl,rfl,hr,(λi hi=>by omega:Jt w lo hi K cl gl cv lv 0 xs),(λb _ _ _ _=>rfl:Ev (J (p_ g) n cap) cv lv n w w),Nat.le_refl _,Below.refl _ _⟩
 case round=>
  obtain⟨m,ys,hm,rfl,rfl,HR,HM,HK,de,bc⟩:=hrel;clear hr
  by_cases ai:m<n
  ·obtain⟨cu,ib⟩:=HKT.o m hm
   obtain⟨zv,hgm⟩:=HCL.o m ai;have HS:Hd (kR cl gl K (m+1)=kR cl gl K m+3*cl m+3*gl m+1):=rfl;obtain⟨c,ec⟩:=Aj (kR cl gl K m);have HI:Hd (∀(W:E)(zs:L Z),W.ownsRow lo 174 3 (cv m) (cl m) zs→lo≤W.heap.size→Calls prog 69 #[cv m,I (c:Int)] W λe w'=>e=H (I ((c+3*cl m:X):Int))∧Below lo W w'∧Ej (cv m).ownBlock W w'∧∃ys,w'.ownsRow lo 174 3 (cv m) (cl m) ys∧MkI c (cl m) ys):=λW zs h3 h4=>Qm lo (cl m) c (cv m) zs W h3 h4 zv qg qg;have HG:Hd (∀(W:E)(zs:L Z),W.ownsRow lo 115 3 (lv m) (gl m) zs→lo≤W.heap.size→Calls prog 70 #[lv m,I ((c+3*cl m:X):Int)] W λe w'=>e=H (I ((c+3*cl m+3*gl m:X):Int))∧Below lo W w'∧Ej (lv m).ownBlock W w'∧∃ys,w'.ownsRow lo 115 3 (lv m) (gl m) ys∧MkG (c+3*cl m) (gl m) ys):=λW zs h3 h4=>Tn lo (gl m) (c+3*cl m) (lv m) zs W h3 h4 hgm qg qg;have HT:Hd (∀W:E,Calls prog 43 #[I ((c+3*cl m+3*gl m:X):Int)] W λe w'=>Bw W w'∧e=H (S (mt (c+3*cl m+3*gl m)))):=λW=>Cy (c+3*cl m+3*gl m) W qg qg;rw[ec]at cu ib HS ⊢;have HE:=Ab ec;clear ec;have E4:(m:Int)<(n:Int):=qg;have hqb:c+3*cl m+3*gl m+1<1000000000000000:=qg;obtain⟨p,ep⟩:=Aj (c+3*cl m);obtain⟨q,eq⟩:=Aj (p+3*gl m);rw[ep]at HI HG HT HS hqb;rw[eq]at HG HT HS hqb;have HEP:=Ab ep;have HEQ:=Ab eq;clear ep eq;obtain⟨z0,bq⟩:=HR.o.code m ai;obtain⟨va,vc,ev⟩:=Fh bq;have EV:=Ab ev;obtain⟨z1,bi⟩:=HR.o.look m ai;obtain⟨ua,uc,eu⟩:=Fh bi;have EU:=Ab eu;have d0:wr.cell? ⟨g,m*3,N⟩=M (J va (cl m) vc):=by rw[HR.o.row.own.cellAt _ qg,HR.o.fst m ai,EV.o]
   have HC:Hd (Calls prog 69 #[J va (cl m) vc,I (c:Int)] wr λe w'=>e=H (I (p:Int))∧Below lo wr w'∧Ej (cv m).ownBlock wr w'∧∃ys,w'.ownsRow lo 174 3 (cv m) (cl m) ys∧MkI c (cl m) ys):=by
    have h:=HI.o wr z0 bq.own qg;rw[EV.o]at h ⊢;exact h
   have HTOP:=Ab bq.top;have HTOP1:=Ab bi.top;clear bq ev bi eu HI;go_wp2_with fail;refine HC.o.mono ?_;rintro e w2 ⟨rfl,af,hk2',zs,ky,td⟩;have ht2:Bu w2 lo hi 174 3 (cv m) (cl m) zs:=⟨ky,HTOP.o⟩;have pj:=Ab (HR.o.markC ai hk2' ht2);have lz:=Ab (HM.o.markC HR.o ai hk2');have ft:=Ab (HK.o.markC de ai hk2');have pg:=Ab ht2;have HZM:=Ab td;have lh:=bc.trans af;have ir:w.heap.size≤w2.heap.size:=zo af.size;have d1:w2.cell? ⟨g,m*3+1,N⟩=M (J ua (gl m) uc):=by rw[pj.o.row.own.cellAt _ qg,pj.o.snd m ai,EU.o]
   have HC2:Hd (Calls prog 70 #[J ua (gl m) uc,I (p:Int)] w2 λe w'=>e=H (I (q:Int))∧Below lo w2 w'∧Ej (lv m).ownBlock w2 w'∧∃ys,w'.ownsRow lo 115 3 (lv m) (gl m) ys∧MkG p (gl m) ys):=by
    obtain⟨us,hus⟩:=pj.o.look m ai;have h:=HG.o w2 us hus.own qg;rw[EU.o]at h ⊢;exact h
   clear af hk2' ky td ht2 bc HR HM HK HC HG d0;go_wp2_with fail;refine HC2.o.mono ?_;rintro e w3 ⟨rfl,au,gu,us,ho3,hm3⟩;have ht3:Bu w3 lo hi 115 3 (lv m) (gl m) us:=⟨ho3,HTOP1.o⟩;have iy:=Ab (pj.o.markL ai gu ht3);have G5:=Ab (lz.o.markL pj.o ai gu);have tu:=Ab (ft.o.markL ir ai gu)
   have HZ3:Hd (Bu w3 lo hi 174 3 (cv m) (cl m) zs):=by
    obtain⟨y0,k0⟩:=pj.o.look m ai;exact pg.o.same λb eb=>gu b (pg.o.own.lt b eb).2 (λe'=>Tc pg.o.own k0.own qh b eb e'.symm)
   have HU3:=Ab ht3;have HUM:=Ab hm3;have zw:=lh.trans au;have o6:w.heap.size≤w3.heap.size:=zo au.size;clear au gu ho3 hm3 ht3 pj lz ft pg HC2 lh d1;go_wp2_with fail;refine(HT.o _).mono ?_;rintro e w4 ⟨bp,rfl⟩;have lp:=Ab (iy.o.bl bp);have X8:Hd (Di (w4.setCell ⟨g,m*3+2,N⟩ (S (mt q))) lo hi (J (p_ g) n cap) n cl gl (ys.set (m*3+2) (S (mt q))) cv lv):=lp.o.store m _
   have S5:Hd (Jt (w4.setCell ⟨g,m*3+2,N⟩ (S (mt q))) lo hi K cl gl cv lv (m+1) (ys.set (m*3+2) (S (mt q)))):=by
    have h:=(G5.o.bl bp).store lp.o ai (HZ3.o.bl bp) (by rw[HE.o];exact HZM.o) (HU3.o.bl bp) (by rw[HE.o,HEP.o];exact HUM.o);rw[HE.o,HEP.o,HEQ.o]at h;exact h
   have HK5:Hd (Ev (J (p_ g) n cap) cv lv n w (w4.setCell ⟨g,m*3+2,N⟩ (S (mt q)))):=(tu.o.bl o6 bp).set _;have hbw5:Below lo w (w4.setCell ⟨g,m*3+2,N⟩ (S (mt q))):=(zw.trans (bp.mono qg)).setCell (p:=⟨g,m*3+2,N⟩) yv _;(have yl:w.heap.size≤(w4.setCell ⟨g,m*3+2,N⟩ (S (mt q))).heap.size:=by have:=bp.size;simp;omega);have hfr4:=lp.o.row.own.frozenAt;obtain⟨o1,d2⟩:=Br lp.o.row.own (j:=m*3+2) qg;clear bp iy G5 tu HZ3 HU3 HT zw lp o6 ir;generalize mt q=t at *;go_wp2;go_roundw
   case rel=>exact⟨m+1,_,qg,qm,congrArg (Value.int .i64) (by rw[HS.o];omega),X8.o,S5.o,HK5.o,yl,hbw5⟩
   case measure=>simp[intOf];omega
  ·exact qmv

theorem Tl(K:X)(w:E)(h2:K≤900000000000000):Calls prog 40 #[nS,I K] w λe w'=>e=H (I (K:Int))∧w=w':=by
 go_enter func40,ntmps40;exact qbi
theorem Tk(lo hi n K:X)(v:Z)(cl gl:X→X)(xs:L Z)(cv lv:X→Z)(w:E)(hr:Di w lo hi v n cl gl xs cv lv)(hB:lo≤w.heap.size)(hn:n≤1048576)(pz:∀i,i<n→cl i≤1048576∧gl i≤1048576)(h1:1≤K)(h2:kR cl gl K n≤800000000000000):Calls prog 40 #[v,I K] w λe w'=>e=H (I ((kR cl gl K n:X):Int))∧Below lo w w'∧Ev v cv lv n w w'∧∃ys,Di w' lo hi v n cl gl ys cv lv∧Jt w' lo hi K cl gl cv lv n ys:=by
 rcases Db hr.row.own with⟨rfl,rfl⟩|⟨g,cap,rfl⟩
 ·refine(Tl K w (by simp only[kR]at h2;omega)).mono ?_
  rintro e w' ⟨rfl,rfl⟩;exact⟨rfl,Below.refl _ _,λ_ _ _ _ _=>rfl,xs,hr,λi hi=>qg⟩
 ·exact Tm lo hi g n cap K cl gl xs cv lv w hr hB hn pz h1 h2

theorem Tx(lo hi g n cap K:X)(cl gl:X→X)(ys:L Z)(cv lv:X→Z)(w:E)(hr:Di w lo hi (J (p_ g) n cap) n cl gl ys cv lv)(hm:Jt w lo hi K cl gl cv lv n ys)(hn:n≤1048576)(pz:∀i,i<n→cl i≤1048576∧gl i≤1048576)(h1:1≤K)(h2:kR cl gl K n≤800000000000000):Calls prog 45 #[(J (p_ g) n cap),I K] w λe w'=>e=H (I ((kR cl gl K n:X):Int))∧Bw w w':=by
 have HR:=Ab hr;have HM:=Ab hm;have HCL:=Ab pz;have HKT:Hd (∀i,i≤n→K≤kR cl gl K i∧kR cl gl K i≤800000000000000):=λi hi=>⟨Vt cl gl K 0 i (Nat.zero_le _),Nat.le_trans (Vt cl gl K i n hi) h2⟩;clear hr hm pz h2;go_enter func45,ntmps45;go_wp2
 go_loopw [1,5] (λk i wr=>∃(m:X),m≤n∧i=I m∧k=I ((kR cl gl K m:X):Int)∧Bw w wr) (λ_ i _=>n-(intOf i).toNat)
 case atStart=>exact⟨0,Nat.zero_le _,rfl,rfl,Below.refl _ _⟩
 case round=>
  obtain⟨m,hm,rfl,rfl,bc⟩:=hrel
  by_cases ai:m<n
  ·obtain⟨cu,ib⟩:=HKT.o m hm
   obtain⟨zv,hgm⟩:=HCL.o m ai;have HS:Hd (kR cl gl K (m+1)=kR cl gl K m+3*cl m+3*gl m+1):=rfl;obtain⟨x1,⟨zs,x2,x3⟩,us,x4,x5⟩:=(HM.o.bl bc) m ai;have zn:=HR.o.bl bc;obtain⟨c,ec⟩:=Aj (kR cl gl K m);rw[ec]at cu ib HS x1 x3 x5 ⊢;obtain⟨va,vc,ev⟩:=Fh x2;obtain⟨ua,uc,eu⟩:=Fh x4;(have c0:wr.cell? ⟨g,m*3,N⟩=M (J va (cl m) vc):=by rw[zn.row.own.cellAt _ qg,zn.fst m ai,ev]);(have c1:wr.cell? ⟨g,m*3+1,N⟩=M (J ua (gl m) uc):=by rw[zn.row.own.cellAt _ qg,zn.snd m ai,eu]);have c2:wr.cell? ⟨g,m*3+2,N⟩=M (S (mt (c+3*cl m+3*gl m))):=by rw[zn.row.own.cellAt _ qg];exact x1
   have HI:Hd (∀(W:E),Bw wr W→Calls prog 71 #[J va (cl m) vc,I (c:Int)] W λe w'=>e=H (I ((c+3*cl m:X):Int))∧Bw W w'):=λW h3=>by
    have h:=heldInsS_own lo (cl m) c (cv m) zs W (x2.bl h3).own x3 zv qg qg;rw[ev]at h;exact h
   have HG:Hd (∀(W:E),Bw wr W→Calls prog 72 #[J ua (gl m) uc,I ((c+3*cl m:X):Int)] W λe w'=>e=H (I ((c+3*cl m+3*gl m:X):Int))∧Bw W w'):=λW h3=>by
    have h:=Ty lo (gl m) (c+3*cl m) (lv m) us W (x4.bl h3).own x5 hgm qg qg;rw[eu]at h;exact h
   have HT:Hd (∀W:E,Calls prog 43 #[I ((c+3*cl m+3*gl m:X):Int)] W λe w'=>Bw W w'∧e=H (S (mt (c+3*cl m+3*gl m)))):=λW=>Cy (c+3*cl m+3*gl m) W qg qg;clear x1 x2 x3 x4 x5 zn ev eu ec;have hqb:c+3*cl m+3*gl m+1<1000000000000000:=qg;obtain⟨p,ep⟩:=Aj (c+3*cl m);obtain⟨q,eq⟩:=Aj (p+3*gl m);rw[ep]at HI HG HT HS hqb c2;rw[eq]at HG HT HS hqb c2;clear ep eq;generalize mt q=t at *;have E4:(m:Int)<(n:Int):=qg;have hm0:(0:Int)≤(m:Int):=qg;have hlp:decide (((p:X):Int)<0)=false:=qi;have hlq:decide (((q:X):Int)<0)=false:=qi;go_wp2_with fail;refine(HI.o wr (Below.refl _ _)).mono ?_;rintro e w2 ⟨rfl,af⟩;have e1:=Aa af c1;have e2:=Aa af c2;clear c0 c1 c2;go_wp2_with fail;refine(HG.o w2 af).mono ?_;rintro e w3 ⟨rfl,au⟩;have g2:=Aa au e2;have ig:=bt bc (bt af au);clear e1 e2 af au;have cq:Bw w3 w3.drew:=(Below.refl _ _).drew;go_wp2_with fail
   go_region_held3 (λw'=>w'.cell? ⟨g,m*3+2,N⟩=M (S t))
    (first|assumption|(simp[*];done)|exact Aa bp qu)
    (first|(go_at_call 43;refine(HT.o _).mono ?_;rintro e w4 ⟨bp,rfl⟩))
   all_goals
    have jj:=bt ig (bt cq bp);clear g2 bp cq;go_wp2;go_roundw
    case rel=>exact⟨m+1,qg,qm,congrArg (Value.int .i64) (by rw[HS.o];omega),jj⟩
    case measure=>simp[intOf];omega
  ·exact qdn

theorem Tw(K:X)(w:E)(h2:K≤900000000000000):Calls prog 45 #[nS,I K] w λe w'=>e=H (I (K:Int))∧w=w':=by
 go_enter func45,ntmps45;exact qbi
theorem Tv(lo hi n K:X)(v:Z)(cl gl:X→X)(ys:L Z)(cv lv:X→Z)(w:E)(hr:Di w lo hi v n cl gl ys cv lv)(hm:Jt w lo hi K cl gl cv lv n ys)(hn:n≤1048576)(pz:∀i,i<n→cl i≤1048576∧gl i≤1048576)(h1:1≤K)(h2:kR cl gl K n≤800000000000000):Calls prog 45 #[v,I K] w λe w'=>e=H (I ((kR cl gl K n:X):Int))∧Bw w w':=by
 rcases Db hr.row.own with⟨rfl,rfl⟩|⟨g,cap,rfl⟩
 ·refine(Tw K w (by simp only[kR]at h2;omega)).mono ?_
  exact qdp
 ·exact Tx lo hi g n cap K cl gl ys cv lv w hr hm hn pz h1 h2

def MkSo(w:E)(lo hi K:X)(v1 v2:Z)(n1 n2:X)(cl gl:X→X):Prop:=(∃ys,Bu w lo hi 9 1 v1 n1 ys∧Vd K n1 ys)∧∃ys cv lv,Di w lo hi v2 n2 cl gl ys cv lv∧Jt w lo hi (K+n1) cl gl cv lv n2 ys
theorem MkSo.bl{K n1 n2:X}{v1 v2:Z}(h:MkSo w lo hi K v1 v2 n1 n2 cl gl)(hb:Bw w w'):MkSo w' lo hi K v1 v2 n1 n2 cl gl:=by
 obtain⟨⟨ys,h1,h2⟩,zs,cv,lv,h3,h4⟩:=h;exact⟨⟨ys,h1.bl hb,h2⟩,zs,cv,lv,h3.bl hb,h4.bl hb⟩

theorem Pb(wd:Int)(lo hi n1 n2 K:X)(v1 v2:Z)(cl gl:X→X)(xs zs:L Z)(cv lv:X→Z)(w:E)(h1:Bu w lo hi 9 1 v1 n1 xs)(h2:Di w lo hi v2 n2 cl gl zs cv lv)(hB:lo≤w.heap.size)(L7:n1≤1048576)(hn2:n2≤1048576)(pz:∀i,i<n2→cl i≤1048576∧gl i≤1048576)(hK:1≤K)(hK2:kR cl gl (K+n1) n2≤800000000000000):Calls prog 15 #[G #[I wd,v1,v2],I K] w λe w'=>e=H (I ((kR cl gl (K+n1) n2:X):Int))∧Below lo w w'∧Dw lo hi w w'∧Keep9 v1 w w'∧MkSo w' lo hi K v1 v2 n1 n2 cl gl:=by
 have hK3:K+n1≤800000000000000:=Nat.le_trans (Vt cl gl (K+n1) 0 n2 (Nat.zero_le _)) hK2;obtain⟨va,vc,rfl⟩:=Fh h1;obtain⟨vb,vd,rfl⟩:=Fh h2.row;have ak:Bw w (w.alloc (O #[I wd,J va n1 vc,J vb n2 vd] 35)):=aN _ _;have k1:(w.alloc (O #[I wd,J va n1 vc,J vb n2 vd] 35)).cell? ⟨w.heap.size,2,N⟩=M (J vb n2 vd):=qo;have hw0:(w.alloc (O #[I wd,J va n1 vc,J vb n2 vd] 35)).heap.size=w.heap.size+1:=qi;have yj:=Ab (h2.bl ak);have h10:=h1.bl ak;have hne:(Value.slice va n1 vc).ownBlock≠M w.heap.size:=λe=>by have:=(h1.own.lt _ e).2;omega
 have HC:Hd (∀W:E,Di W lo hi (J vb n2 vd) n2 cl gl zs cv lv→lo≤W.heap.size→Calls prog 40 #[J vb n2 vd,I ((K+n1:X):Int)] W λe w'=>e=H (I ((kR cl gl (K+n1) n2:X):Int))∧Below lo W w'∧Ev (J vb n2 vd) cv lv n2 W w'∧∃ys,Di w' lo hi (J vb n2 vd) n2 cl gl ys cv lv∧Jt w' lo hi (K+n1) cl gl cv lv n2 ys):=λW h3 h4=>Tk lo hi n2 (K+n1) _ cl gl zs cv lv W h3 h4 hn2 pz qg hK2;clear hK2 h2 h1 pz;go_enter func15,ntmps15;go_wp2_with fail;refine(Mq lo hi n1 K _ xs _ h10 qg L7 hK qg).mono ?_;rintro e w1 ⟨rfl,ag,cu,ys,nj,sd⟩;have bm:=(ak.mono hB).trans ag;have fg:w.heap.size+1≤w1.heap.size:=zo ag.size
 have c1:w1.cell? ⟨w.heap.size,2,N⟩=M (J vb n2 vd):=by
  exact qnk
 have ja:Hd (Di w1 lo hi (J vb n2 vd) n2 cl gl zs cv lv):=yj.o.keepO h10.own cu qh qh qh;have fb:Hd (Dw lo hi w w1):=(Dw.of_below ak).trans ak.size (cu.keepR λb e=>⟨(h10.own.lt b e).1,h10.top b e⟩);have HK91:Hd (Keep9 (J va n1 vc) w w1):=λb cs h ne=>by rw[cu b (zo (Ag h)) (λe=>ne e.symm),Lib.alloc_old _ _ _ (Ag h)];exact h
 have iw:=Ab nj;have A9:=Ab sd;clear ak ag cu nj sd k1 yj h10 hne hw0;go_wp2_with fail;refine(HC.o w1 ja.o qg).mono ?_;rintro e w2 ⟨rfl,af,ib,ys2,mq,td⟩;have bg:=bm.trans af;have ft:Hd (Dw lo hi w w2):=fb.o.trans qg (ib.keepR ja.o)
 have HK92:Hd (Keep9 (J va n1 vc) w w2):=λb cs h ne=>by
  have h1:=HK91.o b cs h ne;rw[ib b (Ag h1) (Ae ja.o.row.own qh h1) (λi hi=>by obtain⟨zz,hz⟩:=ja.o.code i hi;exact Ae hz.own qh h1) (λi hi=>by obtain⟨zz,hz⟩:=ja.o.look i hi;exact Ae hz.own qh h1)];exact h1
 have HP:Hd (MkSo w2 lo hi K (J va n1 vc) (J vb n2 vd) n1 n2 cl gl):=⟨⟨ys,iw.o.same λb e=>ib b (iw.o.own.lt b e).2 (λe'=>Tc ja.o.row.own iw.o.own qh b e' e) (λi hi e'=>by obtain⟨zz,hz⟩:=ja.o.code i hi;exact Tc hz.own iw.o.own qh b e' e) (λi hi e'=>by obtain⟨zz,hz⟩:=ja.o.look i hi;exact Tc hz.own iw.o.own qh b e' e),A9.o⟩,ys2,cv,lv,mq,td⟩;clear af ib mq td ja fb iw A9 HC c1;go_wp2;go_ret;exact⟨rfl,bg,ft.o,HK92.o,HP.o⟩

theorem Xl(wd:Int)(lo hi n1 n2 K:X)(v1 v2:Z)(cl gl:X→X)(w:E)(hm:MkSo w lo hi K v1 v2 n1 n2 cl gl)(L7:n1≤1048576)(hn2:n2≤1048576)(pz:∀i,i<n2→cl i≤1048576∧gl i≤1048576)(hK:1≤K)(hK2:kR cl gl (K+n1) n2≤800000000000000):Calls prog 18 #[G #[I wd,v1,v2],I K] w λe w'=>e=H (I ((kR cl gl (K+n1) n2:X):Int))∧Bw w w':=by
 have hK3:K+n1≤800000000000000:=Nat.le_trans (Vt cl gl (K+n1) 0 n2 (Nat.zero_le _)) hK2;obtain⟨⟨ys,h1,h2⟩,zs,cv,lv,h3,h4⟩:=hm;obtain⟨va,vc,rfl⟩:=Fh h1;obtain⟨vb,vd,rfl⟩:=Fh h3.row;have ak:Bw w (w.alloc (O #[I wd,J va n1 vc,J vb n2 vd] 35)):=aN _ _;have k1:(w.alloc (O #[I wd,J va n1 vc,J vb n2 vd] 35)).cell? ⟨w.heap.size,2,N⟩=M (J vb n2 vd):=qo;have HC:Hd (∀W:E,Bw w W→Calls prog 45 #[J vb n2 vd,I ((K+n1:X):Int)] W λe w'=>e=H (I ((kR cl gl (K+n1) n2:X):Int))∧Bw W w'):=λW hW=>Tv lo hi n2 (K+n1) _ cl gl zs cv lv W (h3.bl hW) (h4.bl hW) hn2 pz qg hK2;have uu:decide (((K+n1:X):Int)<0)=false:=qj;have M2:decide (((kR cl gl (K+n1) n2:X):Int)<0)=false:=qi;have S6:=Ab M2;generalize kR cl gl (K+n1) n2=q at *;clear h3 h4 pz M2;go_enter func18,ntmps18;go_wp2_with fail;refine(Ts lo hi n1 K _ ys _ (h1.bl ak) h2 L7 hK qg).mono ?_;rintro e w1 ⟨rfl,ag⟩;have bm:=bt ak ag;have c1:=Aa ag k1;clear ak ag k1 h1 h2;go_wp2_with fail;refine(HC.o w1 bm).mono ?_;rintro e w2 ⟨rfl,af⟩;have bg:=bt bm af;have M2:=S6.o;clear af bm c1 HC uu;go_wp2;go_ret;exact⟨rfl,bg⟩

/-! ### of owned stores -/
theorem Ut(a:Option Addr)(cap:X)(is:L T3)(lft:Int)(w:E)(hf0:0≤lft)(C0:lft≤1048576)(hc:Mk w a is)(hk:QsOk is):Calls prog 19 #[J a is.length cap,I lft] w λe w'=>Bw w w'∧∃r:Int,e=H (I r)∧(r<0∨(0≤r∧r≤lft∧Ec is)):=by
 have M3:=hk.lr;unfold maxLen at M3;have tz:=Ab hk;clear hk
 by_cases h0:(is.length:Int)≤lft
 ·go_enter func19,ntmps19
  go_wp2
  go_loopw [1,5] (λl i wr=>∃k:X,∃q:Int,k≤is.length∧i=I k∧l=I q∧0≤q∧q≤lft∧Bw w wr∧Hd (∀i,i<k→(qx is i).code.length≤1048576∧(qx is i).looks.length≤1048576)) (λ_ i _=>is.length-(intOf i).toNat)
  case atStart=>exact⟨0,_,Nat.zero_le _,rfl,rfl,qg,qg,Below.refl _ _,(λi hi=>by omega:∀i,i<0→(qx is i).code.length≤1048576∧(qx is i).looks.length≤1048576)⟩
  case round=>
   obtain⟨k,q,hk,rfl,rfl,hq0,mh,bc,HK⟩:=hrel
   by_cases ai:k<is.length
   ·obtain⟨b,off,rfl,ca,cc,la,lc,c1,c2,c3,c4,c5⟩:=(hc.bl bc) k ai
    have fw:Zf wr ca (qx is k).code la (qx is k).looks (qx is k).out:=⟨c4,c5,tz.o.lc k,tz.o.lg k,tz.o.xc k,tz.o.ng k,tz.o.sg k,tz.o.so k⟩;clear hc c4 c5;obtain⟨i,ei⟩:=Aj (qx is k);rw[ei]at c1 c2 c3 fw;have EI:=Ab ei;clear ei;go_wp2_with fail;refine(Wy ca la cc lc i.code i.looks i.out q qg qg _ fw).mono ?_;exact qix
   ·exact qlr
 ·go_enter func19,ntmps19
  exact qgd

theorem Zs(n:Int)(ta ra:Option Addr)(tc rc:X)(ts:L By)(rs:L T3)(AL:Int)(hL0:0≤AL)(hL1:AL≤1048576)(w:E)(h:SoOk w ta ts ra rs):Calls prog 4 #[G #[I n,J ta ts.length tc,J ra rs.length rc],I AL] w λe w'=>Bw w w'∧∃r:Int,e=H (I r)∧(r<0∨(0≤r∧r≤1048576∧ts.length≤1048576∧Ec rs)):=by
 have ak:Bw w (w.alloc (O #[I n,J ta ts.length tc,J ra rs.length rc] 25)):=aN _ _;have k2:(w.alloc (O #[I n,J ta ts.length tc,J ra rs.length rc] 25)).cell? ⟨w.heap.size,2,N⟩=M (J ra rs.length rc):=qo;have HO:=Ab h;clear h;go_enter func4,ntmps4;go_wp2_with fail;refine(Ox ta tc ts _ (HO.o.st.bl ak) HO.o.lt HO.o.xt AL qg qg).mono ?_;rintro e w1 ⟨rfl,r,rfl,hr⟩
 rcases hr with hr|⟨h1,yn,nj⟩
 ·go_wp2
  go_ret;exact⟨ak,-1,rfl,Or.inl qg⟩
 ·have ai:ts.length≤1048576:=qg
  go_wp2_with fail;refine(Ut ra rc rs r _ yn qg (HO.o.rq.bl ak) HO.o.ok).mono ?_;rintro e w2 ⟨af,r2,rfl,mq⟩;have bg:=bt ak af;clear ak af k2
  rcases mq with mq|⟨mq,xv,hq⟩
  ·exact qdq
  ·have HQ:=Ab hq
   clear hq;go_wp2;go_ret;exact⟨bg,r2,rfl,Or.inr ⟨qg,qg,ai,HQ.o⟩⟩
theorem Wx(a:Option Addr)(cap:X)(is:L G3)(w:E)(hc:Gf w a is)(hl:is.length≤1048576):Calls prog 85 #[J a is.length cap] w λe w'=>Bw w w'∧∃g:X,e=H (J (p_ g) is.length is.length)∧∃xs,w'.ownsRow w.heap.size 115 3 (J (p_ g) is.length is.length) is.length xs∧Bx is is.length xs:=by
 obtain⟨z0,hi,bq,bi,ci⟩:=info_parts Tryz.info115;go_enter func85,ntmps85
 go_wp2_with (first|(at_make;refine wpList_make_full _ rfl (.tmp 6) (.tmp 6) 71 rfl w.heap.size 115 z0 (G #[S ByteArray.empty,F false,S ByteArray.empty]) 3 underlying71 hi bq bi .i64 .i64 _ _ is.length rfl rfl rfl rfl qaq qq (Nat.le_refl _) ?_;intro w1 ah ae))
 have fy:Bw w w1:=(Below.refl _ _).grown ae (Nat.le_refl _) qi;clear ae
 go_loopw [4] (λi wr=>∃k:X,∃xs:L Z,k≤is.length∧i=I k∧wr.ownsRow w.heap.size 115 3 (J (p_ w.heap.size) is.length is.length) is.length xs∧Bx is k xs∧Bw w wr) (λi _=>is.length-(intOf i).toNat)
 case atStart=>exact⟨0,_,Nat.zero_le _,rfl,ah,λi hi=>qg,fy⟩
 case round=>
  obtain⟨k,xs,hk,rfl,ah,V0,am⟩:=hrel
  by_cases ai:k<is.length
  ·obtain⟨b,off,rfl,c1,c2,c3⟩:=(hc.bl am) k ai
   have te:=filledG_set V0 (show k*3+2<xs.length from qdc);generalize gx is k=i at *;clear fy hc V0;go_wp2_with fail;refine(Zo i _).mono ?_;rintro e w2 ⟨af,rfl⟩;have aq:=Ad ah af;have lh:=am.trans (af.mono am.size);have cm:=aq.frozenAt;obtain⟨o1,d1⟩:=Br aq (j:=k*3) qg;obtain⟨o2,d2⟩:=Br aq (j:=k*3+1) qg;obtain⟨o3,d3⟩:=Br aq (j:=k*3+2) qg;have HO:=Ab aq;exact qjm
  ·exact qfv

theorem Zn(a la:Option Addr)(cap lc:X)(is:L I3)(gs:L G3)(out:By)(w:E)(rc:Cn w a is)(rg:Gf w la gs)(h1:is.length≤1048576)(h2:gs.length≤1048576):Calls prog 55 #[G #[J a is.length cap,J la gs.length lc,S out]] w λe w'=>Bw w w'∧∃g1 g2:X,e=H (G #[J (p_ g1) is.length is.length,J (p_ g2) gs.length gs.length,S out])∧(∃ys,w'.ownsRow w.heap.size 174 3 (J (p_ g1) is.length is.length) is.length ys∧Cs is is.length ys)∧∃zs,w'.ownsRow w.heap.size 115 3 (J (p_ g2) gs.length gs.length) gs.length zs∧Bx gs gs.length zs:=by
 go_enter func55,ntmps55;go_wp2_with fail;have ak:Bw w (((w.alloc (O #[J a is.length cap,J la gs.length lc,S out] 102)).alloc (O #[nS,nS,ze] 73)).alloc (O #[nS,nS,ze] 73)):=((aN _ _).alloc qi _).alloc qj _;refine(Ov a cap is _ (rc.bl ak) h1).mono ?_;rintro e w1 ⟨ag,g,rfl,ys,hr,zu⟩;have hg:=(hr.lt g rfl).1;simp at hg;have hb:=ak.trans (ag.mono ak.size);have hz:=ag.size;simp at hz;have c01:w1.cell? ⟨w.heap.size,1,N⟩=M (J la gs.length lc):=Aa ag qo;have c02:w1.cell? ⟨w.heap.size,2,N⟩=M (S out):=Aa ag qo;have Oh:w1.cell? ⟨w.heap.size+1,0,N⟩=M nS:=Aa ag qo;have A3:w1.cell? ⟨w.heap.size+1,1,N⟩=M nS:=Aa ag qo;have c12:w1.cell? ⟨w.heap.size+1,2,N⟩=M ze:=Aa ag qo;have c20:w1.cell? ⟨w.heap.size+1+1,0,N⟩=M nS:=Aa ag qo;have c21:w1.cell? ⟨w.heap.size+1+1,1,N⟩=M nS:=Aa ag qo;have c22:w1.cell? ⟨w.heap.size+1+1,2,N⟩=M ze:=Aa ag qo;have f1:∀j,w1.frozen? ⟨w.heap.size+1,j,N⟩=false:=λj=>by rw[ag.frozen (p:=⟨w.heap.size+1,j,N⟩) qi];simp[go_sem]
 have f2:∀j,w1.frozen? ⟨w.heap.size+1+1,j,N⟩=false:=λj=>by rw[ag.frozen (p:=⟨w.heap.size+1+1,j,N⟩) qi];simp[go_sem]
 clear ak ag;go_wp2_with fail;have mr:Bw w (w1.setCell ⟨w.heap.size+1+1,0,N⟩ (J (p_ g) is.length is.length)):=hb.setCell (p:=⟨w.heap.size+1+1,0,N⟩) qj _;refine(Wx la lc gs _ (rg.bl mr) h2).mono ?_;rintro e w2 ⟨af,g2,rfl,zs,mq,hfz⟩;have xy:=(mq.lt g2 rfl).1;have au:=mr.trans (af.mono mr.size);have hrs:=Ad (Dg (Ah hr (B':=w.heap.size) qj) (b:=w.heap.size+1+1) (j:=0) qg (J (p_ g) is.length is.length)) af;have ci:=af.size;simp at ci;simp at xy;have d02:w2.cell? ⟨w.heap.size,2,N⟩=M (S out):=Aa af (by simp[go_sem,c02]);have d10:w2.cell? ⟨w.heap.size+1,0,N⟩=M nS:=Aa af (by simp[go_sem,Oh]);have d11:w2.cell? ⟨w.heap.size+1,1,N⟩=M nS:=Aa af (by simp[go_sem,A3]);have d12:w2.cell? ⟨w.heap.size+1,2,N⟩=M ze:=Aa af (by simp[go_sem,c12]);have d20:w2.cell? ⟨w.heap.size+1+1,0,N⟩=M (J (p_ g) is.length is.length):=Aa af (by simp[go_sem,c20]);have d21:w2.cell? ⟨w.heap.size+1+1,1,N⟩=M nS:=Aa af (by simp[go_sem,c21]);have d22:w2.cell? ⟨w.heap.size+1+1,2,N⟩=M ze:=Aa af (by simp[go_sem,c22]);have e1:∀j,w2.frozen? ⟨w.heap.size+1,j,N⟩=false:=λj=>by rw[af.frozen (p:=⟨w.heap.size+1,j,N⟩) qj];simp[go_sem,f1]
 have e2:∀j,w2.frozen? ⟨w.heap.size+1+1,j,N⟩=false:=λj=>by rw[af.frozen (p:=⟨w.heap.size+1+1,j,N⟩) qj];simp[go_sem,f2]
 clear af mr hb c01 c02 Oh A3 c12 c20 c21 c22 f1 f2 hr;go_wp2;refine bR (v:=G #[J (p_ g) is.length is.length,J (p_ g2) gs.length gs.length,S out]) (by simp[results,results55,go_sem,d10,d11,d12]) rfl ⟨?_,g,g2,rfl,⟨ys,?_,zu⟩,zs,?_,hfz⟩
 ·exact((((au.setCell (p:=⟨w.heap.size+1+1,1,N⟩) qj _).setCell (p:=⟨w.heap.size+1+1,2,N⟩) qj _).setCell (p:=⟨w.heap.size+1,0,N⟩) qi _).setCell (p:=⟨w.heap.size+1,1,N⟩) qi _).setCell (p:=⟨w.heap.size+1,2,N⟩) qi _
 ·exact Dg (Dg (Dg (Dg (Dg hrs qg _) qg _) qg _) qg _) qg _
 ·exact Dg (Dg (Dg (Dg (Dg (Ah mq qj) qg _) qg _) qg _) qg _) qg _

theorem Eu.own1(h:Eu w lo' is is.length xs cv lv)(hr:w.ownsRow lo 73 3 v is.length xs)(hl:lo≤lo')(hh:w.heap.size≤hi):Kz w lo hi v is xs cv lv:=
 ⟨⟨hr,λb e=>by have:=(hr.lt b e).2;omega⟩,h.fil,λi hi=>by
  obtain⟨ys,h1,h2⟩:=h.code i hi
  exact⟨ys,⟨Ah h1 hl,λb e=>by have:=(h1.lt b e).2;omega⟩,h2⟩,λi hi=>by
  obtain⟨ys,h1,h2⟩:=h.look i hi;exact⟨ys,⟨Ah h1 hl,λb e=>by have:=(h1.lt b e).2;omega⟩,h2⟩,h.apc,h.apl,h.som⟩
def SomC(is:L T3)(cv:X→Z)(k:X):Prop:=∀i,i<k→∃g cap,cv i=J (p_ g) (qx is i).code.length cap
theorem SomC.add{k:X}(h:SomC is cv k){c:Z}(hc:∃g cp,c=J (p_ g) (qx is k).code.length cp):SomC is (λi=>if i=k then c else cv i) (k+1):=λi hi=>by
 by_cases e:i=k
 ·subst e;show ∃g cap,(if i=i then c else cv i)=_;rw[if_pos rfl];exact hc
 ·show ∃g cap,(if i=k then c else cv i)=_;rw[if_neg e];exact h i qg
def Ko(w:E)(lo hi:X)(v:Z)(rs:L T3):Prop:=∃xs cv lv,Kz w lo hi v rs xs cv lv∧SomC rs cv rs.length
theorem Ko.bl(h:Ko w lo hi v rs)(hb:Bw w w'):Ko w' lo hi v rs:=by obtain⟨xs,cv,lv,h,k⟩:=h;exact⟨xs,cv,lv,h.bl hb,k⟩
theorem Ko.keep(h:Ko w lo hi v rs)(hk:Dw lo' hi' w w')(hd:hi≤lo'∨hi'≤lo):Ko w' lo hi v rs:=by obtain⟨xs,cv,lv,h,k⟩:=h;exact⟨xs,cv,lv,h.keep hk hd,k⟩
theorem Ko.wide(h:Ko w lo hi v rs)(h1:lo'≤lo)(h2:hi≤hi'):Ko w lo' hi' v rs:=by obtain⟨xs,cv,lv,h,k⟩:=h;exact⟨xs,cv,lv,h.wide h1 h2,k⟩
theorem Ko.set(h:Ko w lo hi v rs)(hb:b<lo)(u:Z):Ko (w.setCell ⟨b,j,N⟩ u) lo hi v rs:=h.keep (Dw.set (lo:=b) (hi:=b+1) (Nat.le_refl _) (Nat.lt_succ_self _) j u) (Or.inr hb)
theorem Ko.sl(h:Ko w lo hi v rs):∃a cap,v=J a rs.length cap∧Wi w a rs∧Rc w a rs:=by
 obtain⟨xs,cv,lv,h,sc⟩:=h;have du:=h.row.own
 rcases Db h.row.own with⟨rfl,h0⟩|⟨g,cap,rfl⟩
 ·exact⟨N,0,by rw[h0],λi hi=>qg,λi hi=>qg⟩
 ·have key:∀i,i<rs.length→∃cg cc lg lc ys zs,w.cell? ⟨g,0+i*3,N⟩=M (J (p_ cg) (qx rs i).code.length cc)∧w.cell? ⟨g,0+i*3+1,N⟩=M (J (p_ lg) (qx rs i).looks.length lc)∧w.cell? ⟨g,0+i*3+2,N⟩=M (S (qx rs i).out)∧Cn w (p_ cg) (qx rs i).code∧Gf w (p_ lg) (qx rs i).looks∧w.ownsRow lo 115 3 (J (p_ lg) (qx rs i).looks.length lc) (qx rs i).looks.length zs∧Bx (qx rs i).looks (qx rs i).looks.length zs∧ys=zs:=λi hi=>by
   obtain⟨f1,f2,f3⟩:=h.fil i hi;obtain⟨ys,k1,k2⟩:=h.code i hi;obtain⟨zs,j1,j2⟩:=h.look i hi;obtain⟨cg,cc,e1⟩:=sc i hi;obtain⟨lg,lc,e2⟩:=h.som i hi;obtain⟨a1,p1,q1,r1⟩:=Rk k1 k2;obtain⟨a2,p2,q2,r2⟩:=Yg j1 j2;rw[e1]at q1 f1;rw[e2]at q2 f2 j1;cases q1;cases q2;refine⟨cg,cc,lg,lc,zs,zs,?_,?_,?_,r1,r2,j1.own,j2,rfl⟩
   ·rw[Nat.zero_add,h.row.own.cellAt _ qg,f1]
   ·rw[Nat.zero_add,h.row.own.cellAt _ qg,f2]
   ·rw[Nat.zero_add,h.row.own.cellAt _ qg,f3]
  refine⟨_,cap,rfl,λi hi=>?_,λi hi=>?_⟩
  ·obtain⟨cg,cc,lg,lc,ys,zs,c1,c2,c3,r1,r2,_⟩:=key i hi
   exact⟨g,0,rfl,cg,0,cc,lg,0,lc,c1,c2,c3,r1,r2⟩
  ·obtain⟨cg,cc,lg,lc,ys,zs,c1,c2,c3,r1,r2,o,f,_⟩:=key i hi
   exact⟨g,0,rfl,_,cc,_,lc,lo,zs,c1,c2,c3,r1,Or.inr ⟨cg,0,rfl⟩,o,f⟩
theorem Ww(a:Option Addr)(cap:X)(is:L T3)(w:E)(hc:Mk w a is)(hk:Ec is):Calls prog 28 #[J a is.length cap] w λe w'=>Bw w w'∧∃g:X,e=H (J (p_ g) is.length is.length)∧Ko w' w.heap.size w'.heap.size (J (p_ g) is.length is.length) is:=by
 obtain⟨z0,hi,bq,bi,ci⟩:=info_parts Tryz.info73;have hl:=hk.1;have HK:=Ab hk.2;clear hk;go_enter func28,ntmps28
 go_wp2_with (first|(at_make;refine wpList_make_full _ rfl (.tmp 6) (.tmp 6) 33 rfl w.heap.size 73 z0 (G #[nS,nS,S ByteArray.empty]) 3 underlying33 hi bq bi .i64 .i64 _ _ is.length rfl rfl rfl rfl qaq qq (Nat.le_refl _) ?_;intro w1 ah ae))
 have fy:Bw w w1:=(Below.refl _ _).grown ae (Nat.le_refl _) qi;clear ae
 go_loopw [4] (λi wr=>∃(k:X)(xs:L Z)(cv lv:X→Z),k≤is.length∧i=I k∧wr.ownsRow w.heap.size 73 3 (J (p_ w.heap.size) is.length is.length) is.length xs∧Hd (Eu wr (w.heap.size+1) is k xs cv lv)∧Hd (SomC is cv k)∧Bw w wr) (λi _=>is.length-(intOf i).toNat)
 case atStart=>exact⟨0,_,_,_,Nat.zero_le _,rfl,ah,Eu.zero _ _ _ _,(λi hi=>by omega:SomC is _ 0),fy⟩
 case round=>
  obtain⟨k,xs,cv,lv,hk,rfl,ah,HP,ph,am⟩:=hrel
  by_cases ai:k<is.length
  ·obtain⟨b,off,rfl,ca,cc,la,lc,c1,c2,c3,c4,c5⟩:=(hc.bl am) k ai
   have C6:=HK.o k ai;have L9:k*3+2<xs.length:=qdc;have hgl:w.heap.size<wr.heap.size:=(ah.lt _ rfl).2;have HF:Hd (∀(W:E)(c d:Z)(ys zs:L Z),Bw wr W→W.ownsRow wr.heap.size 174 3 c (qx is k).code.length ys→Cs (qx is k).code (qx is k).code.length ys→W.ownsRow wr.heap.size 115 3 d (qx is k).looks.length zs→Bx (qx is k).looks (qx is k).looks.length zs→(∃g cap,d=J (p_ g) (qx is k).looks.length cap)→Eu W (w.heap.size+1) is (k+1) (((xs.set (k*3) c).set (k*3+1) d).set (k*3+2) (S (qx is k).out)) (λi=>if i=k then c else cv i) (λi=>if i=k then d else lv i)):=λW c d ys zs h1 h2 h3 h4 h5 h6=>HP.o.add (λb _ hl=>Or.inl (h1.block b hl)) hgl h2 h3 h4 h5 h6 (λj hj=>set3_old _ _ _ hj) (set3_0 _ _ _ L9) (set3_1 _ _ _ L9) (set3_2 _ _ _ L9);have tr:Hd (∀c,(∃g cp,c=J (p_ g) (qx is k).code.length cp)→SomC is (λi=>if i=k then c else cv i) (k+1)):=λc hc=>ph.o.add hc;clear ph;generalize qx is k=i at *;have C4:=Ab c4;have C5:=Ab c5;clear fy hc c4 c5;go_wp2_with fail;refine(Zn ca la cc lc i.code i.looks i.out _ C4.o C5.o C6.1 C6.2).mono ?_;rintro e w2 ⟨af,g1,g2,rfl,⟨ys,nj,zu⟩,zs,mq,hfz⟩;have aq:=Ad ah af;have lh:=am.trans (af.mono am.size);have cm:=aq.frozenAt;have te:=(((HF.o w2 _ _ ys zs af nj zu mq hfz ⟨_,_,rfl⟩).set (b:=w.heap.size) (j:=k*3) (Nat.lt_succ_self _) (J (p_ g1) i.code.length i.code.length)).set (b:=w.heap.size) (j:=k*3+1) (Nat.lt_succ_self _) (J (p_ g2) i.looks.length i.looks.length)).set (b:=w.heap.size) (j:=k*3+2) (Nat.lt_succ_self _) (S i.out);obtain⟨o1,d1⟩:=Br aq (j:=k*3) qg;obtain⟨o2,d2⟩:=Br aq (j:=k*3+1) qg;obtain⟨o3,d3⟩:=Br aq (j:=k*3+2) qg;have HO:=Ab aq;have fj:=Ab te;clear ah aq af am te HP HF nj mq zu hfz;go_wp2;go_roundw
   case rel=>exact⟨k+1,_,_,_,qg,qm,(((HO.o.stored _ _).1.stored _ _).1.stored _ _).1,fj.o,tr.o _ ⟨_,_,rfl⟩,((lh.setCell (Nat.le_refl _) _).setCell (Nat.le_refl _) _).setCell (Nat.le_refl _) _⟩
   case measure=>simp[intOf];omega
  ·have ek:k=is.length:=qg
   subst ek;go_wp2;go_ret;exact⟨am,_,rfl,_,_,_,HP.o.own1 ah (Nat.le_succ _) (Nat.le_refl _),ph.o⟩

theorem My(n:Int)(ta ra:Option Addr)(tc rc:X)(ts:L By)(rs:L T3)(w:E)(st:Cu w ta ts)(rq:Mk w ra rs)(hl:ts.length≤1048576)(hq:Ec rs):Calls prog 8 #[G #[I n,J ta ts.length tc,J ra rs.length rc]] w λe w'=>Bw w w'∧∃(g1:X)(v2:Z),e=H (G #[I n,J (p_ g1) ts.length ts.length,v2])∧Ds w' w.heap.size w'.heap.size (J (p_ g1) ts.length ts.length) ts∧Ko w' w.heap.size w'.heap.size v2 rs:=by
 have di:=Ab st;have X7:=Ab rq;have HQS:=Ab hq;clear st rq hq;go_enter func8,ntmps8;go_wp2_with fail;have ak:Bw w (((w.alloc (O #[I n,J ta ts.length tc,J ra rs.length rc] 25)).alloc (O #[I 0,nS,nS] 35)).alloc (O #[I n,nS,nS] 35)):=((aN _ _).alloc qi _).alloc qj _;refine(Ou ta tc ts _ (di.o.bl ak) hl).mono ?_;rintro e w1 ⟨ag,g,rfl,hr⟩;have hg:=(hr.lt g rfl).1;simp at hg;rw[Po]at hr;have iw:Hd (Ds w1 (w.heap.size+1+1+1) w1.heap.size (J (p_ g) ts.length ts.length) ts):=Bu.new (Ah hr qi);have hb:=ak.trans (ag.mono ak.size);have hz:=ag.size;simp at hz;have c02:w1.cell? ⟨w.heap.size,2,N⟩=M (J ra rs.length rc):=Aa ag qo;have Oh:w1.cell? ⟨w.heap.size+1,0,N⟩=M (I 0):=Aa ag qo;have A3:w1.cell? ⟨w.heap.size+1,1,N⟩=M nS:=Aa ag qo;have c12:w1.cell? ⟨w.heap.size+1,2,N⟩=M nS:=Aa ag qo;have c20:w1.cell? ⟨w.heap.size+1+1,0,N⟩=M (I n):=Aa ag qo;have c21:w1.cell? ⟨w.heap.size+1+1,1,N⟩=M nS:=Aa ag qo;have c22:w1.cell? ⟨w.heap.size+1+1,2,N⟩=M nS:=Aa ag qo;have f1:∀j,w1.frozen? ⟨w.heap.size+1,j,N⟩=false:=λj=>by rw[ag.frozen (p:=⟨w.heap.size+1,j,N⟩) qi];simp[go_sem]
 have f2:∀j,w1.frozen? ⟨w.heap.size+1+1,j,N⟩=false:=λj=>by rw[ag.frozen (p:=⟨w.heap.size+1+1,j,N⟩) qi];simp[go_sem]
 clear ak ag;go_wp2_with fail;have mr:Bw w (w1.setCell ⟨w.heap.size+1+1,1,N⟩ (J (p_ g) ts.length ts.length)):=hb.setCell (p:=⟨w.heap.size+1+1,1,N⟩) qj _;refine(Ww ra rc rs _ (X7.o.bl mr) HQS.o).mono ?_;rintro e w2 ⟨af,g2,rfl,mq⟩;have au:=mr.trans (af.mono mr.size);have ct:Hd (Ds w2 (w.heap.size+1+1+1) w1.heap.size (J (p_ g) ts.length ts.length) ts):=(iw.o.set (j:=1) (show w.heap.size+1+1<w.heap.size+1+1+1 from qg) _).bl af;have ci:=af.size;simp at ci;have HT2:Hd (Ko w2 (w.heap.size+1+1+1) w2.heap.size (J (p_ g2) rs.length rs.length) rs):=mq.wide qj (Nat.le_refl _);have hs12:w1.heap.size≤w2.heap.size:=by simpa using af.size
 have d10:w2.cell? ⟨w.heap.size+1,0,N⟩=M (I 0):=Aa af (by simp[go_sem,Oh]);have d11:w2.cell? ⟨w.heap.size+1,1,N⟩=M nS:=Aa af (by simp[go_sem,A3]);have d12:w2.cell? ⟨w.heap.size+1,2,N⟩=M nS:=Aa af (by simp[go_sem,c12]);have d20:w2.cell? ⟨w.heap.size+1+1,0,N⟩=M (I n):=Aa af (by simp[go_sem,c20]);have d21:w2.cell? ⟨w.heap.size+1+1,1,N⟩=M (J (p_ g) ts.length ts.length):=Aa af (by simp[go_sem,c21]);have d22:w2.cell? ⟨w.heap.size+1+1,2,N⟩=M nS:=Aa af (by simp[go_sem,c22]);have e1:∀j,w2.frozen? ⟨w.heap.size+1,j,N⟩=false:=λj=>by rw[af.frozen (p:=⟨w.heap.size+1,j,N⟩) qj];simp[go_sem,f1]
 have e2:∀j,w2.frozen? ⟨w.heap.size+1+1,j,N⟩=false:=λj=>by rw[af.frozen (p:=⟨w.heap.size+1+1,j,N⟩) qj];simp[go_sem,f2]
 clear af mr hb c02 Oh A3 c12 c20 c21 c22 f1 f2 hr mq iw;go_wp2;refine bR (v:=G #[I n,J (p_ g) ts.length ts.length,J (p_ g2) rs.length rs.length]) (by simp[results,results8,go_sem,d10,d11,d12]) rfl ⟨?_,_,_,rfl,?_,?_⟩
 ·exact(((au.setCell (p:=⟨w.heap.size+1+1,2,N⟩) qj _).setCell (p:=⟨w.heap.size+1,0,N⟩) qi _).setCell (p:=⟨w.heap.size+1,1,N⟩) qi _).setCell (p:=⟨w.heap.size+1,2,N⟩) qi _
 ·exact((((ct.o.set qg _).set qg _).set qg _).set qg _).wide qg qj
 ·exact((((HT2.o.set qg _).set qg _).set qg _).set qg _).wide qg qi
theorem szSpace_l2(sa ta:Option Addr)(c1 c2:X)(ss:L S2)(ts:L T2)(AL:Int)(hL0:0≤AL)(hL1:AL≤1048576)(w:E)(h:Li w sa ss ta ts):Calls prog 5 #[G #[J sa ss.length c1,J ta ts.length c2],I AL] w λe w'=>Bw w w'/\∃r:Int,e=H (I r)/\(r<0\/(Ep ss ts/\0<=r/\r<=1048576)):=by
 have ak:Bw w (w.alloc (O #[J sa ss.length c1,J ta ts.length c2] 29)):=aN _ _;have k0:(w.alloc (O #[J sa ss.length c1,J ta ts.length c2] 29)).cell? ⟨w.heap.size,1,N⟩=M (J ta ts.length c2):=qo;obtain⟨rs,rt,ls,lt,ns,xs,nt,lc,xt⟩:=h;go_enter func5,ntmps5;go_wp2_with fail;refine(szSS_any sa c1 ss AL _ hL0 hL1 (rs.bl ak) ls ns xs).mono ?_;rintro e w1 ⟨ag,r,rfl,hr⟩;have bm:=bt ak ag;have k1:=Aa ag k0
 rcases hr with hr|⟨h1,yn,nj⟩
 ·clear ak ag k0
  go_wp2;go_ret;exact⟨bm,-1,rfl,Or.inl qg⟩
 ·clear ak ag k0
  go_wp2_with fail;refine(szTS_any ta c2 ts r _ qg qg (rt.bl bm) lt nt lc xt).mono ?_;rintro e w2 ⟨af,r2,rfl,mq⟩;have bg:=bt bm af;clear af bm k1
  rcases mq with mq|⟨h2,mq,xv,h3⟩
  ·exact qdq
  ·go_wp2
   go_ret;exact⟨bg,r2,rfl,Or.inr ⟨⟨qg,qg,h3⟩,qg,qg⟩⟩
theorem SoOk.xn{ta ra:Option Addr}{ts:L By}(h:SoOk w ta ts ra rs)(i:X):(nx ts i).size≤maxLen:=by
 unfold nx;rw[gG]
 rcases Nat.lt_or_ge i ts.length with q|q
 ·rw[Hq q];exact h.xt _ (List.getElem_mem q)
 ·rw[List.getElem?_eq_none q];exact Nat.zero_le _
structure LawL (w0:E) (ta ra sa ua na:Option Addr) (T:L By) (R:L T3) (ss:L S2) (tp:L T2) (xs:L By):Prop where
 so:SoOk w0 ta T ra R
 lt:T.length≤1048576
 qs:Ec R
 sp:Li w0 sa ss ua tp
 sm:Ep ss tp
 nl:xs.length≤1048576
 ns:Cu w0 na xs
 nn:∀i,(nx xs i).size≤9223372036854775807
theorem toNames_own(a:Option Addr)(cap:X)(xs:L By)(w:E)(hc:Cu w a xs)(hl:xs.length≤1048576):Calls prog 10 #[J a xs.length cap] w λe w'=>Bw w w'∧∃g:X,e=H (J (p_ g) xs.length xs.length)∧Ds w' w.heap.size w'.heap.size (J (p_ g) xs.length xs.length) xs:=by
 refine(Ou a cap xs w hc hl).mono ?_;rintro e w' ⟨hb,g,rfl,ho⟩;rw[Po]at ho;exact⟨hb,g,rfl,Bu.new ho⟩
section
variable {w0:E} {ta ra sa ua na:Option Addr} {T:L By} {R:L T3} {ss:L S2} {tp:L T2} {xs:L By} {n:Int} {V:E} {lo hi lo' hi' lo2 hi2 g1 tc:X} {v2 u1 u2 v3:Z}
theorem LawL.stIn(h:LawL w0 ta ra sa ua na T R ss tp xs){a:Option Addr}(o1:Ds V lo hi (J (p_ g1) T.length tc) T)(r:Mk V a R):Nv V (p_ g1) T a R:=by
 obtain⟨a',c',e,hs⟩:=o1.sl;cases e;exact⟨hs,h.lt,h.so.xn,r,h.so.ok,h.qs⟩
theorem LawL.spv(h:LawL w0 ta ra sa ua na T R ss tp xs):Fx ss tp=0→Xv ss tp:=λe=>(Mf h.sp e).v
theorem LawL.tl(h:LawL w0 ta ra sa ua na T R ss tp xs):Fx ss tp=0→tp.length≤200:=λe=>(Mf h.sp e).l2
end
def kC(d:BD):X:=1+d.ch.length
def kD(d:BD):X:=kR (λi=>(qx d.R i).code.length) (λi=>(qx d.R i).looks.length) (kC d+d.T.length) d.R.length
end Go.Proofs.YtnflkpmmfpfhlaaGreatDoor
