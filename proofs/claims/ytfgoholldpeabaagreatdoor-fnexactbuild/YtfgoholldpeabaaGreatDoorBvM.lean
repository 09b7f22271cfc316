import Derived.Test.YtfgoholldpeabaaGreatDoorBvE
import Derived.Test.YtfgoholldpeabaaGreatDoorBvF
namespace Go.Proofs.YtfgoholldpeabaaGreatDoor
set_option maxHeartbeats 8000000
set_option maxRecDepth 100000
open _root_.Go.Proofs.Tryz Go.RowKit Go.Deep
set_option linter.unusedVariables false
set_option linter.unusedSimpArgs false
variable {w w' w2:World} {B g n cap j lo hi b m n1 n2 lo' hi':Nat} {ys xs zs us:List Value} {T:List By} {v v1 v2 qv nv ev:Value} {rs is R:List T3} {cv lv kv:Nat→Value} {cl gl:Nat→Nat} {ta:Option Addr} {ss:List S2} {ts:List T2} {nm:By} {s s':Sb}
def Keep9 (v:Value) (w w':World):Prop:=∀(b:Nat) (cs:Array Value),w.heap[b]?=some (.cells cs 9 (0,0))→v.ownBlock≠some b→w'.heap[b]?=some (.cells cs 9 (0,0))
def Pg (K n:Nat) (ys:List Value):Prop:=∀ i,i<n→ys[i]?=some (.string (mt (K+i)))
theorem Vh (a:Option Addr) (cap:Nat) (ss:List By) (w:World) (hc:Cv w a ss) (hl:ss.length ≤ maxLen) (hs:∀ s∈ss,s.size ≤ maxLen) (L:Int) (hL0:0 ≤ L) (hL:L ≤ 1048576) :
    Calls prog 17 #[.slice a ss.length cap,I L] w fun e w'=>w=w'∧∃ r:Int,e=.returned (I r)∧(r<0∨((ss.length+Ox ss:Int) ≤ L∧0 ≤ r∧r ≤ L)):=by
  have H7:=getD_le hs;unfold maxLen at hl H7
  by_cases h0:(ss.length:Int) ≤ L
  · go_enter func17,ntmps17
    go_wp2
    go_loop [1,5] (fun l i=>∃ k:Nat,k ≤ ss.length∧i=I k∧l=I (L-ss.length-Ox (ss.take k))∧(ss.length+Ox (ss.take k):Int) ≤ L) (fun _ i=>ss.length-(intOf i).toNat)
    case atStart=>exact⟨0,Nat.zero_le _,rfl,by simp[Ox],by simpa [Ox] using h0⟩
    case round=>
      obtain⟨k,hk,rfl,rfl,ht⟩:=hrel
      by_cases aj:k<ss.length
      · obtain⟨b,off,rfl,zj⟩:=hc k aj
        have Q6:=Rr ss k aj;have fx:=H7 k;clear H7;generalize ss.getD k ByteArray.empty=s at *;have HT:=hid Q6;clear Q6
        by_cases hneg:L-ss.length-Ox (ss.take k)-s.size<0
        · go_wp2
          go_ret;exact⟨rfl,-1,rfl,qb⟩
        · go_wp2
          go_round
          case rel=>exact⟨k+1,qb,qj,by rw[HT.o];go_num,by rw[HT.o];omega⟩
          case measure=>simp[intOf];omega
      · go_wp2
        go_ret;rw[List.take_of_length_le (show ss.length ≤ k from qb)] at ht ⊢;exact⟨rfl,_,rfl,qb⟩
  · go_enter func17,ntmps17
    go_wp2;go_ret;exact⟨rfl,-1,rfl,qb⟩

theorem Gu (a a':Option Addr) (cap ai:Nat) (ss:List By) (w:World) (hc:Cv w a ss) (oe:Cv w a' ss) (hl:ss.length ≤ 1048576) :
    Calls prog 31 #[.slice a ss.length cap,.slice a' ss.length ai] w fun e w'=>Bw w w'∧e=.returned (.bool true):=by
  go_enter func31,ntmps31;go_wp2
  go_loopw [5] (fun i wr=>∃ k:Nat,k ≤ ss.length∧i=I k∧Bw w wr) (fun i _=>ss.length-(intOf i).toNat)
  case atStart=>exact⟨0,Nat.zero_le _,rfl,Below.refl _ _⟩
  case round=>
    obtain⟨k,hk,rfl,am⟩:=hrel
    by_cases aj:k<ss.length
    · obtain⟨b,off,rfl,zj⟩:=(hc.bl am) k aj
      obtain⟨b',bq,rfl,hck'⟩:=(oe.bl am) k aj;generalize ss.getD k ByteArray.empty=s at *;clear hc oe;go_wp2;go_region
      all_goals
        go_wp2;go_roundw
        case rel=>exact⟨k+1,qb,qj,by repeat (first|exact am|apply Below.drew)⟩
        case measure=>simp[intOf];omega
    · exact qbn

theorem Xz (i:G3) (l:Int) (w:World) (h0:0 ≤ l) (h1:l ≤ 1048576) (hs:i.name.size ≤ maxLen) (ht:i.sum.size ≤ maxLen) :
    Calls prog 83 #[.agg #[.string i.name,.bool i.ask,.string i.sum],I l] w fun e w'=>Bw w w'∧∃ r:Int,e=.returned (I r)∧(r<0∨(0 ≤ r∧r ≤ l∧i.sum.size ≤ 1048576)):=by
  unfold maxLen at hs ht
  by_cases h:l-i.name.size<0
  · exact qfa
  · by_cases h2:l-i.name.size-i.sum.size<0
    · exact qfa
    · exact qfa

theorem Vj (a:Option Addr) (cap:Nat) (is:List G3) (lft:Int) (w:World) (hf0:0 ≤ lft) (B6:lft ≤ 1048576) (hc:Hr w a is) (hl:is.length ≤ maxLen) (hs:∀ i,(gx is i).name.size ≤ maxLen) (ht:∀ i,(gx is i).sum.size ≤ maxLen) :
    Calls prog 63 #[.slice a is.length cap,I lft] w fun e w'=>Bw w w'∧∃ r:Int,e=.returned (I r)∧(r<0∨((is.length:Int) ≤ lft∧0 ≤ r∧r ≤ lft∧∀ i,i<is.length→(gx is i).sum.size ≤ 1048576)):=by
  have Is:=hl;unfold maxLen at Is
  by_cases h0:(is.length:Int) ≤ lft
  · go_enter func63,ntmps63
    go_wp2
    go_loopw [1,5] (fun l i wr=>∃ k:Nat,∃ q:Int,k ≤ is.length∧i=I k∧l=I q∧0 ≤ q∧q ≤ lft∧Bw w wr∧Hd (∀ i,i<k→(gx is i).sum.size ≤ 1048576)) (fun _ i _=>is.length-(intOf i).toNat)
    case atStart=>exact⟨0,_,Nat.zero_le _,rfl,rfl,qb,qb,Below.refl _ _,(fun i hi=>by omega:∀ i,i<0→(gx is i).sum.size ≤ 1048576)⟩
    case round=>
      obtain⟨k,q,hk,rfl,rfl,hq0,ll,bc,HK⟩:=hrel
      by_cases aj:k<is.length
      · obtain⟨b,off,rfl,c1,c2,c3⟩:=(hc.bl bc) k aj
        have fx:=hs k;have ff:=ht k;clear hs ht hc;obtain⟨i,ei⟩:=Ai (gx is k);rw[ei] at c1 c2 c3 fx ff;have EI:=hid ei;clear ei;go_wp2_with fail;refine(Xz i _ _ qb qb fx ff).mono ?_;exact qhv
      · go_wp2
        go_ret;exact⟨bc,_,rfl,Or.inr ⟨qb,qb,qb,fun i hi=>HK.o i qb⟩⟩
  · go_enter func63,ntmps63
    exact qfl

theorem Xs (i:G3) (w:World) :
    Calls prog 95 #[.agg #[.string i.name,.bool i.ask,.string i.sum]] w fun e w'=>Bw w w'∧e=.returned (.agg #[.string i.name,.bool i.ask,.string i.sum]):=by
  go_enter func95,ntmps95;go_wp2;exact bR (v:=.agg #[.string i.name,.bool i.ask,.string i.sum]) (by simp[results,results95,go_sem]) rfl ⟨((aN _ _).alloc qg _).alloc qh _,rfl⟩

theorem Wb (i:G3) (w:World) :
    Calls prog 111 #[.agg #[.string i.name,.bool i.ask,.string i.sum],.agg #[.string i.name,.bool i.ask,.string i.sum]] w fun e w'=>Bw w w'∧e=.returned (.bool true):=by
  have e1:=Cw (rfl:i.name=i.name);have e2:=Cw (rfl:i.sum=i.sum);go_enter func111,ntmps111;exact qfg

theorem Uk (a a':Option Addr) (cap ai:Nat) (is:List G3) (w:World) (hc:Hr w a is) (oe:Hr w a' is) (hl:is.length ≤ 1048576) :
    Calls prog 79 #[.slice a is.length cap,.slice a' is.length ai] w fun e w'=>Bw w w'∧e=.returned (.bool true):=by
  go_enter func79,ntmps79;go_wp2
  go_loopw [5] (fun i wr=>∃ k:Nat,k ≤ is.length∧i=I k∧Bw w wr) (fun i _=>is.length-(intOf i).toNat)
  case atStart=>exact⟨0,Nat.zero_le _,rfl,Below.refl _ _⟩
  case round=>
    obtain⟨k,hk,rfl,am⟩:=hrel
    by_cases aj:k<is.length
    · obtain⟨b,off,rfl,c1,c2,c3⟩:=(hc.bl am) k aj
      obtain⟨b',bq,rfl,d1,d2,d3⟩:=(oe.bl am) k aj;generalize gx is k=i at *;clear hc oe;have je:(k:Int)<(is.length:Int):=qb;have jm:(0:Int) ≤ (k:Int):=qb;go_wp2_with fail
      go_region_held3 (fun w'=>(w'.cell? ⟨b,off+k*3,none⟩=some (.string i.name)∧w'.cell? ⟨b,off+k*3+1,none⟩=some (.bool i.ask)∧w'.cell? ⟨b,off+k*3+2,none⟩=some (.string i.sum))∧(w'.cell? ⟨b',bq+k*3,none⟩=some (.string i.name)∧w'.cell? ⟨b',bq+k*3+1,none⟩=some (.bool i.ask)∧w'.cell? ⟨b',bq+k*3+2,none⟩=some (.string i.sum)))
        (first|assumption|(simp[*];done)|exact⟨⟨Aa af qo,Aa af qo,Aa af qo⟩,Aa af qo,Aa af qo,Aa af qo⟩)
        (first|(go_at_call 111;refine(Wb i _).mono ?_;rintro e w1 ⟨af,rfl⟩))
      all_goals
        go_wp2;go_roundw
        case rel=>exact⟨k+1,qb,qj,am.trans (Below.trans (Below.drew (Below.refl _ _)) (af.mono qcu))⟩
        case measure=>simp[intOf];omega
    · exact qbn

theorem Wa (a a' la P2:Option Addr) (cap ai lc V1:Nat) (is:List I3) (gs:List G3) (out:By) (w:World) (rc:Cj w a is) (rc':Cj w a' is) (rg:Hr w la gs) (rg':Hr w P2 gs) (h1:is.length ≤ 1048576) (h2:gs.length ≤ 1048576) :
    Calls prog 55 #[.agg #[.slice a is.length cap,.slice la gs.length lc,.string out],.agg #[.slice a' is.length ai,.slice P2 gs.length V1,.string out]] w fun e w'=>Bw w w'∧e=.returned (.bool true):=by
  have ak:Bw w ((w.alloc (.cells #[.slice a is.length cap,.slice la gs.length lc,.string out] 97)).alloc (.cells #[.slice a' is.length ai,.slice P2 gs.length V1,.string out] 97)):=(aN _ _).alloc qg _;have k1:((w.alloc (.cells #[.slice a is.length cap,.slice la gs.length lc,.string out] 97)).alloc (.cells #[.slice a' is.length ai,.slice P2 gs.length V1,.string out] 97)).cell? ⟨w.heap.size,1,none⟩=some (.slice la gs.length lc):=qk;have k2:((w.alloc (.cells #[.slice a is.length cap,.slice la gs.length lc,.string out] 97)).alloc (.cells #[.slice a' is.length ai,.slice P2 gs.length V1,.string out] 97)).cell? ⟨w.heap.size,2,none⟩=some (.string out):=qk;have k3:((w.alloc (.cells #[.slice a is.length cap,.slice la gs.length lc,.string out] 97)).alloc (.cells #[.slice a' is.length ai,.slice P2 gs.length V1,.string out] 97)).cell? ⟨w.heap.size+1,1,none⟩=some (.slice P2 gs.length V1):=qk;have k4:((w.alloc (.cells #[.slice a is.length cap,.slice la gs.length lc,.string out] 97)).alloc (.cells #[.slice a' is.length ai,.slice P2 gs.length V1,.string out] 97)).cell? ⟨w.heap.size+1,2,none⟩=some (.string out):=qk;have e1:=Cw (rfl:out=out);go_enter func55,ntmps55;go_wp2_with fail;refine(Mu a a' cap ai is _ (rc.bl ak) (rc'.bl ak) h1).mono ?_;rintro e w1 ⟨af,rfl⟩;have bg:=bt ak af;have c1:=Aa af k1;have c2:=Aa af k2;have c3:=Aa af k3;have c4:=Aa af k4;clear ak af k1 k2 k3 k4;go_wp2_with fail;refine(Uk la P2 lc V1 gs _ (rg.bl bg) (rg'.bl bg) h2).mono ?_;rintro e w2 ⟨ag,rfl⟩;have be:=bt bg ag;have d2:=Aa ag c2;have d4:=Aa ag c4;clear ag bg c1 c2 c3 c4;go_wp2;go_ret;exact⟨be,rfl⟩

def RdI (K n:Nat) (w:World) (g:Nat):Prop:=∀ i,i<n→w.cell? ⟨g,i*3,none⟩=some (I ((K+3*i:Nat):Int))∧w.cell? ⟨g,i*3+1,none⟩=some (.string (mt (K+3*i+1)))∧w.cell? ⟨g,i*3+2,none⟩=some (I ((K+3*i+2:Nat):Int))
theorem Zt.read {K:Nat} (h:w.ownsRow B 128 3 (.slice (p_ g) n cap) n ys) (hm:Zt K n ys):RdI K n w g:=by
  exact qjn
theorem RdI.bl {K:Nat} (h:RdI K n w g) (hb:Bw w w'):RdI K n w' g:=fun i hi=>
  ⟨Aa hb (h i hi).1,Aa hb (h i hi).2.1,Aa hb (h i hi).2.2⟩

theorem Zk (g n cap K:Nat) (w:World) (hr:RdI K n w g) (hn:n ≤ 1048576) (h1:1 ≤ K) (h2:K ≤ 900000000000000) :
    Calls prog 80 #[.slice (p_ g) n cap,I K] w fun e w'=>e=.returned (I ((K+3*n:Nat):Int))∧Bw w w':=by
  have HR:=hid hr;clear hr;go_enter func80,ntmps80;go_wp2
  go_loopw [1,5] (fun k i wr=>∃(m:Nat),m ≤ n∧i=I m∧k=I ((K+3*m:Nat):Int)∧Bw w wr) (fun _ i _=>n-(intOf i).toNat)
  case atStart=>exact⟨0,Nat.zero_le _,rfl,rfl,Below.refl _ _⟩
  case round=>
    obtain⟨m,hm,rfl,rfl,bc⟩:=hrel
    by_cases aj:m<n
    · obtain⟨c1,c2,c3⟩:=(HR.o.bl bc) m aj
      have Do:K+3*m+1<1000000000000000:=qb;have HT:Hd (∀ W:World,Calls prog 58 #[I ((K+3*m+1:Nat):Int)] W fun e w'=>Bw W w'∧e=.returned (.string (mt (K+3*m+1)))):=fun W=>Cq (K+3*m+1) W qb Do;generalize mt (K+3*m+1)=t at *;obtain⟨c,ec⟩:=Ai (K+3*m);rw[ec] at c1 c3 HT Do ⊢;have HE:=hid ec;clear ec;have et:=Cw (rfl:t=t);have M8:(m:Int)<(n:Int):=qb;have hm0:(0:Int) ≤ (m:Int):=qb;have e1:(((c+1:Nat):Int))=(c:Int)+1:=qb;have e2:(((c+2:Nat):Int))=(c:Int)+1+1:=qb;rw[e2] at c3;have bu:Bw wr wr.drew:=(Below.refl _ _).drew;clear e1 e2;go_wp2_with fail
      go_region_held3 (fun w'=>w'.cell? ⟨g,m*3,none⟩=some (I (c:Int))∧w'.cell? ⟨g,m*3+1,none⟩=some (.string t)∧w'.cell? ⟨g,m*3+2,none⟩=some (I ((c:Int)+1+1)))
        (first|assumption|(simp[*];done)|exact⟨Aa ag qo,Aa ag qo,Aa ag qo⟩)
        (first|(go_at_call 58;refine(HT.o _).mono ?_;rintro e w2 ⟨ag,rfl⟩))
      all_goals
        have d3:=Aa ag (Aa bu c3);have be:=bt bc (bt bu ag);clear c1 c2 c3 ag bu;exact qjv
    · exact qdg

def MkG (K n:Nat) (ys:List Value):Prop:=∀ i,i<n→ys[i*3]?=some (.string (mt (K+3*i)))∧ys[i*3+1]?=some (.bool (mb (K+3*i+1)))∧ys[i*3+2]?=some (.string (mt (K+3*i+2)))
theorem mkG_set {K k:Nat} (h:MkG K k ys) (hx:k*3+2<ys.length) :
    MkG K (k+1) (((ys.set (k*3) (.string (mt (K+3*k)))).set (k*3+1) (.bool (mb (K+3*k+1)))).set (k*3+2) (.string (mt (K+3*k+2)))):=by
  exact qhx
theorem rem3 (c:Nat):(((c:Int)+1) % 3 == 0)=mb (c+1):=by
  unfold mb;rw[Bool.eq_iff_iff];simp;omega

theorem Sj (B g n cap K:Nat) (xs:List Value) (w:World) (ah:w.ownsRow B 125 3 (.slice (p_ g) n cap) n xs) (hB:B ≤ w.heap.size) (hn:n ≤ 1048576) (h1:1 ≤ K) (h2:K ≤ 900000000000000) :
    Calls prog 60 #[.slice (p_ g) n cap,I K] w fun e w'=>e=.returned (I ((K+3*n:Nat):Int))∧Below B w w'∧Fu g w w'∧∃ ys,w'.ownsRow B 125 3 (.slice (p_ g) n cap) n ys∧MkG K n ys:=by
  have wz:B ≤ g:=(ah.lt g rfl).1;go_enter func60,ntmps60;go_wp2
  go_loopw [1,5] (fun k i wr=>∃(m:Nat) (ys:List Value),m ≤ n∧i=I m∧k=I ((K+3*m:Nat):Int)∧Hd (wr.ownsRow B 125 3 (.slice (p_ g) n cap) n ys)∧Hd (MkG K m ys)∧Hd (Fu g w wr)∧w.heap.size ≤ wr.heap.size∧Below B w wr) (fun _ i _=>n-(intOf i).toNat)
  case atStart=>exact⟨0,xs,Nat.zero_le _,rfl,rfl,ah,(fun i hi=>by omega:MkG K 0 xs),(fun b _ _=>rfl:Fu g w w),Nat.le_refl _,Below.refl _ _⟩
  case round=>
    obtain⟨m,ys,hm,rfl,rfl,HO,HM,HK,de,bc⟩:=hrel;clear ah
    by_cases aj:m<n
    · have E8:m*3+2<ys.length:=by rw[HO.o.1];omega
      have l5:=hid (mkG_set HM.o E8);have Do:K+3*m+2<1000000000000000:=qb;have HT:Hd (∀ W:World,Calls prog 58 #[I ((K+3*m:Nat):Int)] W fun e w'=>Bw W w'∧e=.returned (.string (mt (K+3*m)))):=fun W=>Cq (K+3*m) W qb qb
      have HU:Hd (∀ W:World,Calls prog 58 #[I ((K+3*m:Nat)+1+1:Int)] W fun e w'=>Bw W w'∧e=.returned (.string (mt (K+3*m+2)))):=fun W=>by
        exact qkc
      have r1:=rem3 (K+3*m);generalize mt (K+3*m)=t at *;generalize mt (K+3*m+2)=u at *;generalize mb (K+3*m+1)=q at *;obtain⟨c,ec⟩:=Ai (K+3*m);rw[ec] at HT HU Do r1 ⊢;have HE:=hid ec;clear ec;have M8:(m:Int)<(n:Int):=qb;go_wp2_with fail;refine(HT.o _).mono ?_;rintro e w2 ⟨ag,rfl⟩;have aq:=Ac HO.o ag;have kw:Below B w w2:=bc.trans (ag.mono qb);have I4:=aq.frozenAt;obtain⟨o1,d1⟩:=Bl aq (j:=m*3) qb;obtain⟨o2,d2⟩:=Bl aq (j:=m*3+1) qb;have wb:=hid aq;have fs:=hid (HK.o.bl de ag);have gp:w.heap.size ≤ w2.heap.size:=zo ag.size;clear aq ag bc HO;go_wp2_with fail;refine(HU.o _).mono ?_;rintro e w3 ⟨aw,rfl⟩;have fh:=Ac ((wb.o.stored (m*3) (.string t)).1.stored (m*3+1) (.bool q)).1 aw;have yg:Below B w w3:=((kw.setCell (p:=⟨g,m*3,none⟩) wz _).setCell (p:=⟨g,m*3+1,none⟩) wz _).trans (aw.mono qh);have rh:Hd (Fu g w w3):=((fs.o.set (m*3) _).set (m*3+1) _).bl qcz aw;(have oa:w.heap.size ≤ w3.heap.size:=by have:=aw.size;simp at this;omega);have hfr3:=fh.frozenAt;obtain⟨o3,d3⟩:=Bl fh (j:=m*3+2) qb;have J5:=hid fh;clear fh aw d1 d2 kw I4 wb;go_wp2;go_roundw
      case rel=>exact⟨m+1,_,qb,qj,congrArg (Value.int .i64) (zo HE.o),(J5.o.stored _ _).1,l5.o,rh.o.set _ _,by simpa using oa,yg.setCell (p:=⟨g,m*3+2,none⟩) wz _⟩
      case measure=>simp[intOf];omega
    · exact qdc

theorem Sy {T:Nat} (h:w.ownsRow B T 1 (.slice (some ⟨g,0,none⟩) n cap) n xs) (hj:j<n):∃ v,w.cell? ⟨g,j,none⟩=some v:=by
  have hl:=h.1;exact⟨xs[j]'(by omega),by rw[h.cellAt j (by omega)];exact Iu _⟩

theorem MkG.read {K T:Nat} (h:w.ownsRow B T 3 (.slice (p_ g) n cap) n ys) (hm:MkG K n ys):RdG K n w g:=by
  exact qjn
theorem Sv (g n cap K:Nat) (w:World) (hr:RdG K n w g) (hn:n ≤ 1048576) (h1:1 ≤ K) (h2:K ≤ 900000000000000) :
    Calls prog 81 #[.slice (p_ g) n cap,I K] w fun e w'=>e=.returned (I ((K+3*n:Nat):Int))∧Bw w w':=by
  have HR:=hid hr;clear hr;go_enter func81,ntmps81;go_wp2
  go_loopw [1,5] (fun k i wr=>∃(m:Nat),m ≤ n∧i=I m∧k=I ((K+3*m:Nat):Int)∧Bw w wr) (fun _ i _=>n-(intOf i).toNat)
  case atStart=>exact⟨0,Nat.zero_le _,rfl,rfl,Below.refl _ _⟩
  case round=>
    obtain⟨m,hm,rfl,rfl,bc⟩:=hrel
    by_cases aj:m<n
    · obtain⟨c1,c2,c3⟩:=(HR.o.bl bc) m aj
      have Do:K+3*m+2<1000000000000000:=qb;have HT:Hd (∀ W:World,Calls prog 58 #[I ((K+3*m:Nat):Int)] W fun e w'=>Bw W w'∧e=.returned (.string (mt (K+3*m)))):=fun W=>Cq (K+3*m) W qb qb
      have HU:Hd (∀ W:World,Calls prog 58 #[I ((K+3*m:Nat)+1+1:Int)] W fun e w'=>Bw W w'∧e=.returned (.string (mt (K+3*m+2)))):=fun W=>by
        exact qkc
      have r1:=rem3 (K+3*m);generalize mt (K+3*m)=t at *;generalize mt (K+3*m+2)=u at *;generalize mb (K+3*m+1)=q at *;obtain⟨c,ec⟩:=Ai (K+3*m);rw[ec] at HT HU Do r1 ⊢;have HE:=hid ec;clear ec;have et:=Cw (rfl:t=t);have eu:=Cw (rfl:u=u);have M8:(m:Int)<(n:Int):=qb;have hm0:(0:Int) ≤ (m:Int):=qb;have bu:Bw wr wr.drew:=(Below.refl _ _).drew;go_wp2_with fail
      go_region_held3 (fun w'=>w'.cell? ⟨g,m*3,none⟩=some (.string t)∧w'.cell? ⟨g,m*3+1,none⟩=some (.bool q)∧w'.cell? ⟨g,m*3+2,none⟩=some (.string u))
        (first|assumption|(simp[*];done)|exact⟨Aa ag qo,Aa ag qo,Aa ag qo⟩)
        (first|(go_at_call 58;refine(HT.o _).mono ?_;rintro e w2 ⟨ag,rfl⟩))
      all_goals
        have d2:=Aa ag (Aa bu c2);have d3:=Aa ag (Aa bu c3);have be:=bt bc (bt bu ag);clear c1 c2 c3 ag bu;have ja:Bw w2 w2.drew:=(Below.refl _ _).drew;go_wp2_with fail
        go_region_held3 (fun w'=>w'.cell? ⟨g,m*3+2,none⟩=some (.string u))
          (first|assumption|(simp[*];done)|exact Aa aw qo)
          (first|(go_at_call 58;refine(HU.o _).mono ?_;rintro e w3 ⟨aw,rfl⟩))
        all_goals
          have gy:=bt be (bt ja aw);clear d2 d3 aw ja;go_wp2;go_roundw
          case rel=>exact⟨m+1,qb,qj,congrArg (Value.int .i64) (zo HE.o),gy⟩
          case measure=>simp[intOf];omega
    · exact qdg

theorem Df.bl {ob:Option Nat} (h:Df ob w w') (hs:w.heap.size ≤ w'.heap.size) (hb:Bw w' w2):Df ob w w2:=fun b hl hne=>by
  rw[hb.block b qb];exact h b hl hne
theorem Vd (a:Option Addr) (cap:Nat) (ss:List By) (w:World) (hc:Cv w a ss) (hl:ss.length ≤ 1048576) :
    Calls prog 26 #[.slice a ss.length cap] w fun e w'=>Bw w w'∧∃ g:Nat,e=.returned (.slice (p_ g) ss.length ss.length)∧w'.ownsRow w.heap.size 9 1 (.slice (p_ g) ss.length ss.length) ss.length (Ee ss ss.length ss.length):=by
  obtain⟨i0,hi,bp,bh,bv⟩:=info_parts Tryz.info9;go_enter func26,ntmps26
  go_wp2_with (first|(at_make;refine wpList_make_full _ rfl (.tmp 6) (.tmp 6) 22 rfl w.heap.size 9 i0 (.string ByteArray.empty) 1 underlying22 hi bp bh .i64 .i64 _ _ ss.length rfl rfl rfl rfl qam qm (Nat.le_refl _) ?_;intro w1 ah ae))
  rw[Pm] at ah;have fq:Bw w w1:=(Below.refl _ _).grown ae (Nat.le_refl _) qg;clear ae
  go_loopw [4] (fun i wr=>∃ k:Nat,k ≤ ss.length∧i=I k∧wr.ownsRow w.heap.size 9 1 (.slice (p_ w.heap.size) ss.length ss.length) ss.length (Ee ss k ss.length)∧Bw w wr) (fun i _=>ss.length-(intOf i).toNat)
  case atStart=>exact⟨0,Nat.zero_le _,rfl,by simpa [Ee] using ah,fq⟩
  case round=>
    obtain⟨k,hk,rfl,ah,am⟩:=hrel
    by_cases aj:k<ss.length
    · obtain⟨b,off,rfl,zj⟩:=(hc.bl am) k aj
      have cz:=ah.stored k (.string (ss.getD k ByteArray.empty));rw[Uf ss k aj] at cz;have bz:=ah.frozenAt k
      have hce:wr.cell? ⟨w.heap.size,k,none⟩=some ((Ee ss k ss.length)[k]'(by rw[Ia ss k hk];exact aj)):=by
        rw[ah.cellAt k qb];exact Iu _
      generalize (Ee ss k ss.length)[k]'(by rw[Ia ss k hk];exact aj)=old at hce;generalize ss.getD k ByteArray.empty=s at *;have hbel2:Bw w (wr.setCell ⟨w.heap.size,k,none⟩ (.string s)):=am.setCell (Nat.le_refl _) _;clear ah am fq hc;go_wp2;go_roundw
      case rel=>exact⟨k+1,qb,qj,cz.1,hbel2⟩
      case measure=>simp[intOf];omega
    · have ek:k=ss.length:=qb
      subst ek;go_wp2;go_ret;exact⟨am,_,rfl,ah⟩

theorem Si (K:Nat) (w:World) (h2:K ≤ 900000000000000) :
    Calls prog 60 #[nS,I K] w fun e w'=>e=.returned (I (K:Int))∧w=w':=by
  go_enter func60,ntmps60;exact qbc

theorem Sh (B n K:Nat) (v:Value) (xs:List Value) (w:World) (ah:w.ownsRow B 125 3 v n xs) (hB:B ≤ w.heap.size) (hn:n ≤ 1048576) (h1:1 ≤ K) (h2:K ≤ 900000000000000) :
    Calls prog 60 #[v,I K] w fun e w'=>e=.returned (I ((K+3*n:Nat):Int))∧Below B w w'∧Df v.ownBlock w w'∧∃ ys,w'.ownsRow B 125 3 v n ys∧MkG K n ys:=by
  rcases Cs ah with ⟨rfl,rfl⟩|⟨g,cap,rfl⟩
  · refine(Si K w h2).mono ?_
    exact qlr
  · refine(Sj B g n cap K xs w ah hB hn h1 h2).mono ?_
    exact qkx

theorem Ry (K:Nat) (w:World) (h2:K ≤ 900000000000000) :
    Calls prog 35 #[nS,I K] w fun e w'=>e=.returned (I (K:Int))∧w=w':=by
  go_enter func35,ntmps35;exact qbc

theorem Zj (K:Nat) (w:World) (h2:K ≤ 900000000000000) :
    Calls prog 80 #[nS,I K] w fun e w'=>e=.returned (I (K:Int))∧w=w':=by
  go_enter func80,ntmps80;exact qbc

theorem Zi (B n K:Nat) (v:Value) (ys:List Value) (w:World) (ah:w.ownsRow B 128 3 v n ys) (hm:Zt K n ys) (hn:n ≤ 1048576) (h1:1 ≤ K) (h2:K ≤ 900000000000000) :
    Calls prog 80 #[v,I K] w fun e w'=>e=.returned (I ((K+3*n:Nat):Int))∧Bw w w':=by
  rcases Cs ah with ⟨rfl,rfl⟩|⟨g,cap,rfl⟩
  · refine(Zj K w h2).mono ?_
    exact qdh
  · exact Zk g n cap K w (Zt.read ah hm) hn h1 h2

theorem Su (K:Nat) (w:World) (h2:K ≤ 900000000000000) :
    Calls prog 81 #[nS,I K] w fun e w'=>e=.returned (I (K:Int))∧w=w':=by
  go_enter func81,ntmps81;exact qbc

theorem Ss (B n K:Nat) (v:Value) (ys:List Value) (w:World) (ah:w.ownsRow B 125 3 v n ys) (hm:MkG K n ys) (hn:n ≤ 1048576) (h1:1 ≤ K) (h2:K ≤ 900000000000000) :
    Calls prog 81 #[v,I K] w fun e w'=>e=.returned (I ((K+3*n:Nat):Int))∧Bw w w':=by
  rcases Cs ah with ⟨rfl,rfl⟩|⟨g,cap,rfl⟩
  · refine(Su K w h2).mono ?_
    exact qdh
  · exact Sv g n cap K w (MkG.read ah hm) hn h1 h2

theorem Vi (a la:Option Addr) (cap lc:Nat) (is:List I3) (gs:List G3) (out:By) (lft:Int) (hf0:0 ≤ lft) (B6:lft ≤ 1048576) (w:World) (h:Xk w a is la gs out) :
    Calls prog 41 #[.agg #[.slice a is.length cap,.slice la gs.length lc,.string out],I lft] w fun e w'=>Bw w w'∧∃ r:Int,e=.returned (I r)∧(r<0∨(is.length ≤ 1048576∧gs.length ≤ 1048576∧0 ≤ r∧r ≤ lft)):=by
  obtain⟨rc,rg,hlc,hlg,xc,ng,sg,so⟩:=h;unfold maxLen at so;have ak:Bw w (w.alloc (.cells #[.slice a is.length cap,.slice la gs.length lc,.string out] 82)):=aN _ _;have k1:(w.alloc (.cells #[.slice a is.length cap,.slice la gs.length lc,.string out] 82)).cell? ⟨w.heap.size,1,none⟩=some (.slice la gs.length lc):=qk;have k2:(w.alloc (.cells #[.slice a is.length cap,.slice la gs.length lc,.string out] 82)).cell? ⟨w.heap.size,2,none⟩=some (.string out):=qk;go_enter func41,ntmps41;go_wp2_with fail;refine(Mg a cap is lft _ hf0 B6 (rc.bl ak) hlc xc).mono ?_;rintro e w1 ⟨af,r,rfl,hr⟩;have bg:=bt ak af;have P7:=Aa af k1;have P5:=Aa af k2;clear ak af k1 k2
  rcases hr with hr|⟨h1,A6,lj⟩
  · go_wp2
    go_ret;exact⟨bg,-1,rfl,Or.inl qb⟩
  · go_wp2_with fail
    refine(Vj la lc gs r _ qb qb (rg.bl bg) hlg ng sg).mono ?_;rintro e w2 ⟨ag,r2,rfl,mu⟩;have be:=bt bg ag;have k22:=Aa ag P5;clear ag bg P7 P5
    rcases mu with mu|⟨h2,mu,wf,h3⟩
    · exact qdi
    · by_cases h4:r2-out.size<0
      · exact qdi
      · go_wp2
        go_ret;exact⟨be,r2-out.size,rfl,Or.inr qb⟩


theorem Uj (a a':Option Addr) (cap ai:Nat) (is:List T3) (w:World) (hc:Lx w a is) (oe:Lx w a' is) (hk:Ga is) :
    Calls prog 32 #[.slice a is.length cap,.slice a' is.length ai] w fun e w'=>Bw w w'∧e=.returned (.bool true):=by
  have hl:=hk.1;have HK:=hid hk.2;clear hk;go_enter func32,ntmps32;go_wp2
  go_loopw [5] (fun i wr=>∃ k:Nat,k ≤ is.length∧i=I k∧Bw w wr) (fun i _=>is.length-(intOf i).toNat)
  case atStart=>exact⟨0,Nat.zero_le _,rfl,Below.refl _ _⟩
  case round=>
    obtain⟨k,hk,rfl,am⟩:=hrel
    by_cases aj:k<is.length
    · obtain⟨b,off,rfl,ca,cc,la,lc,c1,c2,c3,c4,c5⟩:=(hc.bl am) k aj
      obtain⟨b',bq,rfl,ca',cc',P2,V1,d1,d2,d3,d4,d5⟩:=(oe.bl am) k aj;have zj:=HK.o k aj;generalize qx is k=i at *;clear hc oe;have C4:=hid c4;have C5:=hid c5;have D4:=hid d4;have D5:=hid d5;clear c4 c5 d4 d5;have je:(k:Int)<(is.length:Int):=qb;have jm:(0:Int) ≤ (k:Int):=qb;have ii:Bw wr wr.drew:=(Below.refl _ _).drew;go_wp2_with fail
      go_region_held3 (fun w'=>(w'.cell? ⟨b,off+k*3,none⟩=some (.slice ca i.code.length cc)∧w'.cell? ⟨b,off+k*3+1,none⟩=some (.slice la i.looks.length lc)∧w'.cell? ⟨b,off+k*3+2,none⟩=some (.string i.out))∧(w'.cell? ⟨b',bq+k*3,none⟩=some (.slice ca' i.code.length cc')∧w'.cell? ⟨b',bq+k*3+1,none⟩=some (.slice P2 i.looks.length V1)∧w'.cell? ⟨b',bq+k*3+2,none⟩=some (.string i.out)))
        (first|assumption|(simp[*];done)|exact⟨⟨Aa af qo,Aa af qo,Aa af qo⟩,Aa af qo,Aa af qo,Aa af qo⟩)
        (first|(go_at_call 55;refine(Wa ca ca' la P2 cc cc' lc V1 i.code i.looks i.out _ (C4.o.bl ii) (D4.o.bl ii) (C5.o.bl ii) (D5.o.bl ii) zj.1 zj.2).mono ?_;rintro e w1 ⟨af,rfl⟩))
      all_goals
        go_wp2;go_roundw
        case rel=>exact⟨k+1,qb,qj,am.trans (Below.trans (Below.drew (Below.refl _ _)) (af.mono qcu))⟩
        case measure=>simp[intOf];omega
    · exact qbn

theorem Pv (n:Int) (ta ra l7 ra':Option Addr) (tc rc sj rc':Nat) (ts:List By) (rs:List T3) (w:World) (st:Cv w ta ts) (pj:Cv w l7 ts) (rq:Lx w ra rs) (rq':Lx w ra' rs) (hl:ts.length ≤ 1048576) (hq:Ga rs) :
    Calls prog 11 #[.agg #[I n,.slice ta ts.length tc,.slice ra rs.length rc],.agg #[I n,.slice l7 ts.length sj,.slice ra' rs.length rc']] w fun e w'=>Bw w w'∧e=.returned (.bool true):=by
  have fj:=hid st;have HRQ:=hid rq;have HST':=hid pj;have HRQ':=hid rq';have HQS:=hid hq;clear st rq pj rq' hq;have ak:Bw w ((w.alloc (.cells #[I n,.slice ta ts.length tc,.slice ra rs.length rc] 34)).alloc (.cells #[I n,.slice l7 ts.length sj,.slice ra' rs.length rc'] 34)):=(aN _ _).alloc qg _;have k1:((w.alloc (.cells #[I n,.slice ta ts.length tc,.slice ra rs.length rc] 34)).alloc (.cells #[I n,.slice l7 ts.length sj,.slice ra' rs.length rc'] 34)).cell? ⟨w.heap.size,2,none⟩=some (.slice ra rs.length rc):=qk;have k2:((w.alloc (.cells #[I n,.slice ta ts.length tc,.slice ra rs.length rc] 34)).alloc (.cells #[I n,.slice l7 ts.length sj,.slice ra' rs.length rc'] 34)).cell? ⟨w.heap.size+1,2,none⟩=some (.slice ra' rs.length rc'):=qk;go_enter func11,ntmps11;go_wp2_with fail;refine(Gu ta l7 tc sj ts _ (fj.o.bl ak) (HST'.o.bl ak) hl).mono ?_;rintro e w1 ⟨af,rfl⟩;have bg:=bt ak af;have P7:=Aa af k1;have P5:=Aa af k2;clear ak af k1 k2;go_wp2_with fail;refine(Uj ra ra' rc rc' rs _ (HRQ.o.bl bg) (HRQ'.o.bl bg) HQS.o).mono ?_;rintro e w2 ⟨ag,rfl⟩;go_wp2;go_ret;exact⟨bt bg ag,rfl⟩

theorem mkX_set {K k:Nat} (h:Pg K k ys) (hx:k<ys.length):Pg K (k+1) (ys.set k (.string (mt (K+k)))):=by
  intro i hi;rw[List.getElem?_set]
  rcases Nat.lt_or_ge i k with hl|hl
  · rw[if_neg qb];exact h i hl
  · obtain rfl:i=k:=qb
    rw[if_pos rfl,if_pos hx]

theorem Tv (B g n cap K:Nat) (xs:List Value) (w:World) (ah:w.ownsRow B 9 1 (.slice (p_ g) n cap) n xs) (hB:B ≤ w.heap.size) (hn:n ≤ 1048576) (h1:1 ≤ K) (h2:K ≤ 900000000000000) :
    Calls prog 35 #[.slice (p_ g) n cap,I K] w fun e w'=>e=.returned (I ((K+n:Nat):Int))∧Below B w w'∧Fu g w w'∧∃ ys,w'.ownsRow B 9 1 (.slice (p_ g) n cap) n ys∧Pg K n ys:=by
  have wz:B ≤ g:=(ah.lt g rfl).1;go_enter func35,ntmps35;go_wp2
  go_loopw [1,5] (fun k i wr=>∃(m:Nat) (ys:List Value),m ≤ n∧i=I m∧k=I ((K+m:Nat):Int)∧Hd (wr.ownsRow B 9 1 (.slice (p_ g) n cap) n ys)∧Hd (Pg K m ys)∧Hd (Fu g w wr)∧w.heap.size ≤ wr.heap.size∧Below B w wr) (fun _ i _=>n-(intOf i).toNat)
  case atStart=>exact⟨0,xs,Nat.zero_le _,rfl,rfl,ah,(fun i hi=>by omega:Pg K 0 xs),(fun b _ _=>rfl:Fu g w w),Nat.le_refl _,Below.refl _ _⟩
  case round=>
    obtain⟨m,ys,hm,rfl,rfl,HO,HM,HK,de,bc⟩:=hrel;clear ah
    by_cases aj:m<n
    · have E8:m<ys.length:=by rw[HO.o.1];omega
      have l5:=hid (mkX_set HM.o E8);have Do:K+m<1000000000000000:=qb;have HT:Hd (∀ W:World,Calls prog 58 #[I ((K+m:Nat):Int)] W fun e w'=>Bw W w'∧e=.returned (.string (mt (K+m)))):=fun W=>Cq (K+m) W qb qb;generalize mt (K+m)=t at *;obtain⟨c,ec⟩:=Ai (K+m);rw[ec] at HT Do ⊢;have HE:=hid ec;clear ec;have M8:(m:Int)<(n:Int):=qb;go_wp2_with fail;refine(HT.o _).mono ?_;rintro e w2 ⟨ag,rfl⟩;have aq:=Ac HO.o ag;have kw:Below B w w2:=bc.trans (ag.mono qb);have I4:=aq.frozenAt;obtain⟨o1,d1⟩:=Sy aq (j:=m) aj;have wb:=hid aq;have fs:=hid (HK.o.bl de ag);have gp:w.heap.size ≤ w2.heap.size:=zo ag.size;clear aq ag bc HO;go_wp2;go_roundw
      case rel=>exact⟨m+1,_,qb,qj,congrArg (Value.int .i64) (zo HE.o),(wb.o.stored _ _).1,l5.o,fs.o.set _ _,qcz,kw.setCell (p:=⟨g,m,none⟩) wz _⟩
      case measure=>simp[intOf];omega
    · exact qdc

theorem Fx (lo hi n K:Nat) (v:Value) (xs:List Value) (w:World) (hr:Bg w lo hi 9 1 v n xs) (hB:lo ≤ w.heap.size) (hn:n ≤ 1048576) (h1:1 ≤ K) (h2:K ≤ 900000000000000) :
    Calls prog 35 #[v,I K] w fun e w'=>e=.returned (I ((K+n:Nat):Int))∧Below lo w w'∧Df v.ownBlock w w'∧∃ ys,Bg w' lo hi 9 1 v n ys∧Pg K n ys:=by
  rcases Cs hr.own with ⟨rfl,rfl⟩|⟨g,cap,rfl⟩
  · refine(Ry K w h2).mono ?_
    exact qlw
  · refine(Tv lo g n cap K xs w hr.own hB hn h1 h2).mono ?_
    exact qkl

theorem Pg.read {K:Nat} (h:w.ownsRow B 9 1 (.slice (p_ g) n cap) n ys) (hm:Pg K n ys):RdX K n w g:=by
  intro i hi;rw[h.cellAt _ qb];exact hm i hi
theorem Sn (g n cap K:Nat) (w:World) (hr:RdX K n w g) (hn:n ≤ 1048576) (h1:1 ≤ K) (h2:K ≤ 900000000000000) :
    Calls prog 39 #[.slice (p_ g) n cap,I K] w fun e w'=>e=.returned (I ((K+n:Nat):Int))∧Bw w w':=by
  have HR:=hid hr;clear hr;go_enter func39,ntmps39;go_wp2
  go_loopw [1,5] (fun k i wr=>∃(m:Nat),m ≤ n∧i=I m∧k=I ((K+m:Nat):Int)∧Bw w wr) (fun _ i _=>n-(intOf i).toNat)
  case atStart=>exact⟨0,Nat.zero_le _,rfl,rfl,Below.refl _ _⟩
  case round=>
    obtain⟨m,hm,rfl,rfl,bc⟩:=hrel
    by_cases aj:m<n
    · have c1:=(HR.o.bl bc) m aj
      have Do:K+m<1000000000000000:=qb;have HT:Hd (∀ W:World,Calls prog 58 #[I ((K+m:Nat):Int)] W fun e w'=>Bw W w'∧e=.returned (.string (mt (K+m)))):=fun W=>Cq (K+m) W qb qb;generalize mt (K+m)=t at *;obtain⟨c,ec⟩:=Ai (K+m);rw[ec] at HT Do ⊢;have HE:=hid ec;clear ec;have et:=Cw (rfl:t=t);have M8:(m:Int)<(n:Int):=qb;have hm0:(0:Int) ≤ (m:Int):=qb;have bu:Bw wr wr.drew:=(Below.refl _ _).drew;go_wp2_with fail
      go_region_held3 (fun w'=>w'.cell? ⟨g,m,none⟩=some (.string t))
        (first|assumption|(simp[*];done)|exact Aa ag qo)
        (first|(go_at_call 58;refine(HT.o _).mono ?_;rintro e w2 ⟨ag,rfl⟩))
      all_goals
        have be:=bt bc (bt bu ag);clear c1 ag bu;exact qjv
    · exact qdg

theorem Sl (K:Nat) (w:World) (h2:K ≤ 900000000000000) :
    Calls prog 39 #[nS,I K] w fun e w'=>e=.returned (I (K:Int))∧w=w':=by
  go_enter func39,ntmps39;exact qbc
theorem Fz (lo hi n K:Nat) (v:Value) (ys:List Value) (w:World) (hr:Bg w lo hi 9 1 v n ys) (hm:Pg K n ys) (hn:n ≤ 1048576) (h1:1 ≤ K) (h2:K ≤ 900000000000000) :
    Calls prog 39 #[v,I K] w fun e w'=>e=.returned (I ((K+n:Nat):Int))∧Bw w w':=by
  rcases Cs hr.own with ⟨rfl,rfl⟩|⟨g,cap,rfl⟩
  · refine(Sl K w h2).mono ?_
    exact qdh
  · exact Sn g n cap K w (Pg.read hr.own hm) hn h1 h2

def kR (cl gl:Nat→Nat) (K:Nat):Nat→Nat
  | 0=>K
  | i+1=>kR cl gl K i+3*cl i+3*gl i+1
theorem Po (cl gl:Nat→Nat) (K:Nat):∀ i n,i ≤ n→kR cl gl K i ≤ kR cl gl K n:=by
  intro i n h
  induction n with
  | zero=>
    obtain rfl:i=0:=by omega
    exact Nat.le_refl _
  | succ n ih=>
    rcases Nat.lt_or_ge i (n+1) with h1|h1
    · have:=ih qb
      simp only[kR];omega
    · obtain rfl:i=n+1:=qb
      exact Nat.le_refl _
theorem Qbk (cl gl:Nat→Nat) (K:Nat):∀ n,(∀ i,i<n→cl i ≤ 1048576∧gl i ≤ 1048576)→kR cl gl K n ≤ K+n*6291457:=by
  intro n
  induction n with
  | zero=>intro _;simp[kR]
  | succ n ih=>
    intro h;have:=ih (fun i hi=>h i qb);have:=h n qb;simp only[kR];rw[Nat.succ_mul];omega
structure Cy (w:World) (lo hi:Nat) (v:Value) (n:Nat) (cl gl:Nat→Nat) (xs:List Value) (cv lv:Nat→Value):Prop where
  row:Bg w lo hi 97 3 v n xs
  fst:∀ i,i<n→xs[i*3]?=some (cv i)
  snd:∀ i,i<n→xs[i*3+1]?=some (lv i)
  code:∀ i,i<n→∃ ys,Bg w lo hi 128 3 (cv i) (cl i) ys
  look:∀ i,i<n→∃ ys,Bg w lo hi 125 3 (lv i) (gl i) ys
  apc:∀ i j,i<n→j<n→i≠j→∀ b,(cv i).ownBlock=some b→(cv j).ownBlock≠some b
  apl:∀ i j,i<n→j<n→i≠j→∀ b,(lv i).ownBlock=some b→(lv j).ownBlock≠some b
theorem Kd.rows (h:Kd w lo hi v rs xs cv lv):Cy w lo hi v rs.length (fun i=>(qx rs i).code.length) (fun i=>(qx rs i).looks.length) xs cv lv:=
  ⟨h.row,fun i hi=>(h.fil i hi).1,fun i hi=>(h.fil i hi).2.1,fun i hi=>by obtain⟨ys,h1,_⟩:=h.code i hi;exact⟨ys,h1⟩,fun i hi=>by obtain⟨ys,h1,_⟩:=h.look i hi;exact⟨ys,h1⟩,fun i j hi hj hne b e1 e2=>by
    rcases Nat.lt_or_gt_of_ne hne with h1|h1
    · exact h.apc i j h1 hj b e1 e2
    · exact h.apc j i h1 hi b e2 e1,fun i j hi hj hne b e1 e2=>by
    rcases Nat.lt_or_gt_of_ne hne with h1|h1
    · exact h.apl i j h1 hj b e1 e2
    · exact h.apl j i h1 hi b e2 e1⟩
theorem Cy.same (h:Cy w lo hi v n cl gl xs cv lv) (h1:∀ b,v.ownBlock=some b→w'.heap[b]?=w.heap[b]?) (h2:∀ i,i<n→∀ b,(cv i).ownBlock=some b→w'.heap[b]?=w.heap[b]?) (h3:∀ i,i<n→∀ b,(lv i).ownBlock=some b→w'.heap[b]?=w.heap[b]?):Cy w' lo hi v n cl gl xs cv lv:=
  ⟨h.row.same h1,h.fst,h.snd,fun i hi=>by obtain⟨ys,k⟩:=h.code i hi;exact⟨ys,k.same (h2 i hi)⟩,fun i hi=>by obtain⟨ys,k⟩:=h.look i hi;exact⟨ys,k.same (h3 i hi)⟩,h.apc,h.apl⟩
theorem Cy.lt (h:Cy w lo hi v n cl gl xs cv lv) (hb:v.ownBlock=some b∨(∃ i,i<n∧(cv i).ownBlock=some b)∨∃ i,i<n∧(lv i).ownBlock=some b):lo ≤ b∧b<hi∧b<w.heap.size:=by
  rcases hb with e|⟨i,hi,e⟩|⟨i,hi,e⟩
  · exact⟨(h.row.own.lt b e).1,h.row.top b e,(h.row.own.lt b e).2⟩
  · obtain⟨ys,k⟩:=h.code i hi
    exact⟨(k.own.lt b e).1,k.top b e,(k.own.lt b e).2⟩
  · obtain⟨ys,k⟩:=h.look i hi
    exact⟨(k.own.lt b e).1,k.top b e,(k.own.lt b e).2⟩
theorem Cy.bl (h:Cy w lo hi v n cl gl xs cv lv) (hb:Bw w w'):Cy w' lo hi v n cl gl xs cv lv:=
  h.same (fun b e=>hb.block b (h.lt (Or.inl e)).2.2) (fun i hi b e=>hb.block b (h.lt (Or.inr (Or.inl ⟨i,hi,e⟩))).2.2) (fun i hi b e=>hb.block b (h.lt (Or.inr (Or.inr ⟨i,hi,e⟩))).2.2)
theorem Cy.keepO {u:Value} {e sz:Nat} (h:Cy w lo hi v n cl gl xs cv lv) (ho:w.ownsRow B e sz u m zs) (hk:Df u.ownBlock w w') (h1:97≠e) (h2:128≠e) (h3:125≠e):Cy w' lo hi v n cl gl xs cv lv:=
  h.same (fun b eb=>hk b (h.lt (Or.inl eb)).2.2 (fun e'=>Qk h.row.own ho h1 b eb e'.symm)) (fun i hi b eb=>by
    obtain⟨ys,k⟩:=h.code i hi
    exact hk b (k.own.lt b eb).2 (fun e'=>Qk k.own ho h2 b eb e'.symm)) (fun i hi b eb=>by
    obtain⟨ys,k⟩:=h.look i hi;exact hk b (k.own.lt b eb).2 (fun e'=>Qk k.own ho h3 b eb e'.symm))
theorem Cy.store (h:Cy w lo hi (.slice (p_ g) n cap) n cl gl xs cv lv) (m:Nat) (u:Value):Cy (w.setCell ⟨g,m*3+2,none⟩ u) lo hi (.slice (p_ g) n cap) n cl gl (xs.set (m*3+2) u) cv lv:=
  ⟨⟨(h.row.own.stored (m*3+2) u).1,h.row.top⟩,fun i hi=>by rw[List.getElem?_set,if_neg qb];exact h.fst i hi,fun i hi=>by rw[List.getElem?_set,if_neg qb];exact h.snd i hi,fun i hi=>by
    obtain⟨ys,k1⟩:=h.code i hi
    exact⟨ys,k1.same fun b eb=>hC w ⟨g,m*3+2,none⟩ u b (by show b≠g;intro e;subst e;exact Qk h.row.own k1.own qd b rfl eb)⟩,fun i hi=>by
    obtain⟨ys,k1⟩:=h.look i hi;exact⟨ys,k1.same fun b eb=>hC w ⟨g,m*3+2,none⟩ u b (by show b≠g;intro e;subst e;exact Qk h.row.own k1.own qd b rfl eb)⟩,h.apc,h.apl⟩
theorem Cy.markC (h:Cy w lo hi v n cl gl xs cv lv) (hm:m<n) (hk:Df (cv m).ownBlock w w') (hn:Bg w' lo hi 128 3 (cv m) (cl m) zs):Cy w' lo hi v n cl gl xs cv lv:=by
  obtain⟨y0,k0⟩:=h.code m hm;refine⟨h.row.same fun b eb=>hk b (h.row.own.lt b eb).2 (fun e'=>Qk h.row.own k0.own qd b eb e'.symm),h.fst,h.snd,fun i hi=>?_,fun i hi=>?_,h.apc,h.apl⟩
  · by_cases hi':i=m
    · subst hi';exact⟨zs,hn⟩
    · obtain⟨ys,k1⟩:=h.code i hi
      exact⟨ys,k1.same fun b eb=>hk b (k1.own.lt b eb).2 (fun e'=>h.apc i m hi hm hi' b eb e'.symm)⟩
  · obtain⟨ys,k1⟩:=h.look i hi
    exact qlk
theorem Cy.markL (h:Cy w lo hi v n cl gl xs cv lv) (hm:m<n) (hk:Df (lv m).ownBlock w w') (hn:Bg w' lo hi 125 3 (lv m) (gl m) zs):Cy w' lo hi v n cl gl xs cv lv:=by
  obtain⟨y0,k0⟩:=h.look m hm;refine⟨h.row.same fun b eb=>hk b (h.row.own.lt b eb).2 (fun e'=>Qk h.row.own k0.own qd b eb e'.symm),h.fst,h.snd,fun i hi=>?_,fun i hi=>?_,h.apc,h.apl⟩
  · obtain⟨ys,k1⟩:=h.code i hi
    exact qlk
  · by_cases hi':i=m
    · subst hi';exact⟨zs,hn⟩
    · obtain⟨ys,k1⟩:=h.look i hi
      exact⟨ys,k1.same fun b eb=>hk b (k1.own.lt b eb).2 (fun e'=>h.apl i m hi hm hi' b eb e'.symm)⟩
def Ja (w:World) (lo hi K:Nat) (cl gl:Nat→Nat) (cv lv:Nat→Value) (m:Nat) (ys:List Value):Prop:=∀ i,i<m→ys[i*3+2]?=some (.string (mt (kR cl gl K i+3*cl i+3*gl i)))∧(∃ zs,Bg w lo hi 128 3 (cv i) (cl i) zs∧Zt (kR cl gl K i) (cl i) zs)∧∃ zs,Bg w lo hi 125 3 (lv i) (gl i) zs∧MkG (kR cl gl K i+3*cl i) (gl i) zs
theorem Ja.same {K:Nat} (h:Ja w lo hi K cl gl cv lv m ys) (h2:∀ i,i<m→∀ b,(cv i).ownBlock=some b→w'.heap[b]?=w.heap[b]?) (h3:∀ i,i<m→∀ b,(lv i).ownBlock=some b→w'.heap[b]?=w.heap[b]?):Ja w' lo hi K cl gl cv lv m ys:=fun i hi=>by
  obtain⟨k1,⟨zs,k2,k3⟩,us,k4,k5⟩:=h i hi;exact⟨k1,⟨zs,k2.same (h2 i hi),k3⟩,us,k4.same (h3 i hi),k5⟩
theorem Ja.bl {K:Nat} (h:Ja w lo hi K cl gl cv lv m ys) (hb:Bw w w'):Ja w' lo hi K cl gl cv lv m ys:=fun i hi=>by
  obtain⟨k1,⟨zs,k2,k3⟩,us,k4,k5⟩:=h i hi;exact⟨k1,⟨zs,k2.bl hb,k3⟩,us,k4.bl hb,k5⟩
theorem Ja.markC {K:Nat} (h:Ja w lo hi K cl gl cv lv m ys) (hr:Cy w lo hi v n cl gl xs cv lv) (hm:m<n) (hk:Df (cv m).ownBlock w w'):Ja w' lo hi K cl gl cv lv m ys:=by
  obtain⟨y0,k0⟩:=hr.code m hm;refine h.same (fun i hi b eb=>?_) (fun i hi b eb=>?_)
  · obtain⟨_,⟨zs,k2,_⟩,_⟩:=h i hi
    exact hk b (k2.own.lt b eb).2 (fun e'=>hr.apc i m qb hm qb b eb e'.symm)
  · obtain⟨_,_,zs,k2,_⟩:=h i hi
    exact qnf
theorem Ja.markL {K:Nat} (h:Ja w lo hi K cl gl cv lv m ys) (hr:Cy w lo hi v n cl gl xs cv lv) (hm:m<n) (hk:Df (lv m).ownBlock w w'):Ja w' lo hi K cl gl cv lv m ys:=by
  obtain⟨y0,k0⟩:=hr.look m hm;refine h.same (fun i hi b eb=>?_) (fun i hi b eb=>?_)
  · obtain⟨_,⟨zs,k2,_⟩,_⟩:=h i hi
    exact qnf
  · obtain⟨_,_,zs,k2,_⟩:=h i hi
    exact hk b (k2.own.lt b eb).2 (fun e'=>hr.apl i m qb hm qb b eb e'.symm)
theorem Ja.store {K:Nat} (h:Ja w lo hi K cl gl cv lv m ys) (hr:Cy w lo hi (.slice (p_ g) n cap) n cl gl ys cv lv) (hm:m<n) (hz:Bg w lo hi 128 3 (cv m) (cl m) zs) (hzm:Zt (kR cl gl K m) (cl m) zs) (hu:Bg w lo hi 125 3 (lv m) (gl m) us) (hum:MkG (kR cl gl K m+3*cl m) (gl m) us):Ja (w.setCell ⟨g,m*3+2,none⟩ (.string (mt (kR cl gl K m+3*cl m+3*gl m)))) lo hi K cl gl cv lv (m+1) (ys.set (m*3+2) (.string (mt (kR cl gl K m+3*cl m+3*gl m)))):=fun i hj=>by
  have hs:∀ {e sz k:Nat} {u:Value} {ps:List Value},Bg w lo hi e sz u k ps→97≠e→Bg (w.setCell ⟨g,m*3+2,none⟩ (.string (mt (kR cl gl K m+3*cl m+3*gl m)))) lo hi e sz u k ps:=fun {e sz k u ps} k1 hne=>k1.same fun b eb=>hC w ⟨g,m*3+2,none⟩ _ b (by show b≠g;intro e;subst e;exact Qk hr.row.own k1.own hne b rfl eb)
  rcases Nat.lt_or_ge i m with aj|W3
  · obtain⟨k1,⟨ps,k2,k3⟩,qs,k4,k5⟩:=h i aj
    exact⟨by rw[List.getElem?_set,if_neg qb];exact k1,⟨ps,hs k2 qd,k3⟩,qs,hs k4 qd,k5⟩
  · obtain rfl:i=m:=qb
    exact⟨by rw[List.getElem?_set,if_pos rfl,if_pos (by rw[hr.row.own.1];omega)],⟨zs,hs hz qd,hzm⟩,us,hs hu qd,hum⟩
def Eg (v:Value) (cv lv:Nat→Value) (n:Nat) (w w':World):Prop:=∀ b,b<w.heap.size→v.ownBlock≠some b→(∀ i,i<n→(cv i).ownBlock≠some b)→(∀ i,i<n→(lv i).ownBlock≠some b)→w'.heap[b]?=w.heap[b]?
theorem Eg.bl (h:Eg v cv lv n w w') (hs:w.heap.size ≤ w'.heap.size) (hb:Bw w' w2):Eg v cv lv n w w2:=fun b hl h1 h2 h3=>by
  rw[hb.block b qb];exact h b hl h1 h2 h3
theorem Eg.set (h:Eg (.slice (p_ g) n cap) cv lv n w w') (u:Value):Eg (.slice (p_ g) n cap) cv lv n w (w'.setCell ⟨g,m,none⟩ u):=fun b hl h1 h2 h3=>by
  rw[hC w' ⟨g,m,none⟩ u b (fun e=>h1 (by rw[e];rfl))];exact h b hl h1 h2 h3
theorem Eg.markC (h:Eg v cv lv n w w') (hs:w.heap.size ≤ w'.heap.size) (hm:m<n) (hk:Df (cv m).ownBlock w' w2):Eg v cv lv n w w2:=fun b hl h1 h2 h3=>by
  rw[hk b qb (fun e=>h2 m hm e.symm)];exact h b hl h1 h2 h3
theorem Eg.markL (h:Eg v cv lv n w w') (hs:w.heap.size ≤ w'.heap.size) (hm:m<n) (hk:Df (lv m).ownBlock w' w2):Eg v cv lv n w w2:=fun b hl h1 h2 h3=>by
  rw[hk b qb (fun e=>h3 m hm e.symm)];exact h b hl h1 h2 h3
theorem Eg.keepR (h:Eg v cv lv n w w') (hr:Cy w lo hi v n cl gl xs cv lv):Dj lo hi w w':=fun b hb ho=>h b hb (fun e=>by have h1:=hr.lt (Or.inl e);omega) (fun i hi e=>by have h1:=hr.lt (Or.inr (Or.inl ⟨i,hi,e⟩));omega) (fun i hi e=>by have h1:=hr.lt (Or.inr (Or.inr ⟨i,hi,e⟩));omega)

theorem Sg (lo hi g n cap K:Nat) (cl gl:Nat→Nat) (xs:List Value) (cv lv:Nat→Value) (w:World) (hr:Cy w lo hi (.slice (p_ g) n cap) n cl gl xs cv lv) (hB:lo ≤ w.heap.size) (hn:n ≤ 1048576) (pe:∀ i,i<n→cl i ≤ 1048576∧gl i ≤ 1048576) (h1:1 ≤ K) (h2:kR cl gl K n ≤ 800000000000000) :
    Calls prog 36 #[(.slice (p_ g) n cap),I K] w fun e w'=>e=.returned (I ((kR cl gl K n:Nat):Int))∧Below lo w w'∧Eg (.slice (p_ g) n cap) cv lv n w w'∧∃ ys,Cy w' lo hi (.slice (p_ g) n cap) n cl gl ys cv lv∧Ja w' lo hi K cl gl cv lv n ys:=by
  have wz:lo ≤ g:=(hr.row.own.lt g rfl).1;have HCL:=hid pe;have HKT:Hd (∀ i,i ≤ n→K ≤ kR cl gl K i∧kR cl gl K i ≤ 800000000000000):=fun i hi=>⟨Po cl gl K 0 i (Nat.zero_le _),Nat.le_trans (Po cl gl K i n hi) h2⟩;clear pe h2;go_enter func36,ntmps36;go_wp2
  go_loopw [1,5] (fun k i wr=>∃(m:Nat) (ys:List Value),m ≤ n∧i=I m∧k=I ((kR cl gl K m:Nat):Int)∧Hd (Cy wr lo hi (.slice (p_ g) n cap) n cl gl ys cv lv)∧Hd (Ja wr lo hi K cl gl cv lv m ys)∧Hd (Eg (.slice (p_ g) n cap) cv lv n w wr)∧w.heap.size ≤ wr.heap.size∧Below lo w wr) (fun _ i _=>n-(intOf i).toNat)
  case atStart=>exact⟨0,xs,Nat.zero_le _,rfl,rfl,hr,(fun i hi=>by omega:Ja w lo hi K cl gl cv lv 0 xs),(fun b _ _ _ _=>rfl:Eg (.slice (p_ g) n cap) cv lv n w w),Nat.le_refl _,Below.refl _ _⟩
  case round=>
    obtain⟨m,ys,hm,rfl,rfl,HR,HM,HK,de,bc⟩:=hrel;clear hr
    by_cases aj:m<n
    · obtain⟨ce,gw⟩:=HKT.o m hm
      obtain⟨B9,hgm⟩:=HCL.o m aj;have HS:Hd (kR cl gl K (m+1)=kR cl gl K m+3*cl m+3*gl m+1):=rfl;(have E8:m*3+2<ys.length:=by rw[HR.o.row.own.1];omega);obtain⟨c,ec⟩:=Ai (kR cl gl K m);have HI:Hd (∀(W:World) (zs:List Value),W.ownsRow lo 128 3 (cv m) (cl m) zs→lo ≤ W.heap.size→Calls prog 59 #[cv m,I (c:Int)] W fun e w'=>e=.returned (I ((c+3*cl m:Nat):Int))∧Below lo W w'∧Df (cv m).ownBlock W w'∧∃ ys,w'.ownsRow lo 128 3 (cv m) (cl m) ys∧Zt c (cl m) ys):=fun W zs h3 h4=>Pj lo (cl m) c (cv m) zs W h3 h4 B9 qb qb;have HG:Hd (∀(W:World) (zs:List Value),W.ownsRow lo 125 3 (lv m) (gl m) zs→lo ≤ W.heap.size→Calls prog 60 #[lv m,I ((c+3*cl m:Nat):Int)] W fun e w'=>e=.returned (I ((c+3*cl m+3*gl m:Nat):Int))∧Below lo W w'∧Df (lv m).ownBlock W w'∧∃ ys,w'.ownsRow lo 125 3 (lv m) (gl m) ys∧MkG (c+3*cl m) (gl m) ys):=fun W zs h3 h4=>Sh lo (gl m) (c+3*cl m) (lv m) zs W h3 h4 hgm qb qb;have HT:Hd (∀ W:World,Calls prog 58 #[I ((c+3*cl m+3*gl m:Nat):Int)] W fun e w'=>Bw W w'∧e=.returned (.string (mt (c+3*cl m+3*gl m)))):=fun W=>Cq (c+3*cl m+3*gl m) W qb qb;rw[ec] at ce gw HS ⊢;have HE:=hid ec;clear ec;have M8:(m:Int)<(n:Int):=qb;have hqb:c+3*cl m+3*gl m+1<1000000000000000:=qb;obtain⟨p,ep⟩:=Ai (c+3*cl m);obtain⟨q,eq⟩:=Ai (p+3*gl m);rw[ep] at HI HG HT HS hqb;rw[eq] at HG HT HS hqb;have HEP:=hid ep;have HEQ:=hid eq;clear ep eq;obtain⟨z0,bp⟩:=HR.o.code m aj;obtain⟨va,vc,ev⟩:=Ch bp;have EV:=hid ev;obtain⟨z1,bh⟩:=HR.o.look m aj;obtain⟨ua,uc,eu⟩:=Ch bh;have EU:=hid eu;have d0:wr.cell? ⟨g,m*3,none⟩=some (.slice va (cl m) vc):=by rw[HR.o.row.own.cellAt _ qb,HR.o.fst m aj,EV.o]
      have HC:Hd (Calls prog 59 #[.slice va (cl m) vc,I (c:Int)] wr fun e w'=>e=.returned (I (p:Int))∧Below lo wr w'∧Df (cv m).ownBlock wr w'∧∃ ys,w'.ownsRow lo 128 3 (cv m) (cl m) ys∧Zt c (cl m) ys):=by
        have h:=HI.o wr z0 bp.own qb;rw[EV.o] at h ⊢;exact h
      have HTOP:=hid bp.top;have HTOP1:=hid bh.top;clear bp ev bh eu HI;go_wp2_with fail;refine HC.o.mono ?_;rintro e w2 ⟨rfl,ag,hk2',zs,nj,sw⟩;have Q7:Bg w2 lo hi 128 3 (cv m) (cl m) zs:=⟨nj,HTOP.o⟩;have ol:=hid (HR.o.markC aj hk2' Q7);have l5:=hid (HM.o.markC HR.o aj hk2');have fs:=hid (HK.o.markC de aj hk2');have pd:=hid Q7;have HZM:=hid sw;have kw:=bc.trans ag;have gp:w.heap.size ≤ w2.heap.size:=zo ag.size;have d1:w2.cell? ⟨g,m*3+1,none⟩=some (.slice ua (gl m) uc):=by rw[ol.o.row.own.cellAt _ qb,ol.o.snd m aj,EU.o]
      have HC2:Hd (Calls prog 60 #[.slice ua (gl m) uc,I (p:Int)] w2 fun e w'=>e=.returned (I (q:Int))∧Below lo w2 w'∧Df (lv m).ownBlock w2 w'∧∃ ys,w'.ownsRow lo 125 3 (lv m) (gl m) ys∧MkG p (gl m) ys):=by
        obtain⟨us,hus⟩:=ol.o.look m aj;have h:=HG.o w2 us hus.own qb;rw[EU.o] at h ⊢;exact h
      clear ag hk2' nj sw Q7 bc HR HM HK HC HG d0;go_wp2_with fail;refine HC2.o.mono ?_;rintro e w3 ⟨rfl,aw,gh,us,ho3,hm3⟩;have ht3:Bg w3 lo hi 125 3 (lv m) (gl m) us:=⟨ho3,HTOP1.o⟩;have ig:=hid (ol.o.markL aj gh ht3);have E5:=hid (l5.o.markL ol.o aj gh);have rh:=hid (fs.o.markL gp aj gh)
      have HZ3:Hd (Bg w3 lo hi 128 3 (cv m) (cl m) zs):=by
        obtain⟨y0,k0⟩:=ol.o.look m aj;exact pd.o.same fun b eb=>gh b (pd.o.own.lt b eb).2 (fun e'=>Qk pd.o.own k0.own qd b eb e'.symm)
      have HU3:=hid ht3;have HUM:=hid hm3;have yg:=kw.trans aw;have oa:w.heap.size ≤ w3.heap.size:=zo aw.size;clear aw gh ho3 hm3 ht3 ol l5 fs pd HC2 kw d1;go_wp2_with fail;refine(HT.o _).mono ?_;rintro e w4 ⟨cj,rfl⟩;have mi:=hid (ig.o.bl cj);have HR5:Hd (Cy (w4.setCell ⟨g,m*3+2,none⟩ (.string (mt q))) lo hi (.slice (p_ g) n cap) n cl gl (ys.set (m*3+2) (.string (mt q))) cv lv):=mi.o.store m _
      have HM5:Hd (Ja (w4.setCell ⟨g,m*3+2,none⟩ (.string (mt q))) lo hi K cl gl cv lv (m+1) (ys.set (m*3+2) (.string (mt q)))):=by
        have h:=(E5.o.bl cj).store mi.o aj (HZ3.o.bl cj) (by rw[HE.o];exact HZM.o) (HU3.o.bl cj) (by rw[HE.o,HEP.o];exact HUM.o);rw[HE.o,HEP.o,HEQ.o] at h;exact h
      have HK5:Hd (Eg (.slice (p_ g) n cap) cv lv n w (w4.setCell ⟨g,m*3+2,none⟩ (.string (mt q)))):=(rh.o.bl oa cj).set _;have hbw5:Below lo w (w4.setCell ⟨g,m*3+2,none⟩ (.string (mt q))):=(yg.trans (cj.mono qb)).setCell (p:=⟨g,m*3+2,none⟩) wz _;(have wo:w.heap.size ≤ (w4.setCell ⟨g,m*3+2,none⟩ (.string (mt q))).heap.size:=by have:=cj.size;simp;omega);have hfr4:=mi.o.row.own.frozenAt;obtain⟨o1,d2⟩:=Bl mi.o.row.own (j:=m*3+2) qb;clear cj ig E5 rh HZ3 HU3 HT yg mi oa gp;generalize mt q=t at *;go_wp2;go_roundw
      case rel=>exact⟨m+1,_,qb,qj,congrArg (Value.int .i64) (by rw[HS.o];omega),HR5.o,HM5.o,HK5.o,wo,hbw5⟩
      case measure=>simp[intOf];omega
    · exact qmj

theorem Sf (K:Nat) (w:World) (h2:K ≤ 900000000000000) :
    Calls prog 36 #[nS,I K] w fun e w'=>e=.returned (I (K:Int))∧w=w':=by
  go_enter func36,ntmps36;exact qbc
theorem Se (lo hi n K:Nat) (v:Value) (cl gl:Nat→Nat) (xs:List Value) (cv lv:Nat→Value) (w:World) (hr:Cy w lo hi v n cl gl xs cv lv) (hB:lo ≤ w.heap.size) (hn:n ≤ 1048576) (pe:∀ i,i<n→cl i ≤ 1048576∧gl i ≤ 1048576) (h1:1 ≤ K) (h2:kR cl gl K n ≤ 800000000000000) :
    Calls prog 36 #[v,I K] w fun e w'=>e=.returned (I ((kR cl gl K n:Nat):Int))∧Below lo w w'∧Eg v cv lv n w w'∧∃ ys,Cy w' lo hi v n cl gl ys cv lv∧Ja w' lo hi K cl gl cv lv n ys:=by
  rcases Cs hr.row.own with ⟨rfl,rfl⟩|⟨g,cap,rfl⟩
  · refine(Sf K w (by simp only[kR] at h2;omega)).mono ?_
    rintro e w' ⟨rfl,rfl⟩;exact⟨rfl,Below.refl _ _,fun _ _ _ _ _=>rfl,xs,hr,fun i hi=>qb⟩
  · exact Sg lo hi g n cap K cl gl xs cv lv w hr hB hn pe h1 h2

theorem Sr (lo hi g n cap K:Nat) (cl gl:Nat→Nat) (ys:List Value) (cv lv:Nat→Value) (w:World) (hr:Cy w lo hi (.slice (p_ g) n cap) n cl gl ys cv lv) (hm:Ja w lo hi K cl gl cv lv n ys) (hn:n ≤ 1048576) (pe:∀ i,i<n→cl i ≤ 1048576∧gl i ≤ 1048576) (h1:1 ≤ K) (h2:kR cl gl K n ≤ 800000000000000) :
    Calls prog 61 #[(.slice (p_ g) n cap),I K] w fun e w'=>e=.returned (I ((kR cl gl K n:Nat):Int))∧Bw w w':=by
  have HR:=hid hr;have HM:=hid hm;have HCL:=hid pe;have HKT:Hd (∀ i,i ≤ n→K ≤ kR cl gl K i∧kR cl gl K i ≤ 800000000000000):=fun i hi=>⟨Po cl gl K 0 i (Nat.zero_le _),Nat.le_trans (Po cl gl K i n hi) h2⟩;clear hr hm pe h2;go_enter func61,ntmps61;go_wp2
  go_loopw [1,5] (fun k i wr=>∃(m:Nat),m ≤ n∧i=I m∧k=I ((kR cl gl K m:Nat):Int)∧Bw w wr) (fun _ i _=>n-(intOf i).toNat)
  case atStart=>exact⟨0,Nat.zero_le _,rfl,rfl,Below.refl _ _⟩
  case round=>
    obtain⟨m,hm,rfl,rfl,bc⟩:=hrel
    by_cases aj:m<n
    · obtain⟨ce,gw⟩:=HKT.o m hm
      obtain⟨B9,hgm⟩:=HCL.o m aj;have HS:Hd (kR cl gl K (m+1)=kR cl gl K m+3*cl m+3*gl m+1):=rfl;obtain⟨x1,⟨zs,x2,x3⟩,us,x4,x5⟩:=(HM.o.bl bc) m aj;have xy:=HR.o.bl bc;obtain⟨c,ec⟩:=Ai (kR cl gl K m);rw[ec] at ce gw HS x1 x3 x5 ⊢;obtain⟨va,vc,ev⟩:=Ch x2;obtain⟨ua,uc,eu⟩:=Ch x4;(have c0:wr.cell? ⟨g,m*3,none⟩=some (.slice va (cl m) vc):=by rw[xy.row.own.cellAt _ qb,xy.fst m aj,ev]);(have c1:wr.cell? ⟨g,m*3+1,none⟩=some (.slice ua (gl m) uc):=by rw[xy.row.own.cellAt _ qb,xy.snd m aj,eu]);have c2:wr.cell? ⟨g,m*3+2,none⟩=some (.string (mt (c+3*cl m+3*gl m))):=by rw[xy.row.own.cellAt _ qb];exact x1
      have HI:Hd (∀(W:World),Bw wr W→Calls prog 80 #[.slice va (cl m) vc,I (c:Int)] W fun e w'=>e=.returned (I ((c+3*cl m:Nat):Int))∧Bw W w'):=fun W h3=>by
        have h:=Zi lo (cl m) c (cv m) zs W (x2.bl h3).own x3 B9 qb qb;rw[ev] at h;exact h
      have HG:Hd (∀(W:World),Bw wr W→Calls prog 81 #[.slice ua (gl m) uc,I ((c+3*cl m:Nat):Int)] W fun e w'=>e=.returned (I ((c+3*cl m+3*gl m:Nat):Int))∧Bw W w'):=fun W h3=>by
        have h:=Ss lo (gl m) (c+3*cl m) (lv m) us W (x4.bl h3).own x5 hgm qb qb;rw[eu] at h;exact h
      have HT:Hd (∀ W:World,Calls prog 58 #[I ((c+3*cl m+3*gl m:Nat):Int)] W fun e w'=>Bw W w'∧e=.returned (.string (mt (c+3*cl m+3*gl m)))):=fun W=>Cq (c+3*cl m+3*gl m) W qb qb;clear x1 x2 x3 x4 x5 xy ev eu ec;have hqb:c+3*cl m+3*gl m+1<1000000000000000:=qb;obtain⟨p,ep⟩:=Ai (c+3*cl m);obtain⟨q,eq⟩:=Ai (p+3*gl m);rw[ep] at HI HG HT HS hqb c2;rw[eq] at HG HT HS hqb c2;clear ep eq;generalize mt q=t at *;have et:=Cw (rfl:t=t);have M8:(m:Int)<(n:Int):=qb;have hm0:(0:Int) ≤ (m:Int):=qb;have hlp:decide (((p:Nat):Int)<0)=false:=qg;have hlq:decide (((q:Nat):Int)<0)=false:=qg;go_wp2_with fail;refine(HI.o wr (Below.refl _ _)).mono ?_;rintro e w2 ⟨rfl,ag⟩;have e1:=Aa ag c1;have e2:=Aa ag c2;clear c0 c1 c2;go_wp2_with fail;refine(HG.o w2 ag).mono ?_;rintro e w3 ⟨rfl,aw⟩;have g2:=Aa aw e2;have gy:=bt bc (bt ag aw);clear e1 e2 ag aw;have bu:Bw w3 w3.drew:=(Below.refl _ _).drew;go_wp2_with fail
      go_region_held3 (fun w'=>w'.cell? ⟨g,m*3+2,none⟩=some (.string t))
        (first|assumption|(simp[*];done)|exact Aa cj qo)
        (first|(go_at_call 58;refine(HT.o _).mono ?_;rintro e w4 ⟨cj,rfl⟩))
      all_goals
        have ij:=bt gy (bt bu cj);clear g2 cj bu;go_wp2;go_roundw
        case rel=>exact⟨m+1,qb,qj,congrArg (Value.int .i64) (by rw[HS.o];omega),ij⟩
        case measure=>simp[intOf];omega
    · exact qdg

theorem Sq (K:Nat) (w:World) (h2:K ≤ 900000000000000) :
    Calls prog 61 #[nS,I K] w fun e w'=>e=.returned (I (K:Int))∧w=w':=by
  go_enter func61,ntmps61;exact qbc
theorem Sp (lo hi n K:Nat) (v:Value) (cl gl:Nat→Nat) (ys:List Value) (cv lv:Nat→Value) (w:World) (hr:Cy w lo hi v n cl gl ys cv lv) (hm:Ja w lo hi K cl gl cv lv n ys) (hn:n ≤ 1048576) (pe:∀ i,i<n→cl i ≤ 1048576∧gl i ≤ 1048576) (h1:1 ≤ K) (h2:kR cl gl K n ≤ 800000000000000) :
    Calls prog 61 #[v,I K] w fun e w'=>e=.returned (I ((kR cl gl K n:Nat):Int))∧Bw w w':=by
  rcases Cs hr.row.own with ⟨rfl,rfl⟩|⟨g,cap,rfl⟩
  · refine(Sq K w (by simp only[kR] at h2;omega)).mono ?_
    exact qdh
  · exact Sr lo hi g n cap K cl gl ys cv lv w hr hm hn pe h1 h2

def Us (w:World) (lo hi K:Nat) (v1 v2:Value) (n1 n2:Nat) (cl gl:Nat→Nat):Prop:=(∃ ys,Bg w lo hi 9 1 v1 n1 ys∧Pg K n1 ys)∧∃ ys cv lv,Cy w lo hi v2 n2 cl gl ys cv lv∧Ja w lo hi (K+n1) cl gl cv lv n2 ys
theorem Us.bl {K:Nat} (h:Us w lo hi K v1 v2 n1 n2 cl gl) (hb:Bw w w'):Us w' lo hi K v1 v2 n1 n2 cl gl:=by
  obtain⟨⟨ys,h1,h2⟩,zs,cv,lv,h3,h4⟩:=h;exact⟨⟨ys,h1.bl hb,h2⟩,zs,cv,lv,h3.bl hb,h4.bl hb⟩

theorem Ny (wd:Int) (lo hi n1 n2 K:Nat) (v1 v2:Value) (cl gl:Nat→Nat) (xs zs:List Value) (cv lv:Nat→Value) (w:World) (h1:Bg w lo hi 9 1 v1 n1 xs) (h2:Cy w lo hi v2 n2 cl gl zs cv lv) (hB:lo ≤ w.heap.size) (Id:n1 ≤ 1048576) (V7:n2 ≤ 1048576) (pe:∀ i,i<n2→cl i ≤ 1048576∧gl i ≤ 1048576) (hK:1 ≤ K) (S6:kR cl gl (K+n1) n2 ≤ 800000000000000) :
    Calls prog 13 #[.agg #[I wd,v1,v2],I K] w fun e w'=>e=.returned (I ((kR cl gl (K+n1) n2:Nat):Int))∧Below lo w w'∧Dj lo hi w w'∧Keep9 v1 w w'∧Us w' lo hi K v1 v2 n1 n2 cl gl:=by
  have hK3:K+n1 ≤ 800000000000000:=Nat.le_trans (Po cl gl (K+n1) 0 n2 (Nat.zero_le _)) S6;obtain⟨va,vc,rfl⟩:=Ch h1;obtain⟨vb,vd,rfl⟩:=Ch h2.row;have ak:Bw w (w.alloc (.cells #[I wd,.slice va n1 vc,.slice vb n2 vd] 34)):=aN _ _;have k1:(w.alloc (.cells #[I wd,.slice va n1 vc,.slice vb n2 vd] 34)).cell? ⟨w.heap.size,2,none⟩=some (.slice vb n2 vd):=qk;have hw0:(w.alloc (.cells #[I wd,.slice va n1 vc,.slice vb n2 vd] 34)).heap.size=w.heap.size+1:=qg;have wn:=hid (h2.bl ak);have h10:=h1.bl ak;have hne:(Value.slice va n1 vc).ownBlock≠some w.heap.size:=fun e=>by have:=(h1.own.lt _ e).2;omega
  have HC:Hd (∀ W:World,Cy W lo hi (.slice vb n2 vd) n2 cl gl zs cv lv→lo ≤ W.heap.size→Calls prog 36 #[.slice vb n2 vd,I ((K+n1:Nat):Int)] W fun e w'=>e=.returned (I ((kR cl gl (K+n1) n2:Nat):Int))∧Below lo W w'∧Eg (.slice vb n2 vd) cv lv n2 W w'∧∃ ys,Cy w' lo hi (.slice vb n2 vd) n2 cl gl ys cv lv∧Ja w' lo hi (K+n1) cl gl cv lv n2 ys):=fun W h3 h4=>Se lo hi n2 (K+n1) _ cl gl zs cv lv W h3 h4 V7 pe qb S6;clear S6 h2 h1 pe;go_enter func13,ntmps13;go_wp2_with fail;refine(Fx lo hi n1 K _ xs _ h10 qb Id hK qb).mono ?_;rintro e w1 ⟨rfl,af,ce,ys,lj,vr⟩;have bg:=(ak.mono hB).trans af;have eg:w.heap.size+1 ≤ w1.heap.size:=zo af.size
  have c1:w1.cell? ⟨w.heap.size,2,none⟩=some (.slice vb n2 vd):=by
    exact qnc
  have iq:Hd (Cy w1 lo hi (.slice vb n2 vd) n2 cl gl zs cv lv):=wn.o.keepO h10.own ce qd qd qd;have d6:Hd (Dj lo hi w w1):=(Dj.of_below ak).trans ak.size (ce.keepR fun b e=>⟨(h10.own.lt b e).1,h10.top b e⟩);have HK91:Hd (Keep9 (.slice va n1 vc) w w1):=fun b cs h ne=>by rw[ce b (zo (Af h)) (fun e=>ne e.symm),Lib.alloc_old _ _ _ (Af h)];exact h
  have ie:=hid lj;have yu:=hid vr;clear ak af ce lj vr k1 wn h10 hne hw0;go_wp2_with fail;refine(HC.o w1 iq.o qb).mono ?_;rintro e w2 ⟨rfl,ag,gw,ys2,mu,sw⟩;have be:=bg.trans ag;have fs:Hd (Dj lo hi w w2):=d6.o.trans qb (gw.keepR iq.o)
  have HK92:Hd (Keep9 (.slice va n1 vc) w w2):=fun b cs h ne=>by
    have h1:=HK91.o b cs h ne;rw[gw b (Af h1) (Ad iq.o.row.own qd h1) (fun i hi=>by obtain⟨zz,hz⟩:=iq.o.code i hi;exact Ad hz.own qd h1) (fun i hi=>by obtain⟨zz,hz⟩:=iq.o.look i hi;exact Ad hz.own qd h1)];exact h1
  have HP:Hd (Us w2 lo hi K (.slice va n1 vc) (.slice vb n2 vd) n1 n2 cl gl):=⟨⟨ys,ie.o.same fun b e=>gw b (ie.o.own.lt b e).2 (fun e'=>Qk iq.o.row.own ie.o.own qd b e' e) (fun i hi e'=>by obtain⟨zz,hz⟩:=iq.o.code i hi;exact Qk hz.own ie.o.own qd b e' e) (fun i hi e'=>by obtain⟨zz,hz⟩:=iq.o.look i hi;exact Qk hz.own ie.o.own qd b e' e),yu.o⟩,ys2,cv,lv,mu,sw⟩;clear ag gw mu sw iq d6 ie yu HC c1;go_wp2;go_ret;exact⟨rfl,be,fs.o,HK92.o,HP.o⟩

theorem Vx (wd:Int) (lo hi n1 n2 K:Nat) (v1 v2:Value) (cl gl:Nat→Nat) (w:World) (hm:Us w lo hi K v1 v2 n1 n2 cl gl) (Id:n1 ≤ 1048576) (V7:n2 ≤ 1048576) (pe:∀ i,i<n2→cl i ≤ 1048576∧gl i ≤ 1048576) (hK:1 ≤ K) (S6:kR cl gl (K+n1) n2 ≤ 800000000000000) :
    Calls prog 40 #[.agg #[I wd,v1,v2],I K] w fun e w'=>e=.returned (I ((kR cl gl (K+n1) n2:Nat):Int))∧Bw w w':=by
  have hK3:K+n1 ≤ 800000000000000:=Nat.le_trans (Po cl gl (K+n1) 0 n2 (Nat.zero_le _)) S6;obtain⟨⟨ys,h1,h2⟩,zs,cv,lv,h3,h4⟩:=hm;obtain⟨va,vc,rfl⟩:=Ch h1;obtain⟨vb,vd,rfl⟩:=Ch h3.row;have ak:Bw w (w.alloc (.cells #[I wd,.slice va n1 vc,.slice vb n2 vd] 34)):=aN _ _;have k1:(w.alloc (.cells #[I wd,.slice va n1 vc,.slice vb n2 vd] 34)).cell? ⟨w.heap.size,2,none⟩=some (.slice vb n2 vd):=qk;have HC:Hd (∀ W:World,Bw w W→Calls prog 61 #[.slice vb n2 vd,I ((K+n1:Nat):Int)] W fun e w'=>e=.returned (I ((kR cl gl (K+n1) n2:Nat):Int))∧Bw W w'):=fun W hW=>Sp lo hi n2 (K+n1) _ cl gl zs cv lv W (h3.bl hW) (h4.bl hW) V7 pe qb S6;have wg:decide (((K+n1:Nat):Int)<0)=false:=qh;have Io:decide (((kR cl gl (K+n1) n2:Nat):Int)<0)=false:=qg;have O0:=hid Io;generalize kR cl gl (K+n1) n2=q at *;clear h3 h4 pe Io;go_enter func40,ntmps40;go_wp2_with fail;refine(Fz lo hi n1 K _ ys _ (h1.bl ak) h2 Id hK qb).mono ?_;rintro e w1 ⟨rfl,af⟩;have bg:=bt ak af;have c1:=Aa af k1;clear ak af k1 h1 h2;go_wp2_with fail;refine(HC.o w1 bg).mono ?_;rintro e w2 ⟨rfl,ag⟩;have be:=bt bg ag;have Io:=O0.o;clear ag bg c1 HC wg;go_wp2;go_ret;exact⟨rfl,be⟩

/-! ### of owned stores -/
theorem Tl (a:Option Addr) (cap:Nat) (is:List T3) (lft:Int) (w:World) (hf0:0 ≤ lft) (B6:lft ≤ 1048576) (hc:Lx w a is) (hk:QsOk is) :
    Calls prog 18 #[.slice a is.length cap,I lft] w fun e w'=>Bw w w'∧∃ r:Int,e=.returned (I r)∧(r<0∨(0 ≤ r∧r ≤ lft∧Ga is)):=by
  have Is:=hk.lr;unfold maxLen at Is;have ri:=hid hk;clear hk
  by_cases h0:(is.length:Int) ≤ lft
  · go_enter func18,ntmps18
    go_wp2
    go_loopw [1,5] (fun l i wr=>∃ k:Nat,∃ q:Int,k ≤ is.length∧i=I k∧l=I q∧0 ≤ q∧q ≤ lft∧Bw w wr∧Hd (∀ i,i<k→(qx is i).code.length ≤ 1048576∧(qx is i).looks.length ≤ 1048576)) (fun _ i _=>is.length-(intOf i).toNat)
    case atStart=>exact⟨0,_,Nat.zero_le _,rfl,rfl,qb,qb,Below.refl _ _,(fun i hi=>by omega:∀ i,i<0→(qx is i).code.length ≤ 1048576∧(qx is i).looks.length ≤ 1048576)⟩
    case round=>
      obtain⟨k,q,hk,rfl,rfl,hq0,ll,bc,HK⟩:=hrel
      by_cases aj:k<is.length
      · obtain⟨b,off,rfl,ca,cc,la,lc,c1,c2,c3,c4,c5⟩:=(hc.bl bc) k aj
        have ft:Xk wr ca (qx is k).code la (qx is k).looks (qx is k).out:=⟨c4,c5,ri.o.lc k,ri.o.lg k,ri.o.xc k,ri.o.ng k,ri.o.sg k,ri.o.so k⟩;clear hc c4 c5;obtain⟨i,ei⟩:=Ai (qx is k);rw[ei] at c1 c2 c3 ft;have EI:=hid ei;clear ei;go_wp2_with fail;refine(Vi ca la cc lc i.code i.looks i.out q qb qb _ ft).mono ?_;exact qhv
      · exact qld
  · go_enter func18,ntmps18
    exact qfl

theorem Xw (n:Int) (ta ra:Option Addr) (tc rc:Nat) (ts:List By) (rs:List T3) (L:Int) (hL0:0 ≤ L) (hL1:L ≤ 1048576) (w:World) (h:Zq w ta ts ra rs) :
    Calls prog 4 #[.agg #[I n,.slice ta ts.length tc,.slice ra rs.length rc],I L] w fun e w'=>Bw w w'∧∃ r:Int,e=.returned (I r)∧(r<0∨(0 ≤ r∧r ≤ 1048576∧ts.length ≤ 1048576∧Ga rs)):=by
  have ak:Bw w (w.alloc (.cells #[I n,.slice ta ts.length tc,.slice ra rs.length rc] 25)):=aN _ _;have k2:(w.alloc (.cells #[I n,.slice ta ts.length tc,.slice ra rs.length rc] 25)).cell? ⟨w.heap.size,2,none⟩=some (.slice ra rs.length rc):=qk;have HO:=hid h;clear h;go_enter func4,ntmps4;go_wp2_with fail;refine(Vh ta tc ts _ (HO.o.st.bl ak) HO.o.lt HO.o.xt L qb qb).mono ?_;rintro e w1 ⟨rfl,r,rfl,hr⟩
  rcases hr with hr|⟨h1,A6,lj⟩
  · go_wp2
    go_ret;exact⟨ak,-1,rfl,Or.inl qb⟩
  · have aj:ts.length ≤ 1048576:=qb
    go_wp2_with fail;refine(Tl ra rc rs r _ A6 qb (HO.o.rq.bl ak) HO.o.ok).mono ?_;rintro e w2 ⟨ag,r2,rfl,mu⟩;have be:=bt ak ag;clear ak ag k2
    rcases mu with mu|⟨mu,wf,hq⟩
    · exact qdi
    · have HQ:=hid hq
      clear hq;go_wp2;go_ret;exact⟨be,r2,rfl,Or.inr ⟨qb,qb,aj,HQ.o⟩⟩
theorem Vg (a:Option Addr) (cap:Nat) (is:List G3) (w:World) (hc:Hr w a is) (hl:is.length ≤ 1048576) :
    Calls prog 73 #[.slice a is.length cap] w fun e w'=>Bw w w'∧∃ g:Nat,e=.returned (.slice (p_ g) is.length is.length)∧∃ xs,w'.ownsRow w.heap.size 125 3 (.slice (p_ g) is.length is.length) is.length xs∧Bo is is.length xs:=by
  obtain⟨z0,hi,bp,bh,bv⟩:=info_parts Tryz.info125;go_enter func73,ntmps73
  go_wp2_with (first|(at_make;refine wpList_make_full _ rfl (.tmp 6) (.tmp 6) 95 rfl w.heap.size 125 z0 (.agg #[.string ByteArray.empty,.bool false,.string ByteArray.empty]) 3 underlying95 hi bp bh .i64 .i64 _ _ is.length rfl rfl rfl rfl qam qm (Nat.le_refl _) ?_;intro w1 ah ae))
  have fq:Bw w w1:=(Below.refl _ _).grown ae (Nat.le_refl _) qg;clear ae
  go_loopw [4] (fun i wr=>∃ k:Nat,∃ xs:List Value,k ≤ is.length∧i=I k∧wr.ownsRow w.heap.size 125 3 (.slice (p_ w.heap.size) is.length is.length) is.length xs∧Bo is k xs∧Bw w wr) (fun i _=>is.length-(intOf i).toNat)
  case atStart=>exact⟨0,_,Nat.zero_le _,rfl,ah,fun i hi=>qb,fq⟩
  case round=>
    obtain⟨k,xs,hk,rfl,ah,R8,am⟩:=hrel
    by_cases aj:k<is.length
    · obtain⟨b,off,rfl,c1,c2,c3⟩:=(hc.bl am) k aj
      have uh:=Qbv R8 (show k*3+2<xs.length from qcv);generalize gx is k=i at *;clear fq hc R8;go_wp2_with fail;refine(Xs i _).mono ?_;rintro e w2 ⟨ag,rfl⟩;have aq:=Ac ah ag;have kw:=am.trans (ag.mono am.size);have bz:=aq.frozenAt;obtain⟨o1,d1⟩:=Bl aq (j:=k*3) qb;obtain⟨o2,d2⟩:=Bl aq (j:=k*3+1) qb;obtain⟨o3,d3⟩:=Bl aq (j:=k*3+2) qb;have HO:=hid aq;exact qin
    · exact qfe

theorem Xr (a la:Option Addr) (cap lc:Nat) (is:List I3) (gs:List G3) (out:By) (w:World) (rc:Cj w a is) (rg:Hr w la gs) (h1:is.length ≤ 1048576) (h2:gs.length ≤ 1048576) :
    Calls prog 51 #[.agg #[.slice a is.length cap,.slice la gs.length lc,.string out]] w fun e w'=>Bw w w'∧∃ g1 g2:Nat,e=.returned (.agg #[.slice (p_ g1) is.length is.length,.slice (p_ g2) gs.length gs.length,.string out])∧(∃ ys,w'.ownsRow w.heap.size 128 3 (.slice (p_ g1) is.length is.length) is.length ys∧Cl is is.length ys)∧∃ zs,w'.ownsRow w.heap.size 125 3 (.slice (p_ g2) gs.length gs.length) gs.length zs∧Bo gs gs.length zs:=by
  go_enter func51,ntmps51;go_wp2_with fail;have ak:Bw w (((w.alloc (.cells #[.slice a is.length cap,.slice la gs.length lc,.string out] 82)).alloc (.cells #[nS,nS,ze] 97)).alloc (.cells #[nS,nS,ze] 97)):=((aN _ _).alloc qg _).alloc qh _;refine(Ns a cap is _ (rc.bl ak) h1).mono ?_;rintro e w1 ⟨af,g,rfl,ys,hr,ye⟩;have hg:=(hr.lt g rfl).1;simp at hg;have hb:=ak.trans (af.mono ak.size);have hz:=af.size;simp at hz;have c01:w1.cell? ⟨w.heap.size,1,none⟩=some (.slice la gs.length lc):=Aa af qk;have c02:w1.cell? ⟨w.heap.size,2,none⟩=some (.string out):=Aa af qk;have Mw:w1.cell? ⟨w.heap.size+1,0,none⟩=some nS:=Aa af qk;have xe:w1.cell? ⟨w.heap.size+1,1,none⟩=some nS:=Aa af qk;have c12:w1.cell? ⟨w.heap.size+1,2,none⟩=some ze:=Aa af qk;have c20:w1.cell? ⟨w.heap.size+1+1,0,none⟩=some nS:=Aa af qk;have c21:w1.cell? ⟨w.heap.size+1+1,1,none⟩=some nS:=Aa af qk;have c22:w1.cell? ⟨w.heap.size+1+1,2,none⟩=some ze:=Aa af qk;have f1:∀ j,w1.frozen? ⟨w.heap.size+1,j,none⟩=false:=fun j=>by rw[af.frozen (p:=⟨w.heap.size+1,j,none⟩) qg];simp[go_sem]
  have f2:∀ j,w1.frozen? ⟨w.heap.size+1+1,j,none⟩=false:=fun j=>by rw[af.frozen (p:=⟨w.heap.size+1+1,j,none⟩) qg];simp[go_sem]
  clear ak af;go_wp2_with fail;have md:Bw w (w1.setCell ⟨w.heap.size+1+1,0,none⟩ (.slice (p_ g) is.length is.length)):=hb.setCell (p:=⟨w.heap.size+1+1,0,none⟩) qh _;refine(Vg la lc gs _ (rg.bl md) h2).mono ?_;rintro e w2 ⟨ag,g2,rfl,zs,mu,hfz⟩;have I1:=(mu.lt g2 rfl).1;have aw:=md.trans (ag.mono md.size);have hrs:=Ac (Da (Ah hr (B':=w.heap.size) qh) (b:=w.heap.size+1+1) (j:=0) qb (.slice (p_ g) is.length is.length)) ag;have bv:=ag.size;simp at bv;simp at I1;have d02:w2.cell? ⟨w.heap.size,2,none⟩=some (.string out):=Aa ag (by simp[go_sem,c02]);have d10:w2.cell? ⟨w.heap.size+1,0,none⟩=some nS:=Aa ag (by simp[go_sem,Mw]);have d11:w2.cell? ⟨w.heap.size+1,1,none⟩=some nS:=Aa ag (by simp[go_sem,xe]);have d12:w2.cell? ⟨w.heap.size+1,2,none⟩=some ze:=Aa ag (by simp[go_sem,c12]);have d20:w2.cell? ⟨w.heap.size+1+1,0,none⟩=some (.slice (p_ g) is.length is.length):=Aa ag (by simp[go_sem,c20]);have d21:w2.cell? ⟨w.heap.size+1+1,1,none⟩=some nS:=Aa ag (by simp[go_sem,c21]);have d22:w2.cell? ⟨w.heap.size+1+1,2,none⟩=some ze:=Aa ag (by simp[go_sem,c22]);have e1:∀ j,w2.frozen? ⟨w.heap.size+1,j,none⟩=false:=fun j=>by rw[ag.frozen (p:=⟨w.heap.size+1,j,none⟩) qh];simp[go_sem,f1]
  have e2:∀ j,w2.frozen? ⟨w.heap.size+1+1,j,none⟩=false:=fun j=>by rw[ag.frozen (p:=⟨w.heap.size+1+1,j,none⟩) qh];simp[go_sem,f2]
  clear ag md hb c01 c02 Mw xe c12 c20 c21 c22 f1 f2 hr;go_wp2;refine bR (v:=.agg #[.slice (p_ g) is.length is.length,.slice (p_ g2) gs.length gs.length,.string out]) (by simp[results,results51,go_sem,d10,d11,d12]) rfl ⟨?_,g,g2,rfl,⟨ys,?_,ye⟩,zs,?_,hfz⟩
  · exact((((aw.setCell (p:=⟨w.heap.size+1+1,1,none⟩) qh _).setCell (p:=⟨w.heap.size+1+1,2,none⟩) qh _).setCell (p:=⟨w.heap.size+1,0,none⟩) qg _).setCell (p:=⟨w.heap.size+1,1,none⟩) qg _).setCell (p:=⟨w.heap.size+1,2,none⟩) qg _
  · exact Da (Da (Da (Da (Da hrs qb _) qb _) qb _) qb _) qb _
  · exact Da (Da (Da (Da (Da (Ah mu qh) qb _) qb _) qb _) qb _) qb _

theorem Ef.own1 (h:Ef w lo' is is.length xs cv lv) (hr:w.ownsRow lo 97 3 v is.length xs) (hl:lo ≤ lo') (hh:w.heap.size ≤ hi):Kd w lo hi v is xs cv lv:=
  ⟨⟨hr,fun b e=>by have:=(hr.lt b e).2;omega⟩,h.fil,fun i hi=>by
    obtain⟨ys,h1,h2⟩:=h.code i hi
    exact⟨ys,⟨Ah h1 hl,fun b e=>by have:=(h1.lt b e).2;omega⟩,h2⟩,fun i hi=>by
    obtain⟨ys,h1,h2⟩:=h.look i hi;exact⟨ys,⟨Ah h1 hl,fun b e=>by have:=(h1.lt b e).2;omega⟩,h2⟩,h.apc,h.apl,h.som⟩
def SomC (is:List T3) (cv:Nat→Value) (k:Nat):Prop:=∀ i,i<k→∃ g cap,cv i=.slice (p_ g) (qx is i).code.length cap
theorem SomC.add {k:Nat} (h:SomC is cv k) {c:Value} (hc:∃ g cp,c=.slice (p_ g) (qx is k).code.length cp):SomC is (fun i=>if i=k then c else cv i) (k+1):=fun i hi=>by
  by_cases e:i=k
  · subst e;show ∃ g cap,(if i=i then c else cv i)=_;rw[if_pos rfl];exact hc
  · show ∃ g cap,(if i=k then c else cv i)=_;rw[if_neg e];exact h i qb
def Ip (w:World) (lo hi:Nat) (v:Value) (rs:List T3):Prop:=∃ xs cv lv,Kd w lo hi v rs xs cv lv∧SomC rs cv rs.length
theorem Ip.bl (h:Ip w lo hi v rs) (hb:Bw w w'):Ip w' lo hi v rs:=by obtain⟨xs,cv,lv,h,k⟩:=h;exact⟨xs,cv,lv,h.bl hb,k⟩
theorem Ip.keep (h:Ip w lo hi v rs) (hk:Dj lo' hi' w w') (hd:hi ≤ lo'∨hi' ≤ lo):Ip w' lo hi v rs:=by obtain⟨xs,cv,lv,h,k⟩:=h;exact⟨xs,cv,lv,h.keep hk hd,k⟩
theorem Ip.wide (h:Ip w lo hi v rs) (h1:lo' ≤ lo) (h2:hi ≤ hi'):Ip w lo' hi' v rs:=by obtain⟨xs,cv,lv,h,k⟩:=h;exact⟨xs,cv,lv,h.wide h1 h2,k⟩
theorem Ip.set (h:Ip w lo hi v rs) (hb:b<lo) (u:Value):Ip (w.setCell ⟨b,j,none⟩ u) lo hi v rs:=h.keep (Dj.set (lo:=b) (hi:=b+1) (Nat.le_refl _) (Nat.lt_succ_self _) j u) (Or.inr hb)
theorem Ip.sl (h:Ip w lo hi v rs):∃ a cap,v=.slice a rs.length cap∧Ur w a rs∧Wh w a rs:=by
  obtain⟨xs,cv,lv,h,sc⟩:=h;have ge:=h.row.own
  rcases Cs h.row.own with ⟨rfl,h0⟩|⟨g,cap,rfl⟩
  · exact⟨none,0,by rw[h0],fun i hi=>qb,fun i hi=>qb⟩
  · have key:∀ i,i<rs.length→∃ cg cc lg lc ys zs,w.cell? ⟨g,0+i*3,none⟩=some (.slice (p_ cg) (qx rs i).code.length cc)∧w.cell? ⟨g,0+i*3+1,none⟩=some (.slice (p_ lg) (qx rs i).looks.length lc)∧w.cell? ⟨g,0+i*3+2,none⟩=some (.string (qx rs i).out)∧Cj w (p_ cg) (qx rs i).code∧Hr w (p_ lg) (qx rs i).looks∧w.ownsRow lo 125 3 (.slice (p_ lg) (qx rs i).looks.length lc) (qx rs i).looks.length zs∧Bo (qx rs i).looks (qx rs i).looks.length zs∧ys=zs:=fun i hi=>by
      obtain⟨f1,f2,f3⟩:=h.fil i hi;obtain⟨ys,k1,k2⟩:=h.code i hi;obtain⟨zs,j1,j2⟩:=h.look i hi;obtain⟨cg,cc,e1⟩:=sc i hi;obtain⟨lg,lc,e2⟩:=h.som i hi;obtain⟨a1,p1,q1,r1⟩:=Qg k1 k2;obtain⟨a2,p2,q2,r2⟩:=Wr j1 j2;rw[e1] at q1 f1;rw[e2] at q2 f2 j1;cases q1;cases q2;refine⟨cg,cc,lg,lc,zs,zs,?_,?_,?_,r1,r2,j1.own,j2,rfl⟩
      · rw[Nat.zero_add,h.row.own.cellAt _ qb,f1]
      · rw[Nat.zero_add,h.row.own.cellAt _ qb,f2]
      · rw[Nat.zero_add,h.row.own.cellAt _ qb,f3]
    refine⟨_,cap,rfl,fun i hi=>?_,fun i hi=>?_⟩
    · obtain⟨cg,cc,lg,lc,ys,zs,c1,c2,c3,r1,r2,_⟩:=key i hi
      exact⟨g,0,rfl,cg,0,cc,lg,0,lc,c1,c2,c3,r1,r2⟩
    · obtain⟨cg,cc,lg,lc,ys,zs,c1,c2,c3,r1,r2,o,f,_⟩:=key i hi
      exact⟨g,0,rfl,_,cc,_,lc,lo,zs,c1,c2,c3,r1,Or.inr ⟨cg,0,rfl⟩,o,f⟩
theorem Vf (a:Option Addr) (cap:Nat) (is:List T3) (w:World) (hc:Lx w a is) (hk:Ga is) :
    Calls prog 27 #[.slice a is.length cap] w fun e w'=>Bw w w'∧∃ g:Nat,e=.returned (.slice (p_ g) is.length is.length)∧Ip w' w.heap.size w'.heap.size (.slice (p_ g) is.length is.length) is:=by
  obtain⟨z0,hi,bp,bh,bv⟩:=info_parts Tryz.info97;have hl:=hk.1;have HK:=hid hk.2;clear hk;go_enter func27,ntmps27
  go_wp2_with (first|(at_make;refine wpList_make_full _ rfl (.tmp 6) (.tmp 6) 32 rfl w.heap.size 97 z0 (.agg #[nS,nS,.string ByteArray.empty]) 3 underlying32 hi bp bh .i64 .i64 _ _ is.length rfl rfl rfl rfl qam qm (Nat.le_refl _) ?_;intro w1 ah ae))
  have fq:Bw w w1:=(Below.refl _ _).grown ae (Nat.le_refl _) qg;clear ae
  go_loopw [4] (fun i wr=>∃(k:Nat) (xs:List Value) (cv lv:Nat→Value),k ≤ is.length∧i=I k∧wr.ownsRow w.heap.size 97 3 (.slice (p_ w.heap.size) is.length is.length) is.length xs∧Hd (Ef wr (w.heap.size+1) is k xs cv lv)∧Hd (SomC is cv k)∧Bw w wr) (fun i _=>is.length-(intOf i).toNat)
  case atStart=>exact⟨0,_,_,_,Nat.zero_le _,rfl,ah,Ef.zero _ _ _ _,(fun i hi=>by omega:SomC is _ 0),fq⟩
  case round=>
    obtain⟨k,xs,cv,lv,hk,rfl,ah,HP,tm,am⟩:=hrel
    by_cases aj:k<is.length
    · obtain⟨b,off,rfl,ca,cc,la,lc,c1,c2,c3,c4,c5⟩:=(hc.bl am) k aj
      have zj:=HK.o k aj;have E8:k*3+2<xs.length:=qcv;have hgl:w.heap.size<wr.heap.size:=(ah.lt _ rfl).2;have HF:Hd (∀(W:World) (c d:Value) (ys zs:List Value),Bw wr W→W.ownsRow wr.heap.size 128 3 c (qx is k).code.length ys→Cl (qx is k).code (qx is k).code.length ys→W.ownsRow wr.heap.size 125 3 d (qx is k).looks.length zs→Bo (qx is k).looks (qx is k).looks.length zs→(∃ g cap,d=.slice (p_ g) (qx is k).looks.length cap)→Ef W (w.heap.size+1) is (k+1) (((xs.set (k*3) c).set (k*3+1) d).set (k*3+2) (.string (qx is k).out)) (fun i=>if i=k then c else cv i) (fun i=>if i=k then d else lv i)):=fun W c d ys zs h1 h2 h3 h4 h5 h6=>HP.o.add (fun b _ hl=>Or.inl (h1.block b hl)) hgl h2 h3 h4 h5 h6 (fun j hj=>set3_old _ _ _ hj) (set3_0 _ _ _ E8) (set3_1 _ _ _ E8) (set3_2 _ _ _ E8);have rd:Hd (∀ c,(∃ g cp,c=.slice (p_ g) (qx is k).code.length cp)→SomC is (fun i=>if i=k then c else cv i) (k+1)):=fun c hc=>tm.o.add hc;clear tm;generalize qx is k=i at *;have C4:=hid c4;have C5:=hid c5;clear fq hc c4 c5;go_wp2_with fail;refine(Xr ca la cc lc i.code i.looks i.out _ C4.o C5.o zj.1 zj.2).mono ?_;rintro e w2 ⟨ag,g1,g2,rfl,⟨ys,lj,ye⟩,zs,mu,hfz⟩;have aq:=Ac ah ag;have kw:=am.trans (ag.mono am.size);have bz:=aq.frozenAt;have uh:=(((HF.o w2 _ _ ys zs ag lj ye mu hfz ⟨_,_,rfl⟩).set (b:=w.heap.size) (j:=k*3) (Nat.lt_succ_self _) (.slice (p_ g1) i.code.length i.code.length)).set (b:=w.heap.size) (j:=k*3+1) (Nat.lt_succ_self _) (.slice (p_ g2) i.looks.length i.looks.length)).set (b:=w.heap.size) (j:=k*3+2) (Nat.lt_succ_self _) (.string i.out);obtain⟨o1,d1⟩:=Bl aq (j:=k*3) qb;obtain⟨o2,d2⟩:=Bl aq (j:=k*3+1) qb;obtain⟨o3,d3⟩:=Bl aq (j:=k*3+2) qb;have HO:=hid aq;have fl:=hid uh;clear ah aq ag am uh HP HF lj mu ye hfz;go_wp2;go_roundw
      case rel=>exact⟨k+1,_,_,_,qb,qj,(((HO.o.stored _ _).1.stored _ _).1.stored _ _).1,fl.o,rd.o _ ⟨_,_,rfl⟩,((kw.setCell (Nat.le_refl _) _).setCell (Nat.le_refl _) _).setCell (Nat.le_refl _) _⟩
      case measure=>simp[intOf];omega
    · have ek:k=is.length:=qb
      subst ek;go_wp2;go_ret;exact⟨am,_,rfl,_,_,_,HP.o.own1 ah (Nat.le_succ _) (Nat.le_refl _),tm.o⟩

theorem Mc (n:Int) (ta ra:Option Addr) (tc rc:Nat) (ts:List By) (rs:List T3) (w:World) (st:Cv w ta ts) (rq:Lx w ra rs) (hl:ts.length ≤ 1048576) (hq:Ga rs) :
    Calls prog 7 #[.agg #[I n,.slice ta ts.length tc,.slice ra rs.length rc]] w fun e w'=>Bw w w'∧∃(g1:Nat) (v2:Value),e=.returned (.agg #[I n,.slice (p_ g1) ts.length ts.length,v2])∧Dq w' w.heap.size w'.heap.size (.slice (p_ g1) ts.length ts.length) ts∧Ip w' w.heap.size w'.heap.size v2 rs:=by
  have fj:=hid st;have HRQ:=hid rq;have HQS:=hid hq;clear st rq hq;go_enter func7,ntmps7;go_wp2_with fail;have ak:Bw w (((w.alloc (.cells #[I n,.slice ta ts.length tc,.slice ra rs.length rc] 25)).alloc (.cells #[I 0,nS,nS] 34)).alloc (.cells #[I n,nS,nS] 34)):=((aN _ _).alloc qg _).alloc qh _;refine(Vd ta tc ts _ (fj.o.bl ak) hl).mono ?_;rintro e w1 ⟨af,g,rfl,hr⟩;have hg:=(hr.lt g rfl).1;simp at hg;rw[Ug] at hr;have ie:Hd (Dq w1 (w.heap.size+1+1+1) w1.heap.size (.slice (p_ g) ts.length ts.length) ts):=Bg.new (Ah hr qg);have hb:=ak.trans (af.mono ak.size);have hz:=af.size;simp at hz;have c02:w1.cell? ⟨w.heap.size,2,none⟩=some (.slice ra rs.length rc):=Aa af qk;have Mw:w1.cell? ⟨w.heap.size+1,0,none⟩=some (I 0):=Aa af qk;have xe:w1.cell? ⟨w.heap.size+1,1,none⟩=some nS:=Aa af qk;have c12:w1.cell? ⟨w.heap.size+1,2,none⟩=some nS:=Aa af qk;have c20:w1.cell? ⟨w.heap.size+1+1,0,none⟩=some (I n):=Aa af qk;have c21:w1.cell? ⟨w.heap.size+1+1,1,none⟩=some nS:=Aa af qk;have c22:w1.cell? ⟨w.heap.size+1+1,2,none⟩=some nS:=Aa af qk;have f1:∀ j,w1.frozen? ⟨w.heap.size+1,j,none⟩=false:=fun j=>by rw[af.frozen (p:=⟨w.heap.size+1,j,none⟩) qg];simp[go_sem]
  have f2:∀ j,w1.frozen? ⟨w.heap.size+1+1,j,none⟩=false:=fun j=>by rw[af.frozen (p:=⟨w.heap.size+1+1,j,none⟩) qg];simp[go_sem]
  clear ak af;go_wp2_with fail;have md:Bw w (w1.setCell ⟨w.heap.size+1+1,1,none⟩ (.slice (p_ g) ts.length ts.length)):=hb.setCell (p:=⟨w.heap.size+1+1,1,none⟩) qh _;refine(Vf ra rc rs _ (HRQ.o.bl md) HQS.o).mono ?_;rintro e w2 ⟨ag,g2,rfl,mu⟩;have aw:=md.trans (ag.mono md.size);have cw:Hd (Dq w2 (w.heap.size+1+1+1) w1.heap.size (.slice (p_ g) ts.length ts.length) ts):=(ie.o.set (j:=1) (show w.heap.size+1+1<w.heap.size+1+1+1 from qb) _).bl ag;have bv:=ag.size;simp at bv;have HT2:Hd (Ip w2 (w.heap.size+1+1+1) w2.heap.size (.slice (p_ g2) rs.length rs.length) rs):=mu.wide qh (Nat.le_refl _);have hs12:w1.heap.size ≤ w2.heap.size:=by simpa using ag.size
  have d10:w2.cell? ⟨w.heap.size+1,0,none⟩=some (I 0):=Aa ag (by simp[go_sem,Mw]);have d11:w2.cell? ⟨w.heap.size+1,1,none⟩=some nS:=Aa ag (by simp[go_sem,xe]);have d12:w2.cell? ⟨w.heap.size+1,2,none⟩=some nS:=Aa ag (by simp[go_sem,c12]);have d20:w2.cell? ⟨w.heap.size+1+1,0,none⟩=some (I n):=Aa ag (by simp[go_sem,c20]);have d21:w2.cell? ⟨w.heap.size+1+1,1,none⟩=some (.slice (p_ g) ts.length ts.length):=Aa ag (by simp[go_sem,c21]);have d22:w2.cell? ⟨w.heap.size+1+1,2,none⟩=some nS:=Aa ag (by simp[go_sem,c22]);have e1:∀ j,w2.frozen? ⟨w.heap.size+1,j,none⟩=false:=fun j=>by rw[ag.frozen (p:=⟨w.heap.size+1,j,none⟩) qh];simp[go_sem,f1]
  have e2:∀ j,w2.frozen? ⟨w.heap.size+1+1,j,none⟩=false:=fun j=>by rw[ag.frozen (p:=⟨w.heap.size+1+1,j,none⟩) qh];simp[go_sem,f2]
  clear ag md hb c02 Mw xe c12 c20 c21 c22 f1 f2 hr mu ie;go_wp2;refine bR (v:=.agg #[I n,.slice (p_ g) ts.length ts.length,.slice (p_ g2) rs.length rs.length]) (by simp[results,results7,go_sem,d10,d11,d12]) rfl ⟨?_,_,_,rfl,?_,?_⟩
  · exact(((aw.setCell (p:=⟨w.heap.size+1+1,2,none⟩) qh _).setCell (p:=⟨w.heap.size+1,0,none⟩) qg _).setCell (p:=⟨w.heap.size+1,1,none⟩) qg _).setCell (p:=⟨w.heap.size+1,2,none⟩) qg _
  · exact((((cw.o.set qb _).set qb _).set qb _).set qb _).wide qb qh
  · exact((((HT2.o.set qb _).set qb _).set qb _).set qb _).wide qb qg
theorem Hp {v0 v3 v4 v5 v6 v7 v8 v9:Value} {T:TypeId} (h:w.heap[b]?=some (.cells #[v0,v1,v2,v3,v4,v5,v6,v7,v8,v9] T (0,0))):w.cell? ⟨b,0,none⟩=some v0/\w.cell? ⟨b,1,none⟩=some v1/\w.cell? ⟨b,2,none⟩=some v2/\w.cell? ⟨b,3,none⟩=some v3/\w.cell? ⟨b,4,none⟩=some v4/\w.cell? ⟨b,5,none⟩=some v5/\w.cell? ⟨b,6,none⟩=some v6/\w.cell? ⟨b,7,none⟩=some v7/\w.cell? ⟨b,8,none⟩=some v8/\w.cell? ⟨b,9,none⟩=some v9:=by
  exact qna
structure BD where
  c:Int
  t:By
  ch:List By
  n:Int
  T:List By
  R:List T3
  ran:List By
  held:List By
  A:By
  B:By
structure BD.Sm (d:BD):Prop where
  ch:d.ch.length ≤ 1048576
  T:d.T.length ≤ 1048576
  R:Ga d.R
  ran:d.ran.length ≤ 1048576
  held:d.held.length ≤ 1048576
structure BV (w:World) (d:BD) (v:Value) (ca:Option Addr) (cc:Nat) (ta:Option Addr) (tc:Nat) (qa:Option Addr) (qc:Nat) (na:Option Addr) (nc:Nat) (ea:Option Addr) (ec:Nat):Prop where
  eq:v=.agg #[I d.c,.string d.t,.slice ca d.ch.length cc,I d.n,.slice ta d.T.length tc,.slice qa d.R.length qc,.slice na d.ran.length nc,.slice ea d.held.length ec,.string d.A,.string d.B]
  ch:Cv w ca d.ch
  tx:Cv w ta d.T
  rq:Lx w qa d.R
  ran:Cv w na d.ran
  held:Cv w ea d.held
theorem Li {d:BD} {v':Value} {ca:Option Addr} {cc:Nat} {tc:Nat} {qa:Option Addr} {qc:Nat} {na:Option Addr} {nc:Nat} {ea:Option Addr} {ec:Nat} {ca':Option Addr} {cc':Nat} {l7:Option Addr} {sj:Nat} {za:Option Addr} {yz:Nat} {na':Option Addr} {As:Nat} {ea':Option Addr} {ec':Nat} (h:BV w d v ca cc ta tc qa qc na nc ea ec) (k:BV w d v' ca' cc' l7 sj za yz na' As ea' ec') (hs:d.Sm) :
    Calls prog 10 #[v,v'] w fun e w'=>Bw w w'∧e=.returned (.bool true):=by
  obtain⟨rfl,h1,h2,h3,h4,h5⟩:=h;obtain⟨rfl,k1,k2,k3,k4,k5⟩:=k;obtain⟨c,t,ch,n,T,R,ran,held,A,B⟩:=d;obtain⟨m1,m2,m3,m4,m5⟩:=hs;dsimp only at h1 h2 h3 h4 h5 k1 k2 k3 k4 k5 m1 m2 m3 m4 m5 ⊢;obtain⟨W,eW⟩:=Ai ((w.alloc (.cells #[I c,.string t,.slice ca ch.length cc,I n,.slice ta T.length tc,.slice qa R.length qc,.slice na ran.length nc,.slice ea held.length ec,.string A,.string B] 36)).alloc (.cells #[I c,.string t,.slice ca' ch.length cc',I n,.slice l7 T.length sj,.slice za R.length yz,.slice na' ran.length As,.slice ea' held.length ec',.string A,.string B] 36));have bn:Bw w W:=by rw[← eW];exact Ay (Ag _ _) (Ag _ _)
  have HP:Hd (W.heap[w.heap.size]?=some (.cells #[I c,.string t,.slice ca ch.length cc,I n,.slice ta T.length tc,.slice qa R.length qc,.slice na ran.length nc,.slice ea held.length ec,.string A,.string B] 36 (0,0))):=qdz
  have HQ:Hd (W.heap[w.heap.size+1]?=some (.cells #[I c,.string t,.slice ca' ch.length cc',I n,.slice l7 T.length sj,.slice za R.length yz,.slice na' ran.length As,.slice ea' held.length ec',.string A,.string B] 36 (0,0))):=by
    show _=_;rw[← eW];have:=Gq (w.alloc (.cells #[I c,.string t,.slice ca ch.length cc,I n,.slice ta T.length tc,.slice qa R.length qc,.slice na ran.length nc,.slice ea held.length ec,.string A,.string B] 36)) (.cells #[I c,.string t,.slice ca' ch.length cc',I n,.slice l7 T.length sj,.slice za R.length yz,.slice na' ran.length As,.slice ea' held.length ec',.string A,.string B] 36)
    rwa [show (w.alloc (.cells #[I c,.string t,.slice ca ch.length cc,I n,.slice ta T.length tc,.slice qa R.length qc,.slice na ran.length nc,.slice ea held.length ec,.string A,.string B] 36)).heap.size=w.heap.size+1 from qg] at this
  have HC:=hid (fun (V:World) (hV:Bw w V)=>Gu ca ca' cc cc' ch V (h1.bl hV) (k1.bl hV) m1);have HS:=hid (fun (V:World) (hV:Bw w V)=>Pv n ta qa l7 za tc qc sj yz T R V (h2.bl hV) (k2.bl hV) (h3.bl hV) (k3.bl hV) m2 m3);have HN:=hid (fun (V:World) (hV:Bw w V)=>Gu na na' nc As ran V (h4.bl hV) (k4.bl hV) m4);have HE:=hid (fun (V:World) (hV:Bw w V)=>Gu ea ea' ec ec' held V (h5.bl hV) (k5.bl hV) m5);have HB:=hid bn;clear h1 h2 h3 h4 h5 k1 k2 k3 k4 k5 m1 m2 m3 m4 m5 bn;have hcc:∀ V:World,(binOp BinOp.neq 9 (.string t) (.string t)).run prog V=.ok (.bool false) V:=fun V=>qk;obtain⟨x0,x1,x2,x3,x4,x5,x6,x7,x8,x9⟩:=Hp HP.o;obtain⟨y0,y1,y2,y3,y4,y5,y6,y7,y8,y9⟩:=Hp HQ.o;go_enter func10,ntmps10;go_wp2_with fail;clear eW x0 x1 x2 x3 x4 x5 x6 x7 x8 x9 y0 y1 y2 y3 y4 y5 y6 y7 y8 y9;refine(HC.o W HB.o).mono ?_;rintro e w1 ⟨af,rfl⟩;replace HP:=hid (Ab af HP.o);replace HQ:=hid (Ab af HQ.o);replace HB:=hid (bt HB.o af);clear af;obtain⟨x0,x1,x2,x3,x4,x5,x6,x7,x8,x9⟩:=Hp HP.o;obtain⟨y0,y1,y2,y3,y4,y5,y6,y7,y8,y9⟩:=Hp HQ.o;go_wp2_with fail;clear x0 x1 x2 x3 x4 x5 x6 x7 x8 x9 y0 y1 y2 y3 y4 y5 y6 y7 y8 y9;refine(HS.o w1 HB.o).mono ?_;rintro e w2 ⟨af,rfl⟩;replace HP:=hid (Ab af HP.o);replace HQ:=hid (Ab af HQ.o);replace HB:=hid (bt HB.o af);clear af;obtain⟨x0,x1,x2,x3,x4,x5,x6,x7,x8,x9⟩:=Hp HP.o;obtain⟨y0,y1,y2,y3,y4,y5,y6,y7,y8,y9⟩:=Hp HQ.o;go_wp2_with fail;clear x0 x1 x2 x3 x4 x5 x6 x7 x8 x9 y0 y1 y2 y3 y4 y5 y6 y7 y8 y9;refine(HN.o w2 HB.o).mono ?_;rintro e w3 ⟨af,rfl⟩;replace HP:=hid (Ab af HP.o);replace HQ:=hid (Ab af HQ.o);replace HB:=hid (bt HB.o af);clear af;obtain⟨x0,x1,x2,x3,x4,x5,x6,x7,x8,x9⟩:=Hp HP.o;obtain⟨y0,y1,y2,y3,y4,y5,y6,y7,y8,y9⟩:=Hp HQ.o;go_wp2_with fail;clear x0 x1 x2 x3 x4 x5 x6 x7 x8 x9 y0 y1 y2 y3 y4 y5 y6 y7 y8 y9;refine(HE.o w3 HB.o).mono ?_;rintro e w4 ⟨af,rfl⟩;replace HP:=hid (Ab af HP.o);replace HQ:=hid (Ab af HQ.o);replace HB:=hid (bt HB.o af);clear af;obtain⟨x0,x1,x2,x3,x4,x5,x6,x7,x8,x9⟩:=Hp HP.o;obtain⟨y0,y1,y2,y3,y4,y5,y6,y7,y8,y9⟩:=Hp HQ.o;go_wp2_with fail;go_ret;exact⟨HB.o,rfl⟩
structure BO (w:World) (lo:Nat) (d:BD) (v cv tx qv nv ev:Value) (zs:List Value) (kv lv:Nat→Value):Prop where
  eq:v=.agg #[I d.c,.string d.t,cv,I d.n,tx,qv,nv,ev,.string d.A,.string d.B]
  ch:w.ownsRow lo 9 1 cv d.ch.length (Ax d.ch)
  txs:w.ownsRow lo 9 1 tx d.T.length (Ax d.T)
  rq:Gy w lo qv d.R zs kv lv
  ran:w.ownsRow lo 9 1 nv d.ran.length (Ax d.ran)
  held:w.ownsRow lo 9 1 ev d.held.length (Ax d.held)
  ap:It [cv,tx,nv,ev]
theorem Nd {ch:List By} (h:w.ownsRow lo 9 1 v ch.length (Ax ch)):∃ a cap,v=.slice a ch.length cap∧Cv w a ch:=Dq.sl (Bg.new h)
theorem Gy.rowQ (h:Gy w lo v R zs kv lv):∃ a cap,v=.slice a R.length cap∧Lx w a R:=by
  obtain⟨a,cap,e⟩:=Aw h.row;subst e;refine⟨a,cap,rfl,fun i hi=>?_⟩;obtain⟨f1,f2,f3⟩:=h.fil i hi;obtain⟨ys,k1,k2⟩:=h.code i hi;obtain⟨us,l1,l2⟩:=h.look i hi;obtain⟨ca,cc,e1,r1⟩:=Pe k1 k2;obtain⟨la,lc,e2,r2⟩:=Fp l1 l2;rw[e1] at f1;rw[e2] at f2;obtain⟨b,rfl,c1⟩:=Cn h.row f1;obtain⟨b',q,c2⟩:=Cn h.row f2;cases q;obtain⟨b',q,c3⟩:=Cn h.row f3;cases q;exact⟨b,0,rfl,ca,cc,la,lc,by rw[Nat.zero_add];exact c1,by rw[Nat.zero_add];exact c2,by rw[Nat.zero_add];exact c3,r1,r2⟩
def kC (d:BD):Nat:=1+d.ch.length
def kD (d:BD):Nat:=kR (fun i=>(qx d.R i).code.length) (fun i=>(qx d.R i).looks.length) (kC d+d.T.length) d.R.length
def kE (d:BD):Nat:=kD d+d.ran.length
def kF (d:BD):Nat:=kE d+d.held.length
theorem kD_le {d:BD} (h:d.Sm):kD d ≤ 700000000000000:=by
  have h1:=Qbk (fun i=>(qx d.R i).code.length) (fun i=>(qx d.R i).looks.length) (kC d+d.T.length) d.R.length h.R.2;have h2:=h.R.1;have h3:=h.ch;have h4:=h.T;unfold kD;unfold kC at h1 ⊢;omega
structure MB (w:World) (lo hi:Nat) (d:BD) (cv tx qv nv ev:Value):Prop where
  ch:∃ ys,Bg w lo hi 9 1 cv d.ch.length ys∧Pg 1 d.ch.length ys
  st:Us w lo hi (kC d) tx qv d.T.length d.R.length (fun i=>(qx d.R i).code.length) (fun i=>(qx d.R i).looks.length)
  ran:∃ ys,Bg w lo hi 9 1 nv d.ran.length ys∧Pg (kD d) d.ran.length ys
  held:∃ ys,Bg w lo hi 9 1 ev d.held.length ys∧Pg (kE d) d.held.length ys
theorem MB.bl {d:BD} {cv tx:Value} (h:MB w lo hi d cv tx qv nv ev) (hb:Bw w w'):MB w' lo hi d cv tx qv nv ev:=by
  obtain⟨⟨a,a1,a2⟩,b,⟨c,c1,c2⟩,⟨e,e1,e2⟩⟩:=h;exact⟨⟨a,a1.bl hb,a2⟩,b.bl hb,⟨c,c1.bl hb,c2⟩,⟨e,e1.bl hb,e2⟩⟩
theorem Bg.keep9 {u:Value} (h:Bg w lo hi 9 1 u n ys) (hk:Keep9 v w w') (hd:∀ b,u.ownBlock=some b→v.ownBlock≠some b):Bg w' lo hi 9 1 u n ys:=h.same fun b e=>by
  obtain⟨cs,c1⟩:=Ba h.own b e;rw[c1];exact hk b cs c1 (hd b e)
theorem Bg.keepO9 {u:Value} (h:Bg w lo hi 9 1 u n ys) (hk:Df v.ownBlock w w') (hd:∀ b,u.ownBlock=some b→v.ownBlock≠some b):Bg w' lo hi 9 1 u n ys:=h.same fun b e=>hk b (h.own.lt b e).2 (fun q=>hd b e q.symm)
theorem Us.keepO9 {K:Nat} {u:Value} (h:Us w lo hi K v1 v2 n1 n2 cl gl) (ho:w.ownsRow B 9 1 u m us) (hk:Df u.ownBlock w w') (hd:∀ b,v1.ownBlock=some b→u.ownBlock≠some b):Us w' lo hi K v1 v2 n1 n2 cl gl:=by
  obtain⟨⟨ys,h1,h2⟩,zs,cv,lv,h3,h4⟩:=h
  have kc:∀ i,i<n2→∀ b,(cv i).ownBlock=some b→w'.heap[b]?=w.heap[b]?:=fun i hi b e=>by
    obtain⟨zz,hz⟩:=h3.code i hi;exact hk b (hz.own.lt b e).2 (fun q=>Qk hz.own ho qd b e q.symm)
  have kl:∀ i,i<n2→∀ b,(lv i).ownBlock=some b→w'.heap[b]?=w.heap[b]?:=fun i hi b e=>by
    obtain⟨zz,hz⟩:=h3.look i hi;exact hk b (hz.own.lt b e).2 (fun q=>Qk hz.own ho qd b e q.symm)
  exact⟨⟨ys,h1.keepO9 hk hd,h2⟩,zs,cv,lv,h3.keepO ho hk qd qd qd,h4.same kc kl⟩
theorem Ob {d:BD} {cv tx:Value} (h:MB w lo hi d cv tx qv nv ev) (hs:d.Sm) :
    Calls prog 16 #[.agg #[I d.c,.string d.t,cv,I d.n,tx,qv,nv,ev,.string d.A,.string d.B],I 1] w fun e w'=>Bw w w'∧e=.returned (I ((kF d:Nat):Int)):=by
  have hkd:=kD_le hs;obtain⟨⟨xs,a1,a2⟩,cz,⟨us,b1,b2⟩,⟨vs,c1,c2⟩⟩:=h;obtain⟨⟨ts',t1,t2⟩,zs',kv',lv',q1,q2⟩:=cz;obtain⟨ca,cc,rfl⟩:=Ch a1;obtain⟨ta,tc,rfl⟩:=Ch t1;obtain⟨qa,qc,rfl⟩:=Ch q1.row;obtain⟨na,nc,rfl⟩:=Ch b1;obtain⟨ea,ec,rfl⟩:=Ch c1;have hC1:1 ≤ kC d:=by unfold kC;omega
  have hCD:kC d+d.T.length ≤ kD d:=Po _ _ _ 0 _ (Nat.zero_le _);have m1:=hs.ch;have m4:=hs.ran;have m5:=hs.held;have lq:kD d ≤ 800000000000000:=qb;have HC:=hid (fun (V:World) (hV:Bw w V)=>Fz lo hi d.ch.length 1 _ xs V (a1.bl hV) a2 m1 (Nat.le_refl _) qb);have HS:=hid (fun (V:World) (hV:Bw w V)=>Vx d.n lo hi d.T.length d.R.length (kC d) _ _ _ _ V (Us.bl ⟨⟨ts',t1,t2⟩,zs',kv',lv',q1,q2⟩ hV) hs.T hs.R.1 hs.R.2 hC1 lq);have HN:=hid (fun (V:World) (hV:Bw w V)=>Fz lo hi d.ran.length (kD d) _ us V (b1.bl hV) b2 m4 qb qb);have HE:=hid (fun (V:World) (hV:Bw w V)=>Fz lo hi d.held.length (kE d) _ vs V (c1.bl hV) c2 m5 (by unfold kE;omega) (by unfold kE;omega));change Hd (∀(V:World),Bw w V→Calls prog 39 _ V fun e w'=>e=.returned (I ((kC d:Nat):Int))∧Bw V w') at HC;change Hd (∀(V:World),Bw w V→Calls prog 40 _ V fun e w'=>e=.returned (I ((kD d:Nat):Int))∧Bw V w') at HS;change Hd (∀(V:World),Bw w V→Calls prog 39 _ V fun e w'=>e=.returned (I ((kE d:Nat):Int))∧Bw V w') at HN;change Hd (∀(V:World),Bw w V→Calls prog 39 _ V fun e w'=>e=.returned (I ((kF d:Nat):Int))∧Bw V w') at HE;generalize kC d=k1 at *;generalize kD d=k2 at *;generalize kE d=k3 at *;generalize kF d=k4 at *;obtain⟨W,eW⟩:=Ai (w.alloc (.cells #[I d.c,.string d.t,.slice ca d.ch.length cc,I d.n,.slice ta d.T.length tc,.slice qa d.R.length qc,.slice na d.ran.length nc,.slice ea d.held.length ec,.string d.A,.string d.B] 36));have HB:Hd (Bw w W):=by show Below _ _ _;rw[← eW];exact Ag _ _
  have HP:Hd (W.heap[w.heap.size]?=some (.cells #[I d.c,.string d.t,.slice ca d.ch.length cc,I d.n,.slice ta d.T.length tc,.slice qa d.R.length qc,.slice na d.ran.length nc,.slice ea d.held.length ec,.string d.A,.string d.B] 36 (0,0))):=by show _=_;rw[← eW];exact Gq _ _
  have p1:¬ ((k1:Int)<0):=qb;have p2:¬ ((k2:Int)<0):=qb;have p3:¬ ((k3:Int)<0):=qb;have p4:¬ ((k4:Int)<0):=qb;clear lq a1 a2 t1 t2 q1 q2 b1 b2 c1 c2 hs m1 m4 m5 hC1 hCD hkd;obtain⟨x0,x1,x2,x3,x4,x5,x6,x7,x8,x9⟩:=Hp HP.o;go_enter func16,ntmps16;go_wp2_with fail;clear eW x0 x1 x2 x3 x4 x5 x6 x7 x8 x9;refine(HC.o W HB.o).mono ?_;rintro e w1 ⟨rfl,af⟩;replace HP:=hid (Ab af HP.o);replace HB:=hid (bt HB.o af);clear af;obtain⟨x0,x1,x2,x3,x4,x5,x6,x7,x8,x9⟩:=Hp HP.o;go_wp2_with fail;clear x0 x1 x2 x3 x4 x5 x6 x7 x8 x9;refine(HS.o w1 HB.o).mono ?_;rintro e w2 ⟨rfl,af⟩;replace HP:=hid (Ab af HP.o);replace HB:=hid (bt HB.o af);clear af;obtain⟨x0,x1,x2,x3,x4,x5,x6,x7,x8,x9⟩:=Hp HP.o;go_wp2_with fail;clear x0 x1 x2 x3 x4 x5 x6 x7 x8 x9;refine(HN.o w2 HB.o).mono ?_;rintro e w3 ⟨rfl,af⟩;replace HP:=hid (Ab af HP.o);replace HB:=hid (bt HB.o af);clear af;obtain⟨x0,x1,x2,x3,x4,x5,x6,x7,x8,x9⟩:=Hp HP.o;go_wp2_with fail;clear x0 x1 x2 x3 x4 x5 x6 x7 x8 x9;refine(HE.o w3 HB.o).mono ?_;rintro e w4 ⟨rfl,af⟩;replace HB:=hid (bt HB.o af);clear af;go_wp2_with fail;go_ret;exact⟨HB.o,rfl⟩
theorem Vs {d:BD} {cv tx:Value} (h:BO w lo d v cv tx qv nv ev zs kv lv) (hB:lo ≤ w.heap.size) (hs:d.Sm) (hi:Nat) (hhi:hi ≤ w.heap.size) (ht:∀ b,(cv.ownBlock=some b∨tx.ownBlock=some b∨nv.ownBlock=some b∨ev.ownBlock=some b)→b<hi) (r2:Cy w lo hi qv d.R.length (fun i=>(qx d.R i).code.length) (fun i=>(qx d.R i).looks.length) zs kv lv) :
    Calls prog 15 #[v,I 1] w fun e w'=>Below lo w w'∧e=.returned (I ((kF d:Nat):Int))∧Dj lo hi w w'∧MB w' lo hi d cv tx qv nv ev:=by
  have hkd:=kD_le hs;obtain⟨rfl,R9,htx,hrq,H9,B4,jp⟩:=h;have n01:=jp.ne (i:=0) (j:=1) qd qg qg;have n02:=jp.ne (i:=0) (j:=2) qd qg qg;have n03:=jp.ne (i:=0) (j:=3) qd qg qg;have n12:=jp.ne (i:=1) (j:=2) qd qg qg;have n13:=jp.ne (i:=1) (j:=3) qd qg qg;have n23:=jp.ne (i:=2) (j:=3) qd qg qg;have n10:=jp.ne (i:=1) (j:=0) qd qg qg;have n20:=jp.ne (i:=2) (j:=0) qd qg qg;have n30:=jp.ne (i:=3) (j:=0) qd qg qg;have n21:=jp.ne (i:=2) (j:=1) qd qg qg;have n31:=jp.ne (i:=3) (j:=1) qd qg qg;have n32:=jp.ne (i:=3) (j:=2) qd qg qg;simp only[List.getElem_cons_zero,List.getElem_cons_succ] at n01 n02 n03 n12 n13 n23 n10 n20 n30 n21 n31 n32;have vp:=hid (show (∀ b,cv.ownBlock=some b→tx.ownBlock≠some b)∧(∀ b,cv.ownBlock=some b→nv.ownBlock≠some b)∧(∀ b,cv.ownBlock=some b→ev.ownBlock≠some b)∧(∀ b,tx.ownBlock=some b→nv.ownBlock≠some b)∧(∀ b,tx.ownBlock=some b→ev.ownBlock≠some b)∧(∀ b,nv.ownBlock=some b→ev.ownBlock≠some b)∧(∀ b,tx.ownBlock=some b→cv.ownBlock≠some b)∧(∀ b,nv.ownBlock=some b→cv.ownBlock≠some b)∧(∀ b,ev.ownBlock=some b→cv.ownBlock≠some b)∧(∀ b,nv.ownBlock=some b→tx.ownBlock≠some b)∧(∀ b,ev.ownBlock=some b→tx.ownBlock≠some b)∧(∀ b,ev.ownBlock=some b→nv.ownBlock≠some b) from ⟨n01,n02,n03,n12,n13,n23,n10,n20,n30,n21,n31,n32⟩);clear n01 n02 n03 n12 n13 n23 n10 n20 n30 n21 n31 n32 jp;obtain⟨bx,ehi⟩:=Ai w.heap.size;have r0:Bg w lo hi 9 1 cv d.ch.length (Ax d.ch):=⟨R9,fun b e=>ht b (Or.inl e)⟩;have r1:Bg w lo hi 9 1 tx d.T.length (Ax d.T):=⟨htx,fun b e=>ht b (Or.inr (Or.inl e))⟩;have r3:Bg w lo hi 9 1 nv d.ran.length (Ax d.ran):=⟨H9,fun b e=>ht b (Or.inr (Or.inr (Or.inl e)))⟩;have r4:Bg w lo hi 9 1 ev d.held.length (Ax d.held):=⟨B4,fun b e=>ht b (Or.inr (Or.inr (Or.inr e)))⟩;clear ht;obtain⟨ca,cc,rfl⟩:=Ch r0;obtain⟨ta,tc,rfl⟩:=Ch r1;obtain⟨qa,qc,rfl⟩:=Ch r2.row;obtain⟨na,nc,rfl⟩:=Ch r3;obtain⟨ea,ec,rfl⟩:=Ch r4;obtain⟨W,eW⟩:=Ai (w.alloc (.cells #[I d.c,.string d.t,.slice ca d.ch.length cc,I d.n,.slice ta d.T.length tc,.slice qa d.R.length qc,.slice na d.ran.length nc,.slice ea d.held.length ec,.string d.A,.string d.B] 36));have bn:=aB eW;have HP:Hd (W.heap[w.heap.size]?=some (.cells #[I d.c,.string d.t,.slice ca d.ch.length cc,I d.n,.slice ta d.T.length tc,.slice qa d.R.length qc,.slice na d.ran.length nc,.slice ea d.held.length ec,.string d.A,.string d.B] 36 (0,0))):=by show _=_;rw[← eW];exact Gq _ _
  have R0:=hid (r0.bl bn);have R1:=hid (r1.bl bn);have R2:=hid (r2.bl bn);have R3:=hid (r3.bl bn);have R4:=hid (r4.bl bn);have HB:=hid (bn.mono hB);have HKR:Hd (Dj lo hi w W):=Dj.of_below bn;have up:=bn.size;have HM:=hid (show d.ch.length ≤ 1048576∧d.T.length ≤ 1048576∧Ga d.R∧d.ran.length ≤ 1048576∧d.held.length ≤ 1048576∧1 ≤ kC d∧kC d+d.T.length ≤ kD d∧kD d ≤ 700000000000000 from ⟨hs.ch,hs.T,hs.R,hs.ran,hs.held,by unfold kC;omega,Po _ _ _ 0 _ (Nat.zero_le _),hkd⟩);clear r0 r1 r2 r3 r4 R9 htx hrq H9 B4 bn hs hkd;rw[ehi] at HP up hhi;have hWl:=Af HP.o;obtain⟨x0,x1,x2,x3,x4,x5,x6,x7,x8,x9⟩:=Hp HP.o;go_enter func15,ntmps15;go_wp2_with fail;clear x0 x1 x2 x3 x4 x5 x6 x7 x8 x9;have e1:1+d.ch.length=kC d:=rfl;have e2:kR (fun i=>(qx d.R i).code.length) (fun i=>(qx d.R i).looks.length) (kC d+d.T.length) d.R.length=kD d:=rfl;have e3:kD d+d.ran.length=kE d:=rfl;have e4:kE d+d.held.length=kF d:=rfl;refine(Fx lo hi d.ch.length 1 _ _ W R0.o qb HM.o.1 (Nat.le_refl _) qb).mono ?_;rintro e w1 ⟨rfl,af,ce,ys1,o1,q1⟩;have eg:=af.size;rw[e1];replace HP:=hid ((ce bx qb (fun q=>by have:=R0.o.top bx q.symm;omega)).trans HP.o);replace HKR:=hid (HKR.o.trans qb (ce.keepR fun b q=>⟨(R0.o.own.lt b q).1,R0.o.top b q⟩));replace R1:=hid (R1.o.keepO9 ce vp.o.2.2.2.2.2.2.1);replace R2:=hid (R2.o.keepO R0.o.own ce qd qd qd);replace R3:=hid (R3.o.keepO9 ce vp.o.2.2.2.2.2.2.2.1);replace R4:=hid (R4.o.keepO9 ce vp.o.2.2.2.2.2.2.2.2.1);replace HB:=hid (HB.o.trans af);have O1:=hid o1;have Q1:=hid q1;clear af ce o1 q1 R0 eW;obtain⟨x0,x1,x2,x3,x4,x5,x6,x7,x8,x9⟩:=Hp HP.o;have HKC:Hd (kC d ≤ 700000000000000):=by have:=HM.o.2.2.2.2.2.2;show _ ≤ _;omega
  obtain⟨K1,ek1⟩:=Ai (kC d);rw[ek1];go_wp2_with fail;clear x0 x1 x2 x3 x4 x5 x6 x7 x8 x9;rw[← ek1];refine(Ny d.n lo hi d.T.length d.R.length (kC d) _ _ _ _ _ _ _ _ w1 R1.o R2.o qb HM.o.2.1 HM.o.2.2.1.1 HM.o.2.2.1.2 HM.o.2.2.2.2.2.1 (by have:=HM.o.2.2.2.2.2.2.2;rw[e2];omega)).mono ?_;rintro e w2 ⟨rfl,ag,gw,No,Q8⟩;have gp:=ag.size;rw[e2];replace HP:=hid ((gw bx qb (Or.inr hhi)).trans HP.o);replace HKR:=hid (HKR.o.trans qb gw);replace O1:=hid (O1.o.keep9 No vp.o.1);replace R3:=hid (R3.o.keep9 No vp.o.2.2.2.2.2.2.2.2.2.1);replace R4:=hid (R4.o.keep9 No vp.o.2.2.2.2.2.2.2.2.2.2.1);replace HB:=hid (HB.o.trans ag);have xj:=hid Q8;clear ag gw No Q8 R1 R2;obtain⟨x0,x1,x2,x3,x4,x5,x6,x7,x8,x9⟩:=Hp HP.o;obtain⟨K2,ek2⟩:=Ai (kD d);rw[ek2];go_wp2_with fail;clear x0 x1 x2 x3 x4 x5 x6 x7 x8 x9;rw[← ek2];refine(Fx lo hi d.ran.length (kD d) _ _ w2 R3.o qb HM.o.2.2.2.1 (zo HM.o.2.2.2.2.2) (zo HM.o.2.2.2.2.2.2.2)).mono ?_;rintro e w3 ⟨rfl,aw,gh,ys3,o3,q3⟩;have oa:=aw.size;rw[e3];replace HP:=hid ((gh bx qb (fun q=>by have:=R3.o.top bx q.symm;omega)).trans HP.o);replace HKR:=hid (HKR.o.trans qb (gh.keepR fun b q=>⟨(R3.o.own.lt b q).1,R3.o.top b q⟩));replace O1:=hid (O1.o.keepO9 gh vp.o.2.1);replace xj:=hid (xj.o.keepO9 R3.o.own gh vp.o.2.2.2.1);replace R4:=hid (R4.o.keepO9 gh vp.o.2.2.2.2.2.2.2.2.2.2.2);replace HB:=hid (HB.o.trans aw);have O3:=hid o3;have Q3:=hid q3;clear aw gh o3 q3 R3;obtain⟨x0,x1,x2,x3,x4,x5,x6,x7,x8,x9⟩:=Hp HP.o;obtain⟨K3,ek3⟩:=Ai (kE d);rw[ek3];go_wp2_with fail;clear x0 x1 x2 x3 x4 x5 x6 x7 x8 x9;rw[← ek3];refine(Fx lo hi d.held.length (kE d) _ _ w3 R4.o qb HM.o.2.2.2.2.1 (by have:=HM.o.2.2.2.2.2;rw[← e3];omega) (by have:=HM.o.2.2.2.2.2.2.2;have:=HM.o.2.2.2.1;rw[← e3];omega)).mono ?_;rintro e w4 ⟨rfl,cj,oc,ys4,o4,q4⟩;rw[e4];have A3:=cj.size;replace HKR:=hid (HKR.o.trans qb (oc.keepR fun b q=>⟨(R4.o.own.lt b q).1,R4.o.top b q⟩));replace O1:=hid (O1.o.keepO9 oc vp.o.2.2.1);replace xj:=hid (xj.o.keepO9 R4.o.own oc vp.o.2.2.2.2.1);replace O3:=hid (O3.o.keepO9 oc vp.o.2.2.2.2.2.1);replace HB:=hid (HB.o.trans cj);have O4:=hid o4;have Q4:=hid q4;clear cj oc o4 q4 R4;obtain⟨K4,ek4⟩:=Ai (kF d);rw[ek4];go_wp2_with fail;go_ret;exact⟨HB.o,by rw[ek4];rfl,HKR.o,⟨⟨ys1,O1.o,Q1.o⟩,xj.o,⟨ys3,O3.o,Q3.o⟩,⟨ys4,O4.o,Q4.o⟩⟩⟩
def txF:Gd→ByteArray
  | .deep nm=>nm
  | _=>⟨#[]⟩
def chF:Gd→List By
  | .circle ch=>ch
  | _=>[]
def Mz (n:Int) (ss:List S2) (ts:List T2) (T:List By) (R:List T3) (nm:By) (d:BD):Prop:=
  (¬ (Kx n T R∧Hn ss ts=0∧Am nm)∧d=⟨9,⟨#[]⟩,[],n,T,R,[],[],⟨#[]⟩,⟨#[]⟩⟩)∨
  ((Kx n T R∧Hn ss ts=0∧Am nm)∧∃ ms' s' a,Bc ss ts n.toNat [] ⟨T,R,[],[]⟩ [] (.make nm) ms' s' a∧
    ((∃ m,a=.ok m∧d=⟨m.c,m.t,[],n,s'.T,s'.R,s'.ran,s'.held,⟨#[]⟩,⟨#[]⟩⟩)∨(∃ b,a=.bad b∧d=⟨Jq b,txF b,chF b,n,T,R,[],[],clA b,clB b⟩)))
theorem Mz.uniq {n:Int} {d d':BD} (h:Mz n ss ts T R nm d) (k:Mz n ss ts T R nm d') (hv:Hn ss ts=0→SpV ss ts):d'=d:=by
  rcases h with ⟨h0,rfl⟩|⟨h0,ms,s,a,hb,h1⟩
  · rcases k with ⟨k0,rfl⟩|⟨k0,_⟩
    · rfl
    · exact absurd k0 h0
  · rcases k with ⟨k0,_⟩|⟨k0,br,s2,a2,kb,k1⟩
    · exact absurd h0 k0
    · have Q5:=hv h0.2.1
      obtain⟨rfl,rfl,rfl⟩:=Bc.unique Q5.ascS Q5.ascT hb kb
      rcases h1 with ⟨m,rfl,rfl⟩|⟨b,rfl,rfl⟩
      · rcases k1 with ⟨m2,e,rfl⟩|⟨b2,e,_⟩
        · cases e;rfl
        · cases e
      · rcases k1 with ⟨m2,e,_⟩|⟨b2,e,rfl⟩
        · cases e
        · cases e;rfl
theorem Kt (w:World) (lo:Nat):w.ownsRow lo 9 1 nS ([]:List By).length (Ax []):=World.ownsRow_nil _ _ _ _
theorem apt4 {a b c e:Value} (h1:∀ x,a.ownBlock=some x→b.ownBlock≠some x) (h2:∀ x,a.ownBlock=some x→c.ownBlock≠some x) (h3:∀ x,a.ownBlock=some x→e.ownBlock≠some x) (h4:∀ x,b.ownBlock=some x→c.ownBlock≠some x) (h5:∀ x,b.ownBlock=some x→e.ownBlock≠some x) (h6:∀ x,c.ownBlock=some x→e.ownBlock≠some x):It [a,b,c,e]:=by
  unfold It;refine List.Pairwise.cons (fun u hu=>?_) (List.Pairwise.cons (fun u hu=>?_) (List.Pairwise.cons (fun u hu=>?_) (List.Pairwise.cons (fun u hu=>by simp at hu) List.Pairwise.nil)))
  · simp only[List.mem_cons,List.not_mem_nil,or_false] at hu
    rcases hu with rfl|rfl|rfl
    · exact h1
    · exact h2
    · exact h3
  · simp only[List.mem_cons,List.not_mem_nil,or_false] at hu
    rcases hu with rfl|rfl
    · exact h4
    · exact h5
  · simp only[List.mem_cons,List.not_mem_nil,or_false] at hu
    subst hu;exact h6
theorem noB {u:Value}:∀ x,nS.ownBlock=some x→u.ownBlock≠some x:=fun x e=>qbg
theorem noC {u:Value}:∀ x,u.ownBlock=some x→nS.ownBlock≠some x:=fun x e=>by simp[Value.ownBlock]
theorem Jb.says {b:Gd} {x y cv A B':Value} (h:Jb B w b [x,y,cv,I 0,nS,nS,nS,nS,A,B']):x=I (Jq b)∧y=.string (txF b)∧w.ownsRow B 9 1 cv (chF b).length (Ax (chF b))∧A=.string (clA b)∧B'=.string (clB b):=by
  cases b with
  | circle ch=>
    obtain⟨cv',a,e⟩:=h;simp only[List.cons.injEq,and_true,true_and] at e;obtain⟨rfl,rfl,rfl,rfl,rfl⟩:=e;exact⟨rfl,rfl,a,rfl,rfl⟩
  | deep nm'=>
    exact qex
  | clash X Y=>
    exact qex
  | full=>
    exact qex
theorem Gz.bo {n:Int} (h:Gz B n ss ts T R nm v w):∃ d cv tx qv nv ev zs kv lv,Mz n ss ts T R nm d∧BO w B d v cv tx qv nv ev zs kv lv:=by
  rcases h with ⟨h0,tx,qv,rfl,hs⟩|⟨h0,m,rfl,ms',s',a,bi,⟨d,tx,qv,nv,ev,rfl,rfl,h1,⟨zs,kv,lv,h2⟩,h3,h4,h5⟩|⟨b,x,y,cv,tx,qv,A,B',rfl,h1,rfl,hs,h2⟩⟩
  · obtain⟨zs,kv,lv,r⟩:=hs.rcs
    exact⟨⟨9,⟨#[]⟩,[],n,T,R,[],[],⟨#[]⟩,⟨#[]⟩⟩,nS,tx,qv,nS,nS,zs,kv,lv,Or.inl ⟨h0,rfl⟩,rfl,Kt _ _,hs.txt,r,Kt _ _,Kt _ _,apt4 noB noB noB noC noC noC⟩
  · refine⟨⟨d.c,d.t,[],m,s'.T,s'.R,s'.ran,s'.held,⟨#[]⟩,⟨#[]⟩⟩,nS,tx,qv,nv,ev,zs,kv,lv,Or.inr ⟨h0,ms',s',_,bi,Or.inl ⟨d,rfl,rfl⟩⟩,rfl,Kt _ _,h1,h2,h3,h4,?_⟩
    exact List.Pairwise.cons (fun u _=>noB) h5
  · obtain⟨rfl,rfl,ho,rfl,rfl⟩:=h1.says
    obtain⟨zs,kv,lv,r⟩:=hs.rcs;exact⟨⟨Jq b,txF b,chF b,m,T,R,[],[],clA b,clB b⟩,cv,tx,qv,nS,nS,zs,kv,lv,Or.inr ⟨h0,ms',s',_,bi,Or.inr ⟨b,rfl,rfl⟩⟩,rfl,ho,hs.txt,r,Kt _ _,Kt _ _,apt4 h2 noC noC noC noC noC⟩
structure BW (w:World) (lo:Nat) (d:BD) (cv tx qv nv ev:Value) (zs:List Value) (kv lv:Nat→Value):Prop where
  ch:w.ownsRow lo 9 1 cv d.ch.length (Ax d.ch)
  txs:w.ownsRow lo 9 1 tx d.T.length (Ax d.T)
  rq:Gy w lo qv d.R zs kv lv
  ran:w.ownsRow lo 9 1 nv d.ran.length (Ax d.ran)
  held:w.ownsRow lo 9 1 ev d.held.length (Ax d.held)
abbrev bV (d:BD) (cv tx qv nv ev:Value):Array Value:=#[I d.c,.string d.t,cv,I d.n,tx,qv,nv,ev,.string d.A,.string d.B]
theorem BO.bw {d:BD} {cv tx:Value} (h:BO w lo d v cv tx qv nv ev zs kv lv):BW w lo d cv tx qv nv ev zs kv lv:=⟨h.ch,h.txs,h.rq,h.ran,h.held⟩
section
variable {w w':World} {lo:Nat} {d:BD} {cv tx qv nv ev:Value} {zs:List Value} {kv lv:Nat→Value}
theorem BW.kept (h:BW w lo d cv tx qv nv ev zs kv lv) (hk:∀(e sz n:Nat) (u:Value) (xs:List Value),w.ownsRow lo e sz u n xs→e≠36→w'.ownsRow lo e sz u n xs):BW w' lo d cv tx qv nv ev zs kv lv:=
  ⟨hk _ _ _ _ _ h.ch qd,hk _ _ _ _ _ h.txs qd,⟨hk _ _ _ _ _ h.rq.row qd,h.rq.fil,fun i hi=>by obtain⟨ys,a,b⟩:=h.rq.code i hi;exact⟨ys,hk _ _ _ _ _ a qd,b⟩,fun i hi=>by obtain⟨ys,a,b⟩:=h.rq.look i hi;exact⟨ys,hk _ _ _ _ _ a qd,b⟩,h.rq.apc,h.rq.apl⟩,hk _ _ _ _ _ h.ran qd,hk _ _ _ _ _ h.held qd⟩
theorem BW.bl (h:BW w lo d cv tx qv nv ev zs kv lv) (hb:Bw w w'):BW w' lo d cv tx qv nv ev zs kv lv:=h.kept fun _ _ _ _ _ ho _=>Ac ho hb
theorem BW.setU {h0:Nat} {cs:Array Value} {l:List (Nat × Nat × Value)} (h:BW w lo d cv tx qv nv ev zs kv lv) (hh:∀ x∈l,x.1=h0) (hk:w.heap[h0]?=some (.cells cs 36 (0,0))):BW (Cf w l) lo d cv tx qv nv ev zs kv lv:=h.kept fun _ _ _ _ _ ho he=>Dw ho hh hk (fun e=>he e.symm)
theorem BW.slices (h:BW w lo d cv tx qv nv ev zs kv lv):(∃ a c,cv=.slice a d.ch.length c)∧(∃ a c,tx=.slice a d.T.length c)∧(∃ a c,qv=.slice a d.R.length c)∧(∃ a c,nv=.slice a d.ran.length c)∧∃ a c,ev=.slice a d.held.length c:=⟨Aw h.ch,Aw h.txs,Aw h.rq.row,Aw h.ran,Aw h.held⟩
theorem BW.view (h:BW w lo d cv tx qv nv ev zs kv lv):∃ ca cc ta tc qa qc na nc ea ec,BV w d (.agg (bV d cv tx qv nv ev)) ca cc ta tc qa qc na nc ea ec:=by
  obtain⟨ca,cc,e1,r1⟩:=Nd h.ch;obtain⟨ta,tc,e2,r2⟩:=Nd h.txs;obtain⟨qa,qc,e3,r3⟩:=h.rq.rowQ;obtain⟨na,nc,e4,r4⟩:=Nd h.ran;obtain⟨ea,ec,e5,r5⟩:=Nd h.held;exact⟨ca,cc,ta,tc,qa,qc,na,nc,ea,ec,by rw[e1,e2,e3,e4,e5],r1,r2,r3,r4,r5⟩
end
theorem Vn (n:Int) (tb tc:Nat) (qa sa ta:Option Addr) (qc c1 c2:Nat) (T:List By) (R:List T3) (ss:List S2) (ts:List T2) (nm:By) (w:World) (cz:Oq w (p_ tb) T qa R) (A4:Wh w qa R) (hr:R.length ≤ 1048576) (kj:∀ i,i<R.length→(qx R i).code.length ≤ 1048576∧(qx R i).looks.length ≤ 1048576) (zc:Ll w sa ss ta ts) (mr:Fb ss ts) (cr:nm.size<=9223372036854775807) :
    Calls prog 6 #[.agg #[I n,.slice (p_ tb) T.length tc,.slice qa R.length qc],.agg #[.slice sa ss.length c1,.slice ta ts.length c2],.string nm] w fun e w'=>Bw w w'∧∃ d cv tx qv nv ev zs kv lv,e=.returned (.agg (bV d cv tx qv nv ev))∧Mz n ss ts T R nm d∧BW w' w.heap.size d cv tx qv nv ev zs kv lv:=by
  by_cases hv:Kx n T R∧Hn ss ts=0∧Am nm
  · obtain⟨m,rfl⟩:=Int.eq_ofNat_of_zero_le (show 0<=n by have:=hv.1.1;omega)
    refine(Vm m tb qa sa ta tc qc c1 c2 T R ss ts nm w hv.1 hv.2.1 hv.2.2 cz A4 zc mr).mono ?_;rintro e w' ⟨hb,ms',s',a,bi,⟨d,tx,qv,nv,ev,rfl,rfl,hs,h3,h4⟩|⟨b,x,y,cv,tx,qv,A,B',rfl,h1,rfl,hs⟩⟩
    · obtain⟨zs,kv,lv,r⟩:=hs.rcs
      exact⟨hb,⟨d.c,d.t,[],m,s'.T,s'.R,s'.ran,s'.held,⟨#[]⟩,⟨#[]⟩⟩,_,_,_,_,_,zs,kv,lv,rfl,Or.inr ⟨hv,ms',s',_,bi,Or.inl ⟨d,rfl,rfl⟩⟩,Kt _ _,hs.txt,r,h3,h4⟩
    · obtain⟨rfl,rfl,ho,rfl,rfl⟩:=h1.says
      obtain⟨zs,kv,lv,r⟩:=hs.rcs;exact⟨hb,⟨Jq b,txF b,chF b,m,T,R,[],[],clA b,clB b⟩,_,_,_,_,_,zs,kv,lv,rfl,Or.inr ⟨hv,ms',s',_,bi,Or.inr ⟨b,rfl,rfl⟩⟩,ho,hs.txt,r,Kt _ _,Kt _ _⟩
  · refine(Yj n tb 0 tc qa sa ta qc c1 c2 T R ss ts nm w cz A4 hr kj zc mr cr hv).mono ?_
    rintro e w' ⟨hb,v,rfl,tx,qv,rfl,hs⟩;obtain⟨zs,kv,lv,r⟩:=hs.rcs;exact⟨hb,⟨9,⟨#[]⟩,[],n,T,R,[],[],⟨#[]⟩,⟨#[]⟩⟩,_,_,_,_,_,zs,kv,lv,rfl,Or.inl ⟨hv,rfl⟩,Kt _ _,hs.txt,r,Kt _ _,Kt _ _⟩
theorem Di.nocirc {T':List By} {xs:List By} {b:Option Gd} (h:Di n T xs T' b):∀ ch,b≠some (.circle ch):=by
  induction h<;>(first|(intro ch e;cases e;done)|(rename_i ih;exact ih))
theorem Fl.nocirc {is:List I3} {ls:List G3} {c:Int} {t:By} {b:Option Gd} (h:Fl n s is ls c t s' b):∀ ch,b≠some (.circle ch):=by
  cases h with
  | ok _ _=>intro ch e;cases e
  | recs _ _=>intro ch e;cases e
  | bad h=>intro ch e;exact h.nocirc ch e
theorem Bc.chainLen {ms:Mm} {st:List By} {j:BJ} {ms':Mm} {a:BA} (h:Bc ss ts n ms s st j ms' s' a):st.length ≤ 60→∀ ch,a=.bad (.circle ch)→ch.length ≤ 60:=by
  induction h with
  | circle h1 h2 h3 h4=>intro jn ch e;cases e;rw[List.length_drop];omega
  | fell h1 h2 h3 h4 h5 h6 h7 ih=>intro jn ch e;exact ih qh ch e
  | overbad h1 h2=>intro jn ch e;cases e;exact absurd rfl (h2.nocirc ch)
  | tfell _ ih=>intro jn ch e;exact ih jn ch e
  | rfell _ _ _ ih=>intro jn ch e;exact ih jn ch e
  | tother _ _ _ ih=>intro jn ch e;exact ih jn ch e
  | tno _ _ _ _ _ ih=>intro jn ch e;exact ih jn ch e
  | tbad _ _ _ ih=>intro jn ch e;exact ih jn ch e
  | hhas _ _ _ _ ih=>intro jn ch e;exact ih jn ch e
  | hask _ _ _ _ _ _ ih=>intro jn ch e;exact ih jn ch e
  | haskbad _ _ _ ih=>intro jn ch e;exact ih jn ch e
  | has _ _ ih=>intro jn ch e;exact ih jn ch e
  | asked _ _ _ _ ih=>intro jn ch e;exact ih jn ch e
  | askbad _ _ ih=>intro jn ch e;exact ih jn ch e
  | _=>intro jn ch e;cases e
theorem Mz.sm {n:Int} {d:BD} (h:Mz n ss ts T R nm d) (hv:Hn ss ts=0→SpV ss ts) (hl:ts.length ≤ 1048576) (hT:T.length ≤ 1048576) (hR:Ga R):d.Sm:=by
  rcases h with ⟨_,rfl⟩|⟨h0,ms,s,a,hb,⟨m,rfl,rfl⟩|⟨b,rfl,rfl⟩⟩
  · exact⟨Nat.zero_le _,hT,hR,Nat.zero_le _,Nat.zero_le _⟩
  · have Q5:=hv h0.2.1
    have ft:=h0.1.2.2;obtain⟨_,i2,_,_⟩:=Bc.inv Q5 hb (Fv.nil ss ts) ft h0.2.2 (fun b q=>qw);have hc:=Bc.cntM Q5 hb (Fv.nil ss ts) ft h0.2.2 (fun b q=>qw) rfl (Nat.zero_le _);have h4:=Mf ts ms [];unfold Ki at hc;simp only[List.length_nil,Nat.add_zero] at hc;refine⟨Nat.zero_le _,by have:=i2.1.1;show s.T.length ≤ _;omega,⟨by have:=i2.2.1;show s.R.length ≤ _;omega,fun i hi=>?_⟩,by show s.ran.length ≤ _;omega,by show s.held.length ≤ _;omega⟩;have h5:=i2.2.2 i hi;have h6:=(Ko h5.1).2;have h7:=h5.2.2.1;exact⟨by show (qx s.R i).code.length ≤ 1048576;omega,by show (qx s.R i).looks.length ≤ 1048576;omega⟩
  · refine⟨?_,hT,hR,Nat.zero_le _,Nat.zero_le _⟩
    cases b with
    | circle ch=>have:=hb.chainLen (Nat.zero_le _) ch rfl;show ch.length ≤ _;omega
    | deep _=>exact Nat.zero_le _
    | clash _ _=>exact Nat.zero_le _
    | full=>exact Nat.zero_le _
theorem Xx (sa ta:Option Addr) (c1 c2:Nat) (ss:List S2) (ts:List T2) (L:Int) (hL0:0 ≤ L) (hL1:L ≤ 1048576) (w:World) (h:Ll w sa ss ta ts) :
    Calls prog 5 #[.agg #[.slice sa ss.length c1,.slice ta ts.length c2],I L] w fun e w'=>Bw w w'/\∃ r:Int,e=.returned (I r)/\(r<0\/(Fb ss ts/\0<=r)):=by
  have ak:Bw w (w.alloc (.cells #[.slice sa ss.length c1,.slice ta ts.length c2] 29)):=aN _ _;have k0:(w.alloc (.cells #[.slice sa ss.length c1,.slice ta ts.length c2] 29)).cell? ⟨w.heap.size,1,none⟩=some (.slice ta ts.length c2):=qk;obtain⟨rs,rt,ls,lt,ns,xs,nt,lc,xt⟩:=h;go_enter func5,ntmps5;go_wp2_with fail;refine(szSS_any sa c1 ss L _ hL0 hL1 (rs.bl ak) ls ns xs).mono ?_;rintro e w1 ⟨af,r,rfl,hr⟩;have bg:=bt ak af;have k1:=Aa af k0
  rcases hr with hr|⟨h1,A6,lj⟩
  · clear ak af k0
    go_wp2;go_ret;exact⟨bg,-1,rfl,Or.inl qb⟩
  · clear ak af k0
    go_wp2_with fail;refine(szTS_any ta c2 ts r _ qb qb (rt.bl bg) lt nt lc xt).mono ?_;rintro e w2 ⟨ag,r2,rfl,mu⟩;have be:=bt bg ag;clear ag bg k1
    rcases mu with mu|⟨h2,mu,wf,h3⟩
    · exact qdi
    · go_wp2
      go_ret;exact⟨be,r2,rfl,Or.inr ⟨⟨qb,qb,h3⟩,qb⟩⟩
theorem Zq.xn {ra:Option Addr} {ts:List By} (h:Zq w ta ts ra rs) (i:Nat):(nx ts i).size ≤ maxLen:=by
  unfold nx;rw[gG]
  rcases Nat.lt_or_ge i ts.length with q|q
  · rw[Iu q];exact h.xt _ (List.getElem_mem q)
  · rw[List.getElem?_eq_none q];exact Nat.zero_le _
structure LawA (w0:World) (ta ra sa ua:Option Addr) (T:List By) (R:List T3) (ss:List S2) (tp:List T2) (nm:By):Prop where
  so:Zq w0 ta T ra R
  lt:T.length ≤ 1048576
  qs:Ga R
  sp:Ll w0 sa ss ua tp
  sm:Fb ss tp
  nm:nm.size ≤ 9223372036854775807
section
variable {w0:World} {ta ra sa ua:Option Addr} {T:List By} {R:List T3} {ss:List S2} {tp:List T2} {nm:By} {n:Int} {V:World} {lo hi lo' hi' g1 tc:Nat} {v2 u1 u2:Value}
theorem LawA.stIn (h:LawA w0 ta ra sa ua T R ss tp nm) {a:Option Addr} (o1:Dq V lo hi (.slice (p_ g1) T.length tc) T) (r:Lx V a R):Oq V (p_ g1) T a R:=by
  obtain⟨a',c',e,hs⟩:=o1.sl;cases e;exact⟨hs,h.lt,h.so.xn,r,h.so.ok,h.qs⟩
theorem Tc (h:LawA w0 ta ra sa ua T R ss tp nm) (o1:Dq V lo hi (.slice (p_ g1) T.length tc) T) (o2:Ip V lo hi v2 R) (s1:Hs V lo' hi' u1 ss) (s2:Ha V lo' hi' u2 tp) :
    Calls prog 6 #[.agg #[I n,.slice (p_ g1) T.length tc,v2],.agg #[u1,u2],.string nm] V fun e w'=>Bw V w'∧∃ d cv tx qv nv ev zs kv lv,e=.returned (.agg (bV d cv tx qv nv ev))∧Mz n ss tp T R nm d∧BW w' V.heap.size d cv tx qv nv ev zs kv lv:=by
  obtain⟨a2,p2,rfl,rz,rw_⟩:=o2.sl;obtain⟨a3,p3,rfl,r3⟩:=s1.sl;obtain⟨a4,p4,rfl,r4⟩:=s2.sl;exact Vn n g1 tc a2 a3 a4 p2 p3 p4 T R ss tp nm V (h.stIn o1 rz.row) rw_ h.qs.1 h.qs.2 (h.sp.move r3 r4) h.sm h.nm
theorem Pt (h:LawA w0 ta ra sa ua T R ss tp nm) (hT:Lr V) (hP:Mb V) (o1:Dq V lo hi (.slice (p_ g1) T.length tc) T) (o2:Ip V lo hi v2 R) (s1:Hs V lo' hi' u1 ss) (s2:Ha V lo' hi' u2 tp) :
    Calls prog 9 #[.agg #[I n,.slice (p_ g1) T.length tc,v2],.agg #[u1,u2],.string nm] V fun e w'=>Bw V w'∧∃ d cv tx qv nv ev zs kv lv,e=.returned (.agg (bV d cv tx qv nv ev))∧Mz n ss tp T R nm d∧BW w' V.heap.size d cv tx qv nv ev zs kv lv∧It [cv,tx,nv,ev]:=by
  obtain⟨a2,p2,rfl,rz,rw_⟩:=o2.sl;obtain⟨a3,p3,rfl,r3⟩:=s1.sl;obtain⟨a4,p4,rfl,r4⟩:=s2.sl;refine(Vw n g1 0 tc a2 a3 a4 p2 p3 p4 T R ss tp nm V ⟨hT,hP,h.stIn o1 rz.row,rz,h.qs.1,h.qs.2,h.sp.move r3 r4,h.sm,h.nm⟩).mono ?_;rintro e w' ⟨hb,v,rfl,hpo⟩;obtain⟨d,cv,tx,qv,nv,ev,zs,kv,lv,n9,hbo⟩:=hpo.bo;have he:=hbo.eq;subst he;exact⟨hb,d,cv,tx,qv,nv,ev,zs,kv,lv,rfl,n9,hbo.bw,hbo.ap⟩
theorem LawA.spv (h:LawA w0 ta ra sa ua T R ss tp nm):Hn ss tp=0→SpV ss tp:=fun e=>(Zn h.sp e).v
end
end Go.Proofs.YtfgoholldpeabaaGreatDoor
