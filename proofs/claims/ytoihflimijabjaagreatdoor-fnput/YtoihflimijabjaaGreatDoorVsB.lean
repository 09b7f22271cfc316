import Derived.Test.YtoihflimijabjaaGreatDoorBas
import Derived.Test.YtoihflimijabjaaGreatDoorVsH
namespace Go.Proofs.YtoihflimijabjaaGreatDoor
open Value renaming slice->J,string->S,bool->F
open Option renaming some->M,none->N
open Obj renaming cells->O
open Go renaming World->E
open Ending renaming returned->H
open _root_ renaming List->L,Nat->X
set_option maxHeartbeats 4000000
set_option maxRecDepth 100000
open _root_.Go.Proofs.Tryz Go.RowKit
set_option linter.unusedVariables false
set_option linter.unusedSimpArgs false
variable {w':E} {a:Option Addr} {rs:L T3} {n:X}
def Ap(n:X)(s:By):By:=⟨(Ho (Cd s.data.toList) n).toArray⟩
def Kv(n:X)(g:G3):Prop:=Ay g.name∧g.sum.size=n
def Gq(n:X)(r:T3):Prop:=Aq r.code=true∧r.out.size=n∧r.looks.length≤200∧∀i,i<r.looks.length→Kv n (gx r.looks i)
def Yd(n:X)(ts:L By):Prop:=ts.length≤5000∧(∀i,i<ts.length→(nx ts i).size≤2002)∧Fg (ts.map (Ap n))
def Gu(n:X)(ts:L By)(rs:L T3):Prop:=Yd n ts∧rs.length≤2000∧∀i,i<rs.length→Gq n (qx rs i)
theorem Gj(n:X)(ts:L By)(i:X)(h:i<ts.length):nx (ts.map (Ap n)) i=Ap n (nx ts i):=by
 unfold nx;exact qkh
theorem Sh{b:Bool}{P:Prop}(h:b=true↔P):(P∧b=true)∨(¬ P∧b=false):=by
 cases b
 ·exact Or.inr ⟨λp=>absurd (h.2 p) qi,rfl⟩
 ·exact Or.inl ⟨h.1 rfl,rfl⟩
structure Tg (w:E) (a:Option Addr) (is:L I3) (la:Option Addr) (gs:L G3):Prop where
 rc:Dl w a is
 rg:Kb w la gs
 lc:is.length≤1048576
 lg:gs.length≤1048576
 xc:∀i,(ix is i).text.size≤maxLen
 ng:∀i,(gx gs i).name.size≤maxLen
 sg:∀i,(gx gs i).sum.size≤maxLen
open Go.RowKit
set_option linter.unusedVariables false
open Go.RowKit
set_option linter.unusedVariables false
open Go.RowKit
set_option linter.unusedVariables false
theorem Qf(a la:Option Addr)(cap lc:X)(is:L I3)(gs:L G3)(out:By)(n:X)(w:E)(hT:Tf w)(h8:n≤8)(h:Tg w a is la gs)(ho:out.size≤maxLen):Calls prog 67 #[.agg #[J a is.length cap,J la gs.length lc,S out],I n] w λe w'=>Bw w w'∧∃b,e=H (F b)∧(b=true↔Gq n ⟨is,gs,out⟩):=by
 have ba:Bw w (w.alloc (O #[J a is.length cap,J la gs.length lc,S out] 56)):=aN _ _;have k1:(w.alloc (O #[J a is.length cap,J la gs.length lc,S out] 56)).cell? ⟨w.heap.size,1,N⟩=M (J la gs.length lc):=qr;have k2:(w.alloc (O #[J a is.length cap,J la gs.length lc,S out] 56)).cell? ⟨w.heap.size,2,N⟩=M (S out):=qr;unfold maxLen at ho;have hlg:=h.lg;have HRG:Hd (Kb w la gs):=h.rg;have HNG:Hd (∀i,(gx gs i).name.size≤maxLen):=h.ng;have B7:Hd (∀i,(gx gs i).sum.size≤maxLen):=h.sg;obtain⟨v,ev⟩:=Aj (Aq is);have EV:Hd (Aq is=v):=ev;go_enter func67,ntmps67;go_wp2_with fail;refine(Tc a cap is _ (hT.bl ba) (h.rc.bl ba) h.lc h.xc).mono ?_;rintro e w1 ⟨ah,rfl⟩;rw[ev];have db:=bt ba ah;have O0:=Aa ah k1;have S4:=Aa ah k2;clear ba ah k1 k2 h ev;cases v
 ·exact qkk
 ·by_cases h2:out.size=n
  ·have d2:((out.size:Int) != (n:Int))=false:=qj
   have H2:Hd (out.size=n):=h2;clear h2
   by_cases h3:200<gs.length
   ·exact qji
   ·have d3:decide ((200:Int)<(gs.length:Int))=false:=qj
    go_wp2
    go_loopw [27] (λi wr=>∃k:X,k≤gs.length∧i=I k∧Hd (∀i,i<k→Kv n (gx gs i))∧Bw w wr) (λi _=>gs.length-(intOf i).toNat)
    case atStart=>exact⟨0,Nat.zero_le _,rfl,(λi hi=>by omega:∀i,i<0→Kv n (gx gs i)),db⟩
    case round=>
     obtain⟨k,hk,rfl,HK,bu⟩:=hrel
     by_cases au:k<gs.length
     ·obtain⟨b,off,rfl,c1,c2,c3⟩:=(HRG.o.bl bu) k au
      have G7:=HNG.o k;have jb:=B7.o k;have HG1:Hd (Kv n (gx gs k)→∀i,i<k+1→Kv n (gx gs i)):=λhg=>Ds HK.o hg;have HG0:Hd (¬ Kv n (gx gs k)→¬ Gq n ⟨is,gs,out⟩):=λhg h=>hg (h.2.2.2 k au);generalize gx gs k=g at *;unfold maxLen at G7 jb;clear O0 S4
      by_cases g1:Ay g.name
      ·have e1:=Cr g1
       by_cases g2:g.sum.size=n
       ·have d4:((g.sum.size:Int) != (n:Int))=false:=qj
        have HO:Hd (∀i,i<k+1→Kv n (gx gs i)):=HG1.o ⟨g1,g2⟩;clear g2
        go_wp2_with (first|(go_at_call 83;refine(Mc g.name _ G7).mono ?_;rintro e w9 ⟨rfl,rfl⟩;rw[e1]))
        go_roundw
        case rel=>exact⟨k+1,qg,qp,HO.o,bu.alloc bu.size _⟩
        case measure=>simp[intOf];omega
       ·have d4:((g.sum.size:Int) != (n:Int))=true:=qj
        have HO:Hd (¬ Gq n ⟨is,gs,out⟩):=HG0.o (λh=>g2 h.2);clear g2;exact qjg
      ·have e1:=Cg g1
       have HO:Hd (¬ Gq n ⟨is,gs,out⟩):=HG0.o (λh=>g1 h.1);exact qjg
     ·have HO:Hd (Gq n ⟨is,gs,out⟩):=⟨EV.o,H2.o,by show gs.length≤200;omega,λi hi=>HK.o i (by simp only at hi;omega)⟩
      go_wp2;exact qew
  ·exact qju
open Go.RowKit
set_option linter.unusedVariables false
structure QsIn (w:E) (a:Option Addr) (rs:L T3):Prop where
 rq:Yf w a rs
 ok:QsOk rs
 sm:Od rs
theorem QsIn.bl{w:E}(h:QsIn w a rs)(hb:Bw w w'):QsIn w' a rs:=⟨h.rq.bl hb,h.ok,h.sm⟩
theorem Oj(a:Option Addr)(cap:X)(rs:L T3)(n:X)(w:E)(hT:Tf w)(h8:n≤8)(h:QsIn w a rs):Calls prog 44 #[J a rs.length cap,I n] w λe w'=>Bw w w'∧∃b,e=H (F b)∧(b=true↔rs.length≤2000∧∀i,i<rs.length→Gq n (qx rs i)):=by
 have hl:=h.sm.1;have HQ:Hd (QsIn w a rs):=h;have HT:Hd (Tf w):=hT;clear h hT
 by_cases h1:2000<rs.length
 ·have d1:decide ((2000:Int)<(rs.length:Int))=true:=qj
  go_enter func44,ntmps44;go_wp2;go_ret;exact⟨Below.refl _ _,false,rfl,Fh (λh=>qg)⟩
 ·have d1:decide ((2000:Int)<(rs.length:Int))=false:=qj
  go_enter func44,ntmps44;go_wp2
  go_loopw [12] (λi wr=>∃k:X,k≤rs.length∧i=I k∧Hd (∀i,i<k→Gq n (qx rs i))∧Bw w wr) (λi _=>rs.length-(intOf i).toNat)
  case atStart=>exact⟨0,Nat.zero_le _,rfl,(λi hi=>by omega:∀i,i<0→Gq n (qx rs i)),Below.refl _ _⟩
  case round=>
   obtain⟨k,hk,rfl,HK,bu⟩:=hrel
   by_cases au:k<rs.length
   ·have hq:=HQ.o.bl bu
    obtain⟨b,off,rfl,ca,cc,la,lc,c1,c2,c3,c4,c5⟩:=hq.rq k au;have un:Tg wr ca (qx rs k).code la (qx rs k).looks:=⟨c4,c5,(hq.sm.2 k au).1,(hq.sm.2 k au).2,hq.ok.xc k,hq.ok.ng k,hq.ok.sg k⟩;have hou:=hq.ok.so k;have HG1:Hd (Gq n (qx rs k)→∀i,i<k+1→Gq n (qx rs i)):=λhg=>Ds HK.o hg;have HG0:Hd (¬ Gq n (qx rs k)→¬ (rs.length≤2000∧∀i,i<rs.length→Gq n (qx rs i))):=λhg h=>hg (h.2 k au);clear hq c4 c5;generalize qx rs k=x at *;obtain⟨xc,xl,xo⟩:=x;simp only at *;have yg:Hd (Tg wr ca xc la xl):=un;clear un;have ba:Bw wr (wr.alloc (O #[J ca xc.length cc,J la xl.length lc,S xo] 56)):=aN _ _;have hin2:Tg (wr.alloc (O #[J ca xc.length cc,J la xl.length lc,S xo] 56)) ca xc la xl:=⟨yg.o.rc.bl ba,yg.o.rg.bl ba,yg.o.lc,yg.o.lg,yg.o.xc,yg.o.ng,yg.o.sg⟩;have zr:Hd (Tg (wr.alloc (O #[J ca xc.length cc,J la xl.length lc,S xo] 56)) ca xc la xl):=hin2;clear hin2;go_wp2_with fail;refine(Qf ca la cc lc xc xl xo n _ ((HT.o.bl bu).bl ba) h8 zr.o hou).mono ?_;rintro e w2 ⟨a9,b,rfl,hb⟩;have bp:=bt bu (bt ba a9)
    rcases Sh hb with⟨hg,rfl⟩|⟨hg,rfl⟩
    ·have HO:Hd (∀i,i<k+1→Gq n (qx rs i)):=HG1.o hg
     clear hb hg ba a9;go_wp2;go_roundw
     case rel=>exact⟨k+1,qg,qp,HO.o,bp⟩
     case measure=>simp[intOf];omega
    ·have HO:Hd (¬ (rs.length≤2000∧∀i,i<rs.length→Gq n (qx rs i))):=HG0.o hg
     clear hb hg ba a9;go_wp2;go_ret;exact⟨bp,false,rfl,Fh HO.o⟩
   ·go_wp2
    go_ret;exact⟨bu,true,rfl,Lx ⟨qg,λi hi=>HK.o i qg⟩⟩
theorem Wf{w:E}{B cap:X}{ss:L By}(hn:n=ss.length)(h:w.ownsRow B 9 1 (J a n cap) n (ss.map .string)):Cs w a ss:=by
 subst hn;intro i hi
 rcases h.2 with⟨hv,h0⟩|⟨g,ai,cur,hv,_⟩
 ·omega
 ·simp only[Value.slice.injEq]at hv
  obtain⟨rfl,_,_⟩:=hv;refine⟨g,0,rfl,?_⟩;rw[Nat.zero_add,h.cellAt i qg,List.getElem?_map,gQ hi,gG,gQ hi];rfl
theorem Yr(a:Option Addr)(cap:X)(ts:L By)(n:X)(w:E)(h1:1≤n)(h8:n≤8)(hc:Cs w a ts)(hl:ts.length≤1048576)(hs:∀i,i<ts.length→(nx ts i).size≤2002):Calls prog 45 #[J a ts.length cap,I n] w λe w'=>Bw w w'∧∃g:X,e=H (J (p_ g) ts.length ts.length)∧w.heap.size≤g∧w'.ownsRow w.heap.size 9 1 (J (p_ g) ts.length ts.length) ts.length ((ts.map (Ap n)).map .string):=by
 have HC:Hd (Cs w a ts):=hc;have HS:Hd (∀i,i<ts.length→(nx ts i).size≤2002):=hs;clear hc hs;obtain⟨i0,hi,bm,bg,bi⟩:=info_parts Tryz.info9;obtain⟨ss,ess⟩:=Aj (ts.map (Ap n));have jy:Hd (ss.length=ts.length):=by show ss.length=ts.length;rw[←ess,List.length_map]
 have M2:Hd (∀i,i<ts.length→nx ss i=Ap n (nx ts i)):=λi h=>by rw[←ess];exact Gj n ts i h
 rw[ess];clear ess;go_enter func45,ntmps45
 go_wp2_with (first|(at_make;refine wpList_make_full _ rfl (.tmp 9) (.tmp 9) 23 rfl w.heap.size 9 i0 (S ByteArray.empty) 1 underlying23 hi bm bg .i64 .i64 _ _ ts.length rfl rfl rfl rfl (by rw[bi];omega) qn (Nat.le_refl _) ?_;intro w1 ak ae))
 rw[Ve]at ak;have hbel1:Bw w w1:=(Below.refl _ _).grown ae (Nat.le_refl _) qi;clear ae
 go_loopw [13] (λi wr=>∃k:X,k≤ts.length∧i=I k∧Hd (wr.ownsRow w.heap.size 9 1 (J (p_ w.heap.size) ts.length ts.length) ts.length (Fi ss k ss.length))∧Bw w wr) (λi _=>ts.length-(intOf i).toNat)
 case atStart=>exact⟨0,Nat.zero_le _,rfl,by show World.ownsRow _ _ _ _ _ _ _;rw[jy.o];simpa [Fi] using ak,hbel1⟩
 case round=>
  obtain⟨k,hk,rfl,HO,bu⟩:=hrel
  by_cases au:k<ts.length
  ·obtain⟨b,off,rfl,c1⟩:=(HC.o.bl bu) k au
   replace c1:wr.cell? ⟨b,off+k,N⟩=M (S (nx ts k)):=c1;have jb:=HS.o k au;have HX:Hd (nx ss k=Ap n (nx ts k)):=M2.o k au;generalize nx ts k=x at *;have I8:x.size≤1048576:=qg;go_wp2_with fail;refine(Lm x n _ I8 h1 h8).mono ?_;rintro e w2 ⟨rfl,a9⟩;obtain⟨q,eq⟩:=Aj ((⟨(Ho (Cd x.data.toList) n).toArray⟩:By));rw[eq];(have HQ:Hd (ss.getD k ByteArray.empty=q):=by show ss.getD k ByteArray.empty=q;have:=HX.o;unfold nx at this;rw[this,←eq];rfl);have ak:=Ae HO.o a9;have bp:=bt bu a9;have hks:k<ss.length:=zo jy.o;have du:=ak.stored k (S (ss.getD k ByteArray.empty));rw[Qar ss k hks,HQ.o]at du;have cu:=ak.frozenAt k
   have hce:w2.cell? ⟨w.heap.size,k,N⟩=M ((Fi ss k ss.length)[k]'(by rw[Mh ss k qg];exact hks)):=by
    rw[ak.cellAt k qg];exact gQ _
   generalize (Fi ss k ss.length)[k]'(by rw[Mh ss k qg];exact hks)=old at hce;have hbel2:Bw w (w2.setCell ⟨w.heap.size,k,N⟩ (S q)):=bp.setCell (Nat.le_refl _) _;have gu:Hd ((w2.setCell ⟨w.heap.size,k,N⟩ (S q)).ownsRow w.heap.size 9 1 (J (p_ w.heap.size) ts.length ts.length) ts.length (Fi ss (k+1) ss.length)):=du.1;clear ak bu a9 du c1 eq;go_wp2;go_roundw
   case rel=>exact⟨k+1,qg,qp,gu.o,hbel2⟩
   case measure=>simp[intOf];omega
  ·obtain rfl:k=ts.length:=qg
   have lp:Hd (wr.ownsRow w.heap.size 9 1 (J (p_ w.heap.size) ts.length ts.length) ts.length (ss.map .string)):=by
    have:=HO.o;(have e:Fi ss ts.length ss.length=ss.map .string:=by rw[←jy.o];simp[Fi]);rw[e]at this;exact this
   go_wp2_with fail;go_ret;exact⟨bu,_,rfl,Nat.le_refl _,lp.o⟩
theorem Qu(a:Option Addr)(cap:X)(ts:L By)(w:E)(hc:Cs w a ts)(hl:ts.length≤1048576)(hs:∀i,(nx ts i).size≤maxLen):Calls prog 43 #[J a ts.length cap] w λe w'=>Bw w w'∧∃b,e=H (F b)∧(b=true↔ts.length≤5000∧∀i,i<ts.length→(nx ts i).size≤2002):=by
 have HC:Hd (Cs w a ts):=hc;have HS:Hd (∀i,(nx ts i).size≤maxLen):=hs;clear hc hs
 by_cases h2:5000<ts.length
 ·have d1:decide ((5000:Int)<(ts.length:Int))=true:=qj
  go_enter func43,ntmps43;go_wp2;go_ret;exact⟨Below.refl _ _,false,rfl,Fh (λh=>by have:=h.1;omega)⟩
 ·have d1:decide ((5000:Int)<(ts.length:Int))=false:=qj
  go_enter func43,ntmps43;go_wp2
  go_loopw [10] (λi wr=>∃(k:X),k≤ts.length∧i=I k∧Hd (∀i,i<k→(nx ts i).size≤2002)∧Bw w wr) (λi _=>ts.length-(intOf i).toNat)
  case atStart=>exact⟨0,Nat.zero_le _,rfl,(λi hi=>by omega:∀i,i<0→(nx ts i).size≤2002),Below.refl _ _⟩
  case round=>
   obtain⟨k,hk,rfl,HK,bu⟩:=hrel
   by_cases au:k<ts.length
   ·obtain⟨b,off,rfl,c1⟩:=(HC.o.bl bu) k au
    replace c1:wr.cell? ⟨b,off+k,N⟩=M (S (nx ts k)):=c1;have jb:=HS.o k
    by_cases h3:2002<(nx ts k).size
    ·have HN:Hd (¬ (ts.length≤5000∧∀i,i<ts.length→(nx ts i).size≤2002)):=λh=>by have:=h.2 k au;omega
     exact qje
    ·have iq:Hd (∀i,i<k+1→(nx ts i).size≤2002):=Ds HK.o qg
     generalize nx ts k=x at *;have d3:decide ((2002:Int)<(x.size:Int))=false:=qj;unfold maxLen at jb;go_wp2_with fail;go_roundw
     case rel=>exact⟨k+1,qg,qp,iq.o,bu⟩
     case measure=>simp[intOf];omega
   ·have M3:Hd (ts.length≤5000∧∀i,i<ts.length→(nx ts i).size≤2002):=⟨qg,λi hi=>HK.o i qg⟩
    go_wp2_with fail;go_ret;exact⟨bu,true,rfl,Lx M3.o⟩
structure Jy (w:E) (ta:Option Addr) (ts:L By) (ra:Option Addr) (rs:L T3):Prop where
 st:Cs w ta ts
 lt:ts.length≤1048576
 xt:∀i,(nx ts i).size≤maxLen
 qs:QsIn w ra rs
theorem Jy.bl{w:E}{ta ra:Option Addr}{ts:L By}(h:Jy w ta ts ra rs)(hb:Bw w w'):Jy w' ta ts ra rs:=⟨h.st.bl hb,h.lt,h.xt,h.qs.bl hb⟩
def Cz(n:Int)(ts:L By)(rs:L T3):Prop:=1≤n∧n≤8∧Gu n.toNat ts rs
theorem own_low{w:E}{base base' e size:X}{v:Value}{xs:L Value}(h:w.ownsRow base e size v n xs)(hb:base'≤base):w.ownsRow base' e size v n xs:=by
 refine⟨h.1,?_⟩
 rcases h.2 with h2|⟨g,cap,cur,hv,hg,r⟩
 ·exact Or.inl h2
 ·exact Or.inr ⟨g,cap,cur,hv,Nat.le_trans hb hg,r⟩
theorem Xq(w:E)(o:Obj):(w.alloc o).heap[w.heap.size]?=M o:=qct
theorem alB(w:E)(o:Obj):Bw w (w.alloc o):=aN _ _
def Ee(w:E)(g:X)(n:Int)(ta ra:Option Addr)(tl tc rl rc:X)(sv:Value):Prop:=w.heap[g]?=M (O #[I n,J ta tl tc,J ra rl rc,sv] 62 (0,0))
theorem Me(n:Int)(ta ra:Option Addr)(tc rc:X)(ts:L By)(rs:L T3)(w:E)(hT:Tf w)(h:Jy w ta ts ra rs):Calls prog 26 #[.agg #[I n,J ta ts.length tc,J ra rs.length rc]] w λe w'=>Bw w w'∧((¬ Cz n ts rs∧∃v,e=H (.tuple #[v,F false]))∨(Cz n ts rs∧∃g sg,e=H (.tuple #[.pointer (p_ g),F true])∧Ee w' g n ta ra ts.length tc rs.length rc (J (p_ sg) ts.length ts.length)∧Cs w' (p_ sg) (ts.map (Ap n.toNat))∧w.heap.size≤g∧w'.ownsRow w.heap.size 9 1 (J (p_ sg) ts.length ts.length) ts.length ((ts.map (Ap n.toNat)).map .string))):=by
 have ba:Bw w (w.alloc (O #[I n,J ta ts.length tc,J ra rs.length rc] 26)):=aN _ _;have k0:(w.alloc (O #[I n,J ta ts.length tc,J ra rs.length rc] 26)).cell? ⟨w.heap.size,0,N⟩=M (I n):=qr;have k1:(w.alloc (O #[I n,J ta ts.length tc,J ra rs.length rc] 26)).cell? ⟨w.heap.size,1,N⟩=M (J ta ts.length tc):=qr;have k2:(w.alloc (O #[I n,J ta ts.length tc,J ra rs.length rc] 26)).cell? ⟨w.heap.size,2,N⟩=M (J ra rs.length rc):=qr;have HI:Hd (Jy w ta ts ra rs):=h;have HT:Hd (Tf w):=hT;clear h hT
 by_cases hn:1≤n∧n≤8
 ·obtain⟨m,rfl⟩:=Int.eq_ofNat_of_zero_le (show 0≤n from qg)
  have h1:1≤m:=qg;have h8:m≤8:=qg;have HN:Hd (1≤(m:Int)∧(m:Int)≤8):=hn;clear hn;go_enter func26,ntmps26
  go_wp2_with (first|(go_at_call 28;refine(Kw _ _ qg qg).mono ?_;rintro e w9 ⟨rfl,rfl⟩))
  refine(Qu ta tc ts _ (HI.o.st.bl ba) HI.o.lt HI.o.xt).mono ?_;rintro e w1 ⟨ah,b,rfl,hb⟩;have db:=bt ba ah;have I6:=Aa ah k0;have O0:=Aa ah k1;have S4:=Aa ah k2
  rcases Sh hb with⟨hg,rfl⟩|⟨hg,rfl⟩
  ·have HG:Hd (ts.length≤5000∧∀i,i<ts.length→(nx ts i).size≤2002):=hg
   clear hb hg ba ah k0 k1 k2;go_wp2_with fail;refine(Oj ra rc rs m _ (HT.o.bl db) h8 (HI.o.qs.bl db)).mono ?_;rintro e w2 ⟨a9,b,rfl,hb⟩;have bp:=bt db a9;have k20:=Aa a9 I6;have k21:=Aa a9 O0;have k22:=Aa a9 S4
   rcases Sh hb with⟨hg,rfl⟩|⟨hg,rfl⟩
   ·have HR:Hd (rs.length≤2000∧∀i,i<rs.length→Gq m (qx rs i)):=hg
    have HSU:Hd (∀W:E,Bw w W→Calls prog 45 #[J ta ts.length tc,I m] W λe w'=>Bw W w'∧∃g:X,e=H (J (p_ g) ts.length ts.length)∧W.heap.size≤g∧w'.ownsRow W.heap.size 9 1 (J (p_ g) ts.length ts.length) ts.length ((ts.map (Ap m)).map .string)):=λW hW=>Yr ta tc ts m W h1 h8 (HI.o.st.bl hW) HI.o.lt HG.o.2;clear hb hg a9 db I6 O0 S4;go_wp2_with fail;have zc:Bw w2 w2.drew:=(Below.refl _ _).drew
    go_region_held3 (λw'=>w'.cell? ⟨w.heap.size,0,N⟩=M (I m)∧w'.cell? ⟨w.heap.size,1,N⟩=M (J ta ts.length tc)∧w'.cell? ⟨w.heap.size,2,N⟩=M (J ra rs.length rc))
     (first|exact⟨k20,k21,k22⟩|(with_reducible exact⟨s0,s1,s2⟩)|exact⟨Aa (alB _ _) s0,Aa (alB _ _) s1,Aa (alB _ _) s2⟩)
     (first|(go_at_call 45;refine(HSU.o _ bp.drew).mono ?_;rintro e w3 ⟨bh,sg,rfl,hsg,T9⟩;have s0:=Aa (bt zc bh) k20;have s1:=Aa (bt zc bh) k21;have s2:=Aa (bt zc bh) k22))
    go_wp2_with fail;obtain⟨w4,e4⟩:=Aj (w3.alloc (O #[I m,J ta ts.length tc,J ra rs.length rc,J (p_ sg) ts.length ts.length] 62));(have bx:Bw w3 w4:=by rw[←e4];exact alB _ _);(have te:Hd (Ee w4 w3.heap.size m ta ra ts.length tc rs.length rc (J (p_ sg) ts.length ts.length)):=by show Ee _ _ _ _ _ _ _ _ _ _;rw[←e4];unfold Ee;exact Xq _ _);have gu:Hd (Cs w4 (p_ sg) (ts.map (Ap m))):=(Wf (by rw[List.length_map]) T9).bl bx;have i7:Bw w w4:=bt (bt (bt bp zc) bh) bx
    have rz:Hd (∀W:E,Cs W (p_ sg) (ts.map (Ap m))→Calls prog 46 #[J (p_ sg) ts.length ts.length] W λe w'=>Bw W w'∧∃b,e=H (F b)∧(b=true↔Fg (ts.map (Ap m)))):=λW hW=>by
     have:=Te (p_ sg) ts.length (ts.map (Ap m)) W hW (by rw[List.length_map];exact HI.o.lt);rw[List.length_map]at this;exact this
    have HOW4:Hd (w4.ownsRow w.heap.size 9 1 (J (p_ sg) ts.length ts.length) ts.length ((ts.map (Ap m)).map .string)):=Ae (own_low T9 (bt bp zc).size) bx;have HG3:Hd (w.heap.size≤w3.heap.size):=(bt (bt bp zc) bh).size;rw[e4];clear e4 bx T9 bh zc hsg;refine(rz.o _ gu.o).mono ?_;rintro e w5 ⟨cw,b,rfl,hb⟩;have mj:=bt i7 cw
    have HSH5:Hd (Ee w5 w3.heap.size m ta ra ts.length tc rs.length rc (J (p_ sg) ts.length ts.length)):=by
     have h4:=te.o;unfold Ee at h4;show _=_;rw[cw.block _ (by rcases Nat.lt_or_ge w3.heap.size w4.heap.size with h'|h';(focus exact h');rw[Array.getElem?_eq_none h']at h4;cases h4)];exact h4
    rcases Sh hb with⟨hg,rfl⟩|⟨hg,rfl⟩
    ·have HW:Hd (Cz m ts rs):=⟨HN.o.1,HN.o.2,⟨HG.o.1,HG.o.2,hg⟩,HR.o⟩
     clear hb hg;go_wp2_with fail;exact bR (results_tmp2 rfl _ _ _) rfl ⟨mj,Or.inr ⟨HW.o,_,sg,rfl,HSH5.o,gu.o.bl cw,HG3.o,Ae HOW4.o cw⟩⟩
    ·have zq:Hd (¬ Cz m ts rs):=λh=>hg h.2.2.1.2.2
     clear hb hg;go_wp2_with fail;exact bR (results_tmp2 rfl _ _ _) rfl ⟨mj,Or.inl ⟨zq.o,_,rfl⟩⟩
   ·have zq:Hd (¬ Cz m ts rs):=λh=>hg h.2.2.2
    clear hb hg;go_wp2_with fail;exact bR (results_tmp2 rfl _ _ _) rfl ⟨bp,Or.inl ⟨zq.o,_,rfl⟩⟩
  ·have zq:Hd (¬ Cz m ts rs):=λh=>hg ⟨h.2.2.1.1,h.2.2.1.2.1⟩
   clear hb hg;go_wp2_with fail;exact bR (results_tmp2 rfl _ _ _) rfl ⟨db,Or.inl ⟨zq.o,_,rfl⟩⟩
 ·have hn':n<1∨8<n:=qg
  have HN:Hd (¬ Cz n ts rs):=λh=>hn ⟨h.1,h.2.1⟩;clear hn;go_enter func26,ntmps26
  go_wp2_with (first|(go_at_call 28;refine(Su _ _ hn').mono ?_;rintro e w9 ⟨rfl,rfl⟩))
  exact bR (results_tmp2 rfl _ _ _) rfl ⟨ba,Or.inl ⟨HN.o,_,rfl⟩⟩
end Go.Proofs.YtoihflimijabjaaGreatDoor
