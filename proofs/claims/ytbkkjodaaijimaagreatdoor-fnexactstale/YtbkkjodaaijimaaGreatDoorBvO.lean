import Derived.Test.YtbkkjodaaijimaaGreatDoorBsY
import Derived.Test.YtbkkjodaaijimaaGreatDoorBuI
namespace Go.Proofs.YtbkkjodaaijimaaGreatDoor
open _root_.Go.Proofs.Tryz Go.RowKit Go.Deep Go.ChangeShapes Go.WideShapes Go.ChangeAt
open Value renaming slice->J,string->S,bool->F,agg->G
open Option renaming some->M,none->N
open Obj renaming cells->O
open Go renaming Value->Z,World->E
open Ending renaming returned->H
open _root_ renaming List->L,Nat->X
set_option linter.unusedVariables false
set_option linter.unusedSimpArgs false
set_option maxHeartbeats 32000000
set_option maxRecDepth 100000
variable {fuel b0:X} {cs:L Z} {r:Reach} {p:L MemPlace}
theorem Ty(g:G3)(n:X)(w:E)(h8:n<=8)(hn:g.name.size<=maxLen)(hs:g.sum.size<=maxLen):Calls prog 82 #[G #[S g.name,F g.ask,S g.sum],I n] w λe w'=>Bw w w'/\∃b,e=H (F b)/\(b=true↔Ml n g):=by
 unfold maxLen at hn hs;have ak:Bw w (w.alloc (O #[S g.name,F g.ask,S g.sum] 145)):=aN _ _
 by_cases h1:Ar g.name
 ·have e1:=Cs h1
  by_cases h2:g.sum.size=n
  ·have d2:((g.sum.size:Int) == (n:Int))=true:=qh
   have HH:Hd (Ml n g):=⟨h1,h2⟩;clear h2;go_enter func82,ntmps82
   go_wp2_with (first|(go_at_call 41;refine(Ca g.name _ hn).mono ?_;rintro e w9 ⟨rfl,rfl⟩;rw[e1]))
   go_ret;exact⟨ak,true,rfl,Gi HH.o⟩
  ·have d2:((g.sum.size:Int) == (n:Int))=false:=qh
   have HH:Hd (¬ Ml n g):=λh=>h2 h.2;clear h2;exact qix
 ·have e1:=Cn h1
  have HH:Hd (¬ Ml n g):=λh=>h1 h.1;exact qix
theorem Tx(a la:Option Addr)(cap lc:X)(is:L I3)(gs:L G3)(out:By)(n:X)(w:E)(h8:n<=8)(h:Wd w a is la gs)(ho:out.size<=maxLen):Calls prog 59 #[G #[J a is.length cap,J la gs.length lc,S out],I n] w λe w'=>Bw w w'/\∃b,e=H (F b)/\(b=true↔Hk n ⟨is,gs,out⟩):=by
 have ak:Bw w (w.alloc (O #[J a is.length cap,J la gs.length lc,S out] 94)):=aN _ _;have k1:(w.alloc (O #[J a is.length cap,J la gs.length lc,S out] 94)).cell? ⟨w.heap.size,1,N⟩=M (J la gs.length lc):=qk;have k2:(w.alloc (O #[J a is.length cap,J la gs.length lc,S out] 94)).cell? ⟨w.heap.size,2,N⟩=M (S out):=qk;unfold maxLen at ho;have hlg:=h.lg;have HRG:Hd (Fr w la gs):=h.rg;have HNG:Hd (∀i,(gx gs i).name.size<=maxLen):=h.ng;have uw:Hd (∀i,(gx gs i).sum.size<=maxLen):=h.sg;obtain⟨v,ev⟩:=Aj (Au is);have EV:Hd (Au is=v):=ev;go_enter func59,ntmps59;go_wp2_with fail;refine(Ih a cap is _ (h.rc.bl ak) h.lc h.xc).mono ?_;rintro e w1 ⟨af,rfl⟩;rw[ev];have bh:=bt ak af;have L5:=Aa af k1;have L4:=Aa af k2;clear ak af k1 k2 h ev;cases v
 ·exact qle
 ·by_cases h2:out.size=n
  ·have d2:((out.size:Int) != (n:Int))=false:=qh
   have H2:Hd (out.size=n):=h2;clear h2
   by_cases h3:200<gs.length
   ·exact qjg
   ·have d3:decide ((200:Int)<(gs.length:Int))=false:=qh
    go_wp2
    go_loopw [5] (λi wr=>∃k:X,k<=gs.length/\i=I k/\Hd (∀i,i<k->Ml n (gx gs i))/\wr.cell? ⟨w.heap.size,1,N⟩=M (J la gs.length lc)/\Bw w wr) (λi _=>gs.length-(intOf i).toNat)
    case atStart=>exact⟨0,Nat.zero_le _,rfl,(λi hi=>by omega:∀i,i<0->Ml n (gx gs i)),L5,bh⟩
    case round=>
     obtain⟨k,hk,rfl,HK,hx,bc⟩:=hrel
     by_cases aj:k<gs.length
     ·obtain⟨b,off,rfl,c1,c2,c3⟩:=(HRG.o.bl bc) k aj
      have M4:=HNG.o k;have fx:=uw.o k;have HG1:Hd (Ml n (gx gs k)->∀i,i<k+1->Ml n (gx gs i)):=λhg=>Co HK.o hg;have P0:Hd (¬ Ml n (gx gs k)->¬ Hk n ⟨is,gs,out⟩):=λhg h=>hg (h.2.2.2 k aj);generalize gx gs k=g at *;clear L5 L4;go_wp2_with fail;refine(Ty g n _ h8 M4 fx).mono ?_;rintro e w2 ⟨ag,b,rfl,hb⟩;have hx2:=Aa ag hx
      rcases Uj hb with⟨hg,rfl⟩|⟨hg,rfl⟩
      ·have HO:Hd (∀i,i<k+1->Ml n (gx gs i)):=HG1.o hg
       clear hb hg;go_wp2;go_roundw
       case rel=>exact⟨k+1,qb,qj,HO.o,hx2,bt bc ag⟩
       case measure=>simp[intOf];omega
      ·have HO:Hd (¬ Hk n ⟨is,gs,out⟩):=P0.o hg
       clear hb hg;go_wp2;go_ret;exact⟨bt bc ag,false,rfl,Ea HO.o⟩
     ·have HO:Hd (Hk n ⟨is,gs,out⟩):=⟨EV.o,H2.o,by show gs.length<=200;omega,λi hi=>HK.o i (by simp only at hi;omega)⟩
      go_wp2;exact qfj
  ·exact qkd
theorem asc_step{l:L By}{k:X}(h:∀j,1<=j->j<k->Ap (nx l (j-1)) (nx l j)=true)(hk:k=0\/Ap (nx l (k-1)) (nx l k)=true):∀j,1<=j->j<k+1->Ap (nx l (j-1)) (nx l j)=true:=by
 intro j h1 h2
 rcases Nat.lt_or_ge j k with h3|h3
 ·exact h j h1 h3
 ·obtain rfl:j=k:=qb
  rcases hk with hk|hk
  ·omega
  ·exact hk
theorem Pb(n:Int)(ta ra:Option Addr)(tc rc:X)(ts:L By)(rs:L T3)(w:E)(hl:ts.length<=1048576)(V7:rs.length<=1048576)(hn:¬ (1<=n/\n<=8)\/5000<ts.length\/2000<rs.length):Calls prog 39 #[G #[I n,J ta ts.length tc,J ra rs.length rc]] w λe w'=>Bw w w'/\e=H (F false):=by
 have ak:Bw w (w.alloc (O #[I n,J ta ts.length tc,J ra rs.length rc] 35)):=aN _ _
 by_cases h1:1<=n/\n<=8
 ·by_cases h2:5000<ts.length
  ·have d1:decide ((5000:Int)<(ts.length:Int))=true:=qh
   exact qjf
  ·have d1:decide ((5000:Int)<(ts.length:Int))=false:=qh
   have d2:decide ((2000:Int)<(rs.length:Int))=true:=qh;exact qjf
 ·have hn':n<1\/8<n:=qb
  go_enter func39,ntmps39
  go_wp2_with (first|(go_at_call 57;refine(l1Width_no _ _ hn').mono ?_;rintro e w9 ⟨rfl,rfl⟩))
  go_ret;exact⟨ak,rfl⟩
theorem Oj(n:X)(ta ra:Option Addr)(tc rc:X)(ts:L By)(rs:L T3)(w:E)(h1:1<=n)(h8:n<=8)(hl5:ts.length<=5000)(V7:rs.length<=2000)(h:Nm w ta ts ra rs):Calls prog 39 #[G #[I n,J ta ts.length tc,J ra rs.length rc]] w λe w'=>Bw w w'/\∃b,e=H (F b)/\(b=true↔Jy n ts rs):=by
 have ak:Bw w (w.alloc (O #[I n,J ta ts.length tc,J ra rs.length rc] 35)):=aN _ _;have x0:(w.alloc (O #[I n,J ta ts.length tc,J ra rs.length rc] 35)).cell? ⟨w.heap.size,0,N⟩=M (I n):=qk;have x1:(w.alloc (O #[I n,J ta ts.length tc,J ra rs.length rc] 35)).cell? ⟨w.heap.size,1,N⟩=M (J ta ts.length tc):=qk;have x2:(w.alloc (O #[I n,J ta ts.length tc,J ra rs.length rc] 35)).cell? ⟨w.heap.size,2,N⟩=M (J ra rs.length rc):=qk;have HI:Hd (Nm w ta ts ra rs):=h;obtain⟨ss,ess⟩:=Aj (ts.map (Av n));have ou:Hd (ss.length=ts.length):=by show ss.length=ts.length;rw[<- ess,List.length_map]
 have od:Hd (∀i,i<ts.length->nx ss i=Av n (nx ts i)):=λi h=>by rw[<- ess];exact Hb n ts i h
 have HAS:Hd (Fs ss↔Fs (ts.map (Av n))):=by show Fs ss↔_;rw[ess]
 have d1:decide ((5000:Int)<(ts.length:Int))=false:=qh;have d2:decide ((2000:Int)<(rs.length:Int))=false:=qh;clear h ess;go_enter func39,ntmps39
 go_wp2_with (first|(go_at_call 57;refine(Kk _ _ qb qb).mono ?_;rintro e w9 ⟨rfl,rfl⟩))
 go_loopw [3,4] (λv i wr=>∃(k:X)(bf:By),k<=ts.length/\i=I k/\v=S bf/\Hd (k=0\/bf=nx ss (k-1))/\Hd (∀i,i<k->(nx ts i).size<=2002)/\Hd (∀j,1<=j->j<k->Ap (nx ss (j-1)) (nx ss j)=true)/\wr.cell? ⟨w.heap.size,0,N⟩=M (I n)/\wr.cell? ⟨w.heap.size,1,N⟩=M (J ta ts.length tc)/\wr.cell? ⟨w.heap.size,2,N⟩=M (J ra rs.length rc)/\Bw w wr) (λ_ i _=>ts.length-(intOf i).toNat)
 case atStart=>exact⟨0,⟨#[]⟩,Nat.zero_le _,rfl,rfl,Or.inl rfl,(λi hi=>by omega:∀i,i<0->(nx ts i).size<=2002),(λj h1 h2=>by omega:∀j,1<=j->j<0->Ap (nx ss (j-1)) (nx ss j)=true),x0,x1,x2,ak⟩
 case round=>
  obtain⟨k,bf,hk,rfl,rfl,HBF,HK,HA,y0,y1,y2,bc⟩:=hrel;clear x0 x1 x2 ak;have bu:Bw wr wr.drew:=(Below.refl _ _).drew
  by_cases aj:k<ts.length
  ·obtain⟨b,off,rfl,c1⟩:=(HI.o.st.bl bc) k aj
   replace c1:wr.cell? ⟨b,off+k,N⟩=M (S (nx ts k)):=c1;have fx:=HI.o.xt k;have HX:Hd (nx ss k=Av n (nx ts k)):=od.o k aj;have io:(k:Int)<(ts.length:Int):=qb;have iy:(0:Int)<=(k:Int):=qb
   by_cases h3:2002<(nx ts k).size
   ·have HN:Hd (¬ Jy n ts rs):=λh=>by have:=h.1.2.1 k aj;omega
    exact qjb
   ·have du:Hd (∀i,i<k+1->(nx ts i).size<=2002):=Co HK.o qb
    generalize nx ts k=x at *;have d3:decide ((2002:Int)<(x.size:Int))=false:=qh;have hx0:x.size<=1048576:=qb;unfold maxLen at fx;obtain⟨q,eq⟩:=Aj (Av n x);have oq:Hd (∀W:E,Calls prog 58 #[S x,I n] W λe w'=>e=H (S q)/\Bw W w'):=λW=>qgd;(have HQ:Hd (nx ss k=q):=by show nx ss k=q;rw[HX.o,eq]);clear eq;go_wp2_with fail
    go_region_held3 (λw'=>(w'.cell? ⟨w.heap.size,0,N⟩=M (I n)/\w'.cell? ⟨w.heap.size,1,N⟩=M (J (M ⟨b,off,N⟩) ts.length tc)/\w'.cell? ⟨w.heap.size,2,N⟩=M (J ra rs.length rc))/\w'.cell? ⟨b,off+k,N⟩=M (S x))
     (first|assumption|(simp[*];done)|exact⟨⟨Aa ag qt,Aa ag qt,Aa ag qt⟩,Aa ag qt⟩)
     (first|(go_at_call 58;refine(oq.o _).mono ?_;rintro e w2 ⟨rfl,ag⟩))
    all_goals
     have z0:=Aa ag (Aa bu y0);have z1:=Aa ag (Aa bu y1);have z2:=Aa ag (Aa bu y2);have be:=bt bc (bt bu ag);clear y0 y1 y2 c1
     by_cases cq:k=0
     ·have dk:decide (0<k)=false:=qh
      have HA1:Hd (∀j,1<=j->j<k+1->Ap (nx ss (j-1)) (nx ss j)=true):=asc_step HA.o (Or.inl cq);clear cq;exact qit
     ·have dk:decide (0<k)=true:=qh
      (have HBE:Hd (nx ss (k-1)=bf):=by rcases HBF.o with h|h;exact absurd h cq;exact h.symm);obtain⟨v,hv⟩:=Aj (Ap bf q);(have HV:Hd (Ap (nx ss (k-1)) (nx ss k)=v):=by show Ap (nx ss (k-1)) (nx ss k)=v;rw[HBE.o,HQ.o];exact hv);unfold Ap at hv;have HK1':Hd (k≠0):=cq;clear cq;cases v
      ·have HN:Hd (¬ Jy n ts rs):=λh=>by
        have h3:=(HAS.o.mpr h.1.2.2) k (zo HK1'.o) (zo ou.o);rw[HV.o]at h3;cases h3
       go_wp2_with fail;go_ret;exact⟨be,false,rfl,Ea HN.o⟩
      ·have HA1:Hd (∀j,1<=j->j<k+1->Ap (nx ss (j-1)) (nx ss j)=true):=asc_step HA.o (Or.inr HV.o)
       exact qit
  ·have rv:Hd (Uk n ts):=⟨hl5,λi hi=>HK.o i qb,HAS.o.mp (λj hj1 hj2=>HA.o j hj1 (zo ou.o))⟩
   clear HK HA HBF;go_wp2_with fail
   go_loopw [6] (λi wq=>∃(m:X),m<=rs.length/\i=I m/\Hd (∀i,i<m->Hk n (qx rs i))/\wq.cell? ⟨w.heap.size,0,N⟩=M (I n)/\wq.cell? ⟨w.heap.size,2,N⟩=M (J ra rs.length rc)/\Bw w wq) (λi _=>rs.length-(intOf i).toNat)
   case atStart=>exact⟨0,Nat.zero_le _,rfl,(λi hi=>by omega:∀i,i<0->Hk n (qx rs i)),y0,y2,bc⟩
   case round=>
    clear y0 y1 y2 bc bu;obtain⟨m,hm,rfl,HK,y0,y2,bc⟩:=hrel
    by_cases V5:m<rs.length
    ·have hq:=HI.o.qs.bl bc
     obtain⟨b,off,rfl,ca,cc,la,lc,c1,c2,c3,c4,c5⟩:=hq.rq m V5;have l7:Wd _ ca (qx rs m).code la (qx rs m).looks:=⟨c4,c5,(hq.sm.2 m V5).1,(hq.sm.2 m V5).2,hq.ok.xc m,hq.ok.ng m,hq.ok.sg m⟩;have hou:=hq.ok.so m;have HG1:Hd (Hk n (qx rs m)->∀i,i<m+1->Hk n (qx rs i)):=λhg=>Co HK.o hg;have P0:Hd (¬ Hk n (qx rs m)->¬ Jy n ts rs):=λhg h=>hg (h.2.2 m V5);clear hq c4 c5;generalize qx rs m=x at *;obtain⟨xc,xl,xo⟩:=x;simp only at *;have io:(m:Int)<(rs.length:Int):=qb;have iy:(0:Int)<=(m:Int):=qb;have mw:Hd (∀W:E,Bw wr W->Calls prog 59 #[G #[J ca xc.length cc,J la xl.length lc,S xo],I n] W λe w'=>Bw W w'/\∃b,e=H (F b)/\(b=true↔Hk n ⟨xc,xl,xo⟩)):=λW hW=>Tx ca la cc lc xc xl xo n W h8 ⟨l7.rc.bl hW,l7.rg.bl hW,l7.lc,l7.lg,l7.xc,l7.ng,l7.sg⟩ hou;clear l7
     by_cases hx:Hk n ⟨xc,xl,xo⟩
     ·have HO:Hd (∀i,i<m+1->Hk n (qx rs i)):=HG1.o hx
      have mu:Hd (∀W:E,Bw wr W->Calls prog 59 #[G #[J ca xc.length cc,J la xl.length lc,S xo],I n] W λe w'=>Bw W w'/\e=H (F true)):=λW hW=>(mw.o W hW).mono (λe w' ⟨h1,b,h2,h3⟩=>⟨h1,by rw[h2];rcases Uj h3 with⟨hg,rfl⟩|⟨hg,rfl⟩<;>first|rfl|exact absurd hx hg|exact absurd hg hx⟩);clear mw;have bu:Bw wr wr.drew:=(Below.refl _ _).drew;go_wp2_with fail
      go_region_held3 (λw'=>(w'.cell? ⟨w.heap.size,0,N⟩=M (I n)/\w'.cell? ⟨w.heap.size,2,N⟩=M (J (M ⟨b,off,N⟩) rs.length rc))/\(w'.cell? ⟨b,off+m*3,N⟩=M (J ca xc.length cc)/\w'.cell? ⟨b,off+m*3+1,N⟩=M (J la xl.length lc)/\w'.cell? ⟨b,off+m*3+2,N⟩=M (S xo)))
       (first|assumption|(simp[*];done)|exact⟨⟨Aa ag qt,Aa ag qt⟩,Aa ag qt,Aa ag qt,Aa ag qt⟩)
       (first|(go_at_call 59;refine(mu.o _ bu).mono ?_;rintro e w2 ⟨ag,rfl⟩))
      all_goals
       have z0:=Aa ag (Aa bu y0);have z2:=Aa ag (Aa bu y2);have be:=bt bc (bt bu ag);clear y0 y2 c1 c2 c3;go_wp2_with fail;go_roundw
       case rel=>exact⟨m+1,qb,qj,HO.o,z0,z2,be⟩
       case measure=>simp[intOf];omega
     ·have HO:Hd (¬ Jy n ts rs):=P0.o hx
      have mu:Hd (∀W:E,Bw wr W->Calls prog 59 #[G #[J ca xc.length cc,J la xl.length lc,S xo],I n] W λe w'=>Bw W w'/\e=H (F false)):=λW hW=>(mw.o W hW).mono (λe w' ⟨h1,b,h2,h3⟩=>⟨h1,by rw[h2];rcases Uj h3 with⟨hg,rfl⟩|⟨hg,rfl⟩<;>first|rfl|exact absurd hx hg|exact absurd hg hx⟩);clear mw;have bu:Bw wr wr.drew:=(Below.refl _ _).drew;go_wp2_with fail
      go_region_held3 (λw'=>(w'.cell? ⟨w.heap.size,0,N⟩=M (I n)/\w'.cell? ⟨w.heap.size,2,N⟩=M (J (M ⟨b,off,N⟩) rs.length rc))/\(w'.cell? ⟨b,off+m*3,N⟩=M (J ca xc.length cc)/\w'.cell? ⟨b,off+m*3+1,N⟩=M (J la xl.length lc)/\w'.cell? ⟨b,off+m*3+2,N⟩=M (S xo)))
       (first|assumption|(simp[*];done)|exact⟨⟨Aa ag qt,Aa ag qt⟩,Aa ag qt,Aa ag qt,Aa ag qt⟩)
       (first|(go_at_call 59;refine(mu.o _ bu).mono ?_;rintro e w2 ⟨ag,rfl⟩))
      all_goals
       have z0:=Aa ag (Aa bu y0);have z2:=Aa ag (Aa bu y2);have be:=bt bc (bt bu ag);clear y0 y2 c1 c2 c3;go_wp2_with fail;go_ret;exact⟨be,false,rfl,Ea HO.o⟩
    ·have HO:Hd (Jy n ts rs):=⟨rv.o,V7,λi hi=>HK.o i qb⟩
     go_wp2_with fail;exact qfj
structure Wc (w:E) (ta:Option Addr) (ts:L By) (ra:Option Addr) (rs:L T3):Prop where
 st:Cc w ta ts
 lt:ts.length<=maxLen
 xt:∀s∈ts,s.size<=maxLen
 rq:Lw w ra rs
 ok:QsOk rs
theorem Wc.bl{w w':E}{ta ra:Option Addr}{ts:L By}{rs:L T3}(h:Wc w ta ts ra rs)(hb:Bw w w'):Wc w' ta ts ra rs:=⟨h.st.bl hb,h.lt,h.xt,h.rq.bl hb,h.ok⟩
theorem Jo(n:Int)(ta ra:Option Addr)(tc rc:X)(ts:L By)(rs:L T3)(w:E)(h:Nm w ta ts ra rs):Calls prog 39 #[G #[I n,J ta ts.length tc,J ra rs.length rc]] w λe w'=>Bw w w'/\∃b,e=H (F b)/\(b=true↔Ke n ts rs):=by
 by_cases hc:(1<=n/\n<=8)/\ts.length<=5000/\rs.length<=2000
 ·obtain⟨m,rfl⟩:=Int.eq_ofNat_of_zero_le (show 0<=n from qb)
  refine(Oj m ta ra tc rc ts rs w qb qb hc.2.1 hc.2.2 h).mono λe w' ⟨h1,b,h2,h3⟩=>⟨h1,b,h2,?_⟩;rw[h3];exact⟨λk=>⟨hc.1.1,hc.1.2,k⟩,λk=>k.2.2⟩
 ·refine(Pb n ta ra tc rc ts rs w h.lt h.qs.sm.1 qb).mono λe w' ⟨h1,h2⟩=>⟨h1,false,h2,Ea (λk=>hc ⟨⟨k.1,k.2.1⟩,k.2.2.1.1,k.2.2.2.1⟩)⟩
theorem Tryz.cells70:prog.cellsOf 70=1:=qi
theorem Tryz.cells68:prog.cellsOf 68=1:=qi
theorem Tryz.cells181:prog.cellsOf 181=3:=qi
theorem Tryz.cells3:prog.cellsOf 3=1:=qi
theorem Tryz.cells9:prog.cellsOf 9=1:=qi
theorem Tryz.cells254:prog.cellsOf 254=3:=qi
variable {AI:Type} {enc:TypeId×Z->AI} {W:E} {base:X} {spare:X->Bool} {held:Bool}
theorem open_ins{x:DataW AI×L MemPlace}(h:DataW.trod enc prog W base spare held fuel 181 cs=M x):∃i:I3,cs=[I i.op,.string i.text,I i.n]/\i.text.size<=maxLen:=by
 obtain⟨y0,y1,y2,n,_,hl,h0,h1,h2⟩:=trod_struct3 underlying181 h;rw[Tryz.cells181]at hl;simp only[Tryz.cells3,Tryz.cells9]at h0 h1 h2
 match cs,hl with
 | [c0,c1,c2],_=>
   obtain⟨op,e0,_,_⟩:=DataW.trod_int underlying3 h0;obtain⟨t,e1,_,ht⟩:=DataW.trod_string underlying9 h1;obtain⟨m,e2,_,_⟩:=DataW.trod_int underlying3 h2;simp at e0 e1 e2;subst e0;subst e1;subst e2;exact⟨⟨op,t,m⟩,rfl,ht⟩
theorem Wq{c:Z}{x:DataW AI×L MemPlace}(h:DataW.trod enc prog W base spare held fuel 68 [c]=M x):∃(a:Option Addr)(cap:X)(is:L I3),c=.slice a is.length cap/\Bu W a is/\is.length<=maxLen/\∀i,(ix is i).text.size<=maxLen:=by
 rcases open_slice underlying68 h with⟨ir,_⟩|⟨a,len,cap,m,n,AJ,Pl,ir,_,hl,hm,hmm,_,hx⟩
 ·simp at ir
  subst ir;exact⟨N,0,[],rfl,λi hi=>qaa,qg,λi=>by simp[ix,i0]⟩
 ·simp at ir
  subst ir;rw[Tryz.cells181]at hx;have hlm:len<=m:=qco
  have C7:∀i,i<len->∃t:I3,W.cell? ((a.add (i*3)).add 0)=M (I t.op)/\W.cell? ((a.add (i*3)).add 1)=M (.string t.text)/\W.cell? ((a.add (i*3)).add 2)=M (I t.n)/\t.text.size<=maxLen:=by
   intro i hi;obtain⟨cs',hc,ht⟩:=hx i qb;obtain⟨t,rfl,M0⟩:=open_ins ht;exact qjr
  let f:X->I3:=λi=>if h:i<len then Classical.choose (C7 i h) else i0
  have hf:∀i,(h:i<len)->W.cell? ((a.add (i*3)).add 0)=M (I (f i).op)/\W.cell? ((a.add (i*3)).add 1)=M (.string (f i).text)/\W.cell? ((a.add (i*3)).add 2)=M (I (f i).n)/\(f i).text.size<=maxLen:=by
   exact qci
  have zn:∀i,i<len->ix ((List.range len).map f) i=f i:=by
   intro i h;simp[ix,gG,h]
  refine⟨M a,cap,(List.range len).map f,qg,?_,qh,?_⟩
  ·exact qid
  ·intro i
   by_cases h:i<len
   ·rw[zn i h];exact(hf i h).2.2.2
   ·simp[ix,gG,h,i0]
/-- The table's Mw, as the list has them. -/
theorem row_of(o:X)(ho:o<16):∃AL:L (DataW Unit),(Rows.laid_loop_example_kilntrace_impl_opKinds:DataW Unit)=.agg AL/\AL.length=16/\AL[o]?=M (.agg [.lit (.string (words.getD o [])),.lit (.int .i64 (Es o)),.lit (.int .i64 (Lk.getD o 0))]):=by
 refine⟨_,rfl,rfl,?_⟩;exact qej
theorem Qaa{W:E}(h:laidMetH Tryz.prog [("loop.example/kilntrace/impl.opKinds",Rows.laid_loop_example_kilntrace_impl_opKinds)] W):Kd W:=by
 rw[MakeChecks.laidMetH_plain _ _ _ qi]at h;obtain⟨ps,⟨g,t,cs,fuel,p,q,hg,ht,hv,hd,_,_⟩,_,_⟩:=h;obtain rfl:=Option.some.inj ((show Tryz.prog.globalNamed "loop.example/kilntrace/impl.opKinds"=M 0 from qi).symm.trans hg);obtain rfl:=Option.some.inj ((show(Tryz.prog.globals[0]?).map (·.type)=M 255 from qi).symm.trans ht);obtain⟨xs,m,_,ex,dh,hl,hel⟩:=DataW.trod_array Tryz.underlying255 hd;intro o ho;obtain⟨AL,hL,hLl,hLo⟩:=row_of o ho
 have e1:AL=xs.map (·.1):=by
  have:=(Prod.mk.inj ex).1;rw[hL]at this;exact DataW.agg.inj this
 have hxo:o<xs.length:=qb;have k:=hel o ho;rw[Tryz.cells254,Ix hxo]at k
 have e2:xs[o].1=.agg [.lit (.string (words.getD o [])),.lit (.int .i64 (Es o)),.lit (.int .i64 (Lk.getD o 0))]:=by
  rw[e1,List.getElem?_map,Ix hxo]at hLo;simpa using hLo
 obtain⟨y0,y1,y2,n,he,Q1,h0,h1,h2⟩:=trod_struct3 Tryz.underlying254 k;rw[Tryz.cells254]at Q1;simp only[Tryz.cells3,Tryz.cells9]at h0 h1 h2
 have e3:[y0.1,y1.1,y2.1]=[.lit (.string (words.getD o [])),.lit (.int .i64 (Es o)),.lit (.int .i64 (Lk.getD o 0))]:=by
  (have:xs[o].1=.agg [y0.1,y1.1,y2.1]:=by rw[he]);rw[e2]at this;exact(DataW.agg.inj this).symm
 simp only[List.cons.injEq,and_true]at e3;obtain⟨a0,a1,a2⟩:=e3;obtain⟨s,c0,d0,_⟩:=DataW.trod_string Tryz.underlying9 h0;obtain⟨z1,c1,d1,_⟩:=DataW.trod_int Tryz.underlying3 h1;obtain⟨z2,c2,d2,_⟩:=DataW.trod_int Tryz.underlying3 h2;have iz:=λj=>World.var?_cell (show Tryz.prog.globalNamed "loop.example/kilntrace/impl.opKinds"=M 0 from qi) hv j;rw[d0]at a0;rw[d1]at a1;rw[d2]at a2;simp only[DataW.lit.injEq,Lit.string.injEq,Lit.int.injEq,true_and]at a0 a1 a2;have hs:s=Zu o:=bytes_inj (by rw[a0];simp[Zu])
 have f:∀j,j<3->cs[o*3+j]?=(((cs.toList.drop (o*3)).take 3))[j]?:=by
  intro j hj;rw[List.getElem?_take,if_pos hj,List.getElem?_drop,Array.getElem?_toList]
 have g0:cs[o*3+0]?=M (.string s):=by
  rw[f 0 qb];have:=congrArg (λl=>l[0]?) c0;exact qfg
 have g1:cs[o*3+1]?=M (.int .i64 z1):=by
  rw[f 1 qb];have:=congrArg (λl=>l[0]?) c1;exact qfg
 have g2:cs[o*3+2]?=M (.int .i64 z2):=by
  rw[f 2 qb];have:=congrArg (λl=>l[0]?) c2;exact qfg
 exact⟨by rw[iz];simpa [hs] using g0,by rw[iz,g1,a1],by rw[iz,g2,a2]⟩
theorem Tryz.cells29:prog.cellsOf 29=2:=qi
theorem Tryz.cells26:prog.cellsOf 26=1:=qi
theorem Tryz.cells27:prog.cellsOf 27=1:=qi
theorem Tryz.cells76:prog.cellsOf 76=2:=qi
theorem Tryz.cells79:prog.cellsOf 79=2:=qi
theorem open_source{x:DataW AI×L MemPlace}(h:DataW.trod enc prog W base spare held fuel 76 cs=M x):∃i:S2,cs=[.string i.name,.string i.text]/\i.name.size<=maxLen/\i.text.size<=maxLen:=by
 obtain⟨y0,y1,n,_,hl,h0,h1⟩:=trod_struct2 underlying76 h;rw[Tryz.cells76]at hl;simp only[Tryz.cells9]at h0 h1
 match cs,hl with
 | [c0,c1],_=>
   obtain⟨s,e0,_,hs⟩:=DataW.trod_string underlying9 h0;obtain⟨t,e1,_,ht⟩:=DataW.trod_string underlying9 h1;simp at e0 e1;subst e0;subst e1;exact⟨⟨s,t⟩,rfl,hs,ht⟩
theorem open_target{x:DataW AI×L MemPlace}(h:DataW.trod enc prog W base spare held fuel 79 cs=M x):∃(i:T2)(a:Option Addr)(cap:X),cs=[.string i.name,.slice a i.code.length cap]/\Bu W a i.code/\i.name.size<=maxLen/\i.code.length<=maxLen/\∀j,(ix i.code j).text.size<=maxLen:=by
 obtain⟨y0,y1,n,_,hl,h0,h1⟩:=trod_struct2 underlying79 h;rw[Tryz.cells79]at hl;simp only[Tryz.cells9,Tryz.cells70]at h0 h1
 match cs,hl with
 | [c0,c1],_=>
   obtain⟨s,e0,_,hs⟩:=DataW.trod_string underlying9 h0;simp at e0;subst e0;obtain⟨z0,m,_,_,h2⟩:=trod_struct1 underlying70 h1;simp only[Tryz.cells68]at h2;obtain⟨a,cap,is,e1,r1,r2,r3⟩:=Wq (c:=c1) (by simpa using h2);subst e1;exact⟨⟨s,is⟩,a,cap,rfl,r1,hs,r2,r3⟩
theorem Yq{c:Z}{x:DataW AI×L MemPlace}(h:DataW.trod enc prog W base spare held fuel 26 [c]=M x):∃(a:Option Addr)(cap:X)(is:L S2),c=.slice a is.length cap/\Ho W a is/\is.length<=maxLen/\(∀i,(sx is i).name.size<=maxLen)/\∀i,(sx is i).text.size<=maxLen:=by
 rcases open_slice underlying26 h with⟨ir,_⟩|⟨a,len,cap,m,n,AJ,Pl,ir,_,hl,hm,hmm,_,hx⟩
 ·simp at ir
  subst ir;exact⟨N,0,[],rfl,λi hi=>qaa,qg,λi=>by simp[sx],λi=>by simp[sx]⟩
 ·simp at ir
  subst ir;rw[Tryz.cells76]at hx;have hlm:len<=m:=qco
  have C7:∀i,i<len->∃t:S2,W.cell? ((a.add (i*2)).add 0)=M (.string t.name)/\W.cell? ((a.add (i*2)).add 1)=M (.string t.text)/\t.name.size<=maxLen/\t.text.size<=maxLen:=by
   intro i hi;obtain⟨cs',hc,ht⟩:=hx i qb;obtain⟨t,rfl,M0⟩:=open_source ht;have hs:=World.cells?_some hc;exact⟨t,by simpa using hs.2.2 0 qb,by simpa using hs.2.2 1 qb,M0⟩
  let f:X->S2:=λi=>if h:i<len then Classical.choose (C7 i h) else ⟨ByteArray.empty,ByteArray.empty⟩
  have hf:∀i,(h:i<len)->W.cell? ((a.add (i*2)).add 0)=M (.string (f i).name)/\W.cell? ((a.add (i*2)).add 1)=M (.string (f i).text)/\(f i).name.size<=maxLen/\(f i).text.size<=maxLen:=by
   exact qci
  have zn:∀i,i<len->sx ((List.range len).map f) i=f i:=by
   intro i h;simp[sx,gG,h]
  refine⟨M a,cap,(List.range len).map f,qg,?_,qh,?_,?_⟩
  ·intro i hi
   (have hi':i<len:=by simpa using hi);obtain⟨h1,h2,_⟩:=hf i hi';rw[zn i hi'];obtain⟨b,off,spot⟩:=a
   have ni:spot=N:=by
    have:=World.cell?_spot (hf 0 qb).1;simpa [Addr.add] using this
   subst ni;simp only[Addr.add_lit]at h1 h2;exact⟨b,off,rfl,h1,h2⟩
  ·intro i
   by_cases h:i<len
   ·rw[zn i h];exact(hf i h).2.2.1
   ·simp[sx,gG,h]
  ·intro i
   by_cases h:i<len
   ·rw[zn i h];exact(hf i h).2.2.2
   ·simp[sx,gG,h]
theorem Yp{c:Z}{x:DataW AI×L MemPlace}(h:DataW.trod enc prog W base spare held fuel 27 [c]=M x):∃(a:Option Addr)(cap:X)(is:L T2),c=.slice a is.length cap/\Gu W a is/\is.length<=maxLen/\(∀i,(tx is i).name.size<=maxLen)/\(∀i,(tx is i).code.length<=maxLen)/\∀i j,(ix (tx is i).code j).text.size<=maxLen:=by
 rcases open_slice underlying27 h with⟨ir,_⟩|⟨a,len,cap,m,n,AJ,Pl,ir,_,hl,hm,hmm,_,hx⟩
 ·simp at ir
  subst ir;exact⟨N,0,[],rfl,λi hi=>qaa,qg,λi=>by simp[tx],λi=>by simp[tx],λi j=>by simp[tx,ix,i0]⟩
 ·simp at ir
  subst ir;rw[Tryz.cells79]at hx;have hlm:len<=m:=qco
  have C7:∀i,i<len->∃t:T2,W.cell? ((a.add (i*2)).add 0)=M (.string t.name)/\(∃a' ai,W.cell? ((a.add (i*2)).add 1)=M (.slice a' t.code.length ai)/\Bu W a' t.code)/\t.name.size<=maxLen/\t.code.length<=maxLen/\∀j,(ix t.code j).text.size<=maxLen:=by
   intro i hi;obtain⟨cs',hc,ht⟩:=hx i qb;obtain⟨t,a',ai,rfl,hr,M0⟩:=open_target ht;have hs:=World.cells?_some hc;exact⟨t,by simpa using hs.2.2 0 qb,⟨a',ai,by simpa using hs.2.2 1 qb,hr⟩,M0⟩
  let f:X->T2:=λi=>if h:i<len then Classical.choose (C7 i h) else ⟨ByteArray.empty,[]⟩
  have hf:∀i,(h:i<len)->W.cell? ((a.add (i*2)).add 0)=M (.string (f i).name)/\(∃a' ai,W.cell? ((a.add (i*2)).add 1)=M (.slice a' (f i).code.length ai)/\Bu W a' (f i).code)/\(f i).name.size<=maxLen/\(f i).code.length<=maxLen/\∀j,(ix (f i).code j).text.size<=maxLen:=by
   exact qci
  have zn:∀i,i<len->tx ((List.range len).map f) i=f i:=by
   intro i h;simp[tx,gG,h]
  refine⟨M a,cap,(List.range len).map f,qg,?_,qh,?_,?_,?_⟩
  ·intro i hi
   (have hi':i<len:=by simpa using hi);obtain⟨h1,⟨a',ai,h2,h3⟩,_⟩:=hf i hi';rw[zn i hi'];obtain⟨b,off,spot⟩:=a
   have ni:spot=N:=by
    have:=World.cell?_spot (hf 0 qb).1;simpa [Addr.add] using this
   subst ni;simp only[Addr.add_lit]at h1 h2;exact⟨b,off,rfl,h1,a',ai,h2,h3⟩
  ·intro i
   by_cases h:i<len
   ·rw[zn i h];exact(hf i h).2.2.1
   ·simp[tx,gG,h]
  ·intro i
   by_cases h:i<len
   ·rw[zn i h];exact(hf i h).2.2.2.1
   ·simp[tx,gG,h]
  ·intro i j
   by_cases h:i<len
   ·rw[zn i h];exact(hf i h).2.2.2.2 j
   ·simp[tx,gG,h,ix,i0]
theorem open_space{v:Z}{d:DataW AI}(hv:Value.okWide prog W r b0 29 v)(h:DataW.Trod enc prog W base spare held 29 v d p):∃(sa:Option Addr)(c1:X)(ss:L S2)(ta:Option Addr)(c2:X)(ts:L T2),v=.agg #[.slice sa ss.length c1,.slice ta ts.length c2]/\Lv W sa ss ta ts:=by
 obtain⟨cs,rfl,cz⟩:=okWide_struct underlying29 hv;rw[Tryz.cells29]at cz;obtain⟨fuel,hf⟩:=h;obtain⟨y0,y1,n,_,_,h0,h1⟩:=trod_struct2 underlying29 hf;simp only[Tryz.cells26,Tryz.cells27]at h0 h1;obtain⟨l⟩:=cs
 match l,cz with
 | [k0,k1],_=>
   simp only[Value.cells]at h0 h1;obtain⟨sa,c1,ss,e0,a1,a2,a3,a4⟩:=Yq (c:=k0) (by simpa using h0);obtain⟨ta,c2,ts,e1,b1,b2,b3,b4,b5⟩:=Yp (c:=k1) (by simpa using h1);subst e0;subst e1;exact⟨sa,c1,ss,ta,c2,ts,rfl,⟨a1,b1,a2,b2,a3,a4,b3,b4,b5⟩⟩
theorem Tryz.cells73:prog.cellsOf 73=3:=qi
theorem Tryz.cells148:prog.cellsOf 148=3:=qi
theorem Tryz.cells71:prog.cellsOf 71=1:=qi
theorem Tryz.cells4:prog.cellsOf 4=1:=qi
theorem Tryz.cells25:prog.cellsOf 25=3:=qi
theorem Tryz.cells22:prog.cellsOf 22=1:=qi
theorem Tryz.cells23:prog.cellsOf 23=1:=qi
theorem open_glance{x:DataW AI×L MemPlace}(h:DataW.trod enc prog W base spare held fuel 148 cs=M x):∃i:G3,cs=[.string i.name,.bool i.ask,.string i.sum]/\i.name.size<=maxLen/\i.sum.size<=maxLen:=by
 obtain⟨y0,y1,y2,n,_,hl,h0,h1,h2⟩:=trod_struct3 underlying148 h;rw[Tryz.cells148]at hl;simp only[Tryz.cells9,Tryz.cells4]at h0 h1 h2
 match cs,hl with
 | [c0,c1,c2],_=>
   obtain⟨s,e0,_,hs⟩:=DataW.trod_string underlying9 h0;obtain⟨b,e1,_⟩:=DataW.trod_bool underlying4 h1;obtain⟨t,e2,_,ht⟩:=DataW.trod_string underlying9 h2;simp at e0 e1 e2;subst e0;subst e1;subst e2;exact⟨⟨s,b,t⟩,rfl,hs,ht⟩
theorem Yr{c:Z}{x:DataW AI×L MemPlace}(h:DataW.trod enc prog W base spare held fuel 71 [c]=M x):∃(a:Option Addr)(cap:X)(is:L G3),c=.slice a is.length cap/\Fr W a is/\is.length<=maxLen/\(∀i,(gx is i).name.size<=maxLen)/\∀i,(gx is i).sum.size<=maxLen:=by
 rcases open_slice underlying71 h with⟨ir,_⟩|⟨a,len,cap,m,n,AJ,Pl,ir,_,hl,hm,hmm,_,hx⟩
 ·simp at ir
  subst ir;exact⟨N,0,[],rfl,λi hi=>qaa,qg,λi=>by simp[gx,g00],λi=>by simp[gx,g00]⟩
 ·simp at ir
  subst ir;rw[Tryz.cells148]at hx;have hlm:len<=m:=qco
  have C7:∀i,i<len->∃t:G3,W.cell? ((a.add (i*3)).add 0)=M (.string t.name)/\W.cell? ((a.add (i*3)).add 1)=M (.bool t.ask)/\W.cell? ((a.add (i*3)).add 2)=M (.string t.sum)/\t.name.size<=maxLen/\t.sum.size<=maxLen:=by
   intro i hi;obtain⟨cs',hc,ht⟩:=hx i qb;obtain⟨t,rfl,M0⟩:=open_glance ht;exact qjr
  let f:X->G3:=λi=>if h:i<len then Classical.choose (C7 i h) else g00
  have hf:∀i,(h:i<len)->W.cell? ((a.add (i*3)).add 0)=M (.string (f i).name)/\W.cell? ((a.add (i*3)).add 1)=M (.bool (f i).ask)/\W.cell? ((a.add (i*3)).add 2)=M (.string (f i).sum)/\(f i).name.size<=maxLen/\(f i).sum.size<=maxLen:=by
   exact qci
  have zn:∀i,i<len->gx ((List.range len).map f) i=f i:=by
   intro i h;simp[gx,gG,h]
  refine⟨M a,cap,(List.range len).map f,qg,?_,qh,?_,?_⟩
  ·exact qid
  ·intro i
   by_cases h:i<len
   ·rw[zn i h];exact(hf i h).2.2.2.1
   ·simp[gx,gG,h,g00]
  ·intro i
   by_cases h:i<len
   ·rw[zn i h];exact(hf i h).2.2.2.2
   ·simp[gx,gG,h,g00]
theorem open_rec{x:DataW AI×L MemPlace}(h:DataW.trod enc prog W base spare held fuel 73 cs=M x):∃(i:T3)(a la:Option Addr)(cap lc:X),cs=[.slice a i.code.length cap,.slice la i.looks.length lc,.string i.out]/\Xg W a i.code la i.looks i.out:=by
 obtain⟨y0,y1,y2,n,_,hl,h0,h1,h2⟩:=trod_struct3 underlying73 h;rw[Tryz.cells73]at hl;simp only[Tryz.cells70,Tryz.cells71,Tryz.cells9]at h0 h1 h2
 match cs,hl with
 | [c0,c1,c2],_=>
   (have h0':DataW.trod enc prog W base spare held n 70 [c0]=M y0:=by simpa using h0);(have h1':DataW.trod enc prog W base spare held n 71 [c1]=M y1:=by simpa using h1);(have h2':DataW.trod enc prog W base spare held n 9 [c2]=M y2:=by simpa using h2);obtain⟨z0,m,_,_,h3⟩:=trod_struct1 underlying70 h0';simp only[Tryz.cells68]at h3;obtain⟨a,cap,is,rfl,r1,r2,r3⟩:=Wq (c:=c0) (by simpa using h3);obtain⟨la,lc,gs,rfl,g1,g2,g3,g4⟩:=Yr h1';obtain⟨t,e2,_,ht⟩:=DataW.trod_string underlying9 h2';simp at e2;subst e2;exact⟨⟨is,gs,t⟩,a,la,cap,lc,rfl,r1,g1,r2,g2,r3,g3,g4,ht⟩
theorem open_recs{c:Z}{x:DataW AI×L MemPlace}(h:DataW.trod enc prog W base spare held fuel 23 [c]=M x):∃(a:Option Addr)(cap:X)(is:L T3),c=.slice a is.length cap/\Lw W a is/\QsOk is:=by
 rcases open_slice underlying23 h with⟨ir,_⟩|⟨a,len,cap,m,n,AJ,Pl,ir,_,hl,hm,hmm,_,hx⟩
 ·simp at ir
  subst ir;exact⟨N,0,[],rfl,λi hi=>qaa,⟨qg,λi=>by simp[qx,q00],λi=>by simp[qx,q00],λi j=>by simp[qx,q00,ix,i0],λi j=>by simp[qx,q00,gx,g00],λi j=>by simp[qx,q00,gx,g00],λi=>by simp[qx,q00]⟩⟩
 ·simp at ir
  subst ir;rw[Tryz.cells73]at hx;have hlm:len<=m:=qco
  have C7:∀i,i<len->∃t:T3,∃ca cc la lc,W.cell? ((a.add (i*3)).add 0)=M (.slice ca t.code.length cc)/\W.cell? ((a.add (i*3)).add 1)=M (.slice la t.looks.length lc)/\W.cell? ((a.add (i*3)).add 2)=M (.string t.out)/\Xg W ca t.code la t.looks t.out:=by
   intro i hi;obtain⟨cs',hc,ht⟩:=hx i qb;obtain⟨t,ca,la,cc,lc,rfl,M0⟩:=open_rec ht;have hs:=World.cells?_some hc;exact⟨t,ca,cc,la,lc,by simpa using hs.2.2 0 qb,by simpa using hs.2.2 1 qb,by simpa using hs.2.2 2 qb,M0⟩
  let f:X->T3:=λi=>if h:i<len then Classical.choose (C7 i h) else q00
  have hf:∀i,(h:i<len)->∃ca cc la lc,W.cell? ((a.add (i*3)).add 0)=M (.slice ca (f i).code.length cc)/\W.cell? ((a.add (i*3)).add 1)=M (.slice la (f i).looks.length lc)/\W.cell? ((a.add (i*3)).add 2)=M (.string (f i).out)/\Xg W ca (f i).code la (f i).looks (f i).out:=by
   exact qci
  have zn:∀i,i<len->qx ((List.range len).map f) i=f i:=by
   intro i h;simp[qx,gG,h]
  have gg:∀i,¬ i<len->qx ((List.range len).map f) i=q00:=by
   intro i h;simp[qx,gG,h]
  have n7:∀(P:T3->Prop),P q00->(∀t ca la,Xg W ca t.code la t.looks t.out->P t)->∀i,P (qx ((List.range len).map f) i):=by
   intro P h0 h1 i
   by_cases h:i<len
   ·obtain⟨ca,cc,la,lc,_,_,_,hr⟩:=hf i h
    rw[zn i h];exact h1 _ ca la hr
   ·rw[gg i h];exact h0
  refine⟨M a,cap,(List.range len).map f,qg,?_,⟨qh,n7 (λt=>t.code.length<=maxLen) (by simp[q00]) (λt _ _ h=>h.lc),n7 (λt=>t.looks.length<=maxLen) (by simp[q00]) (λt _ _ h=>h.lg),n7 (λt=>∀j,(ix t.code j).text.size<=maxLen) (by intro j;simp[q00,ix,i0]) (λt _ _ h=>h.xc),n7 (λt=>∀j,(gx t.looks j).name.size<=maxLen) (by intro j;simp[q00,gx,g00]) (λt _ _ h=>h.ng),n7 (λt=>∀j,(gx t.looks j).sum.size<=maxLen) (by intro j;simp[q00,gx,g00]) (λt _ _ h=>h.sg),n7 (λt=>t.out.size<=maxLen) (by simp[q00]) (λt _ _ h=>h.so)⟩⟩;intro i hi;(have hi':i<len:=by simpa using hi);obtain⟨ca,cc,la,lc,h1,h2,h3,hr⟩:=hf i hi';rw[zn i hi'];obtain⟨b,off,spot⟩:=a
  have ni:spot=N:=by
   obtain⟨_,_,_,_,h1,_⟩:=hf 0 qb;have:=World.cell?_spot h1;simpa [Addr.add] using this
  subst ni;simp only[Addr.add_lit]at h1 h2 h3;exact⟨b,off,rfl,ca,cc,la,lc,h1,h2,h3,hr.rc,hr.rg⟩
theorem open_texts{c:Z}{x:DataW AI×L MemPlace}(h:DataW.trod enc prog W base spare held fuel 22 [c]=M x):∃(a:Option Addr)(cap:X)(ts:L By),c=.slice a ts.length cap/\Cc W a ts/\ts.length<=maxLen/\∀s∈ts,s.size<=maxLen:=by
 rcases open_strings underlying22 underlying9 Tryz.cells9 h with⟨ir,_⟩|⟨x,l,c,zs,ir,_,hl,hm,hz,_,iz,hws⟩
 ·simp at ir
  subst ir;exact⟨N,0,[],rfl,λi h=>by simp at h,qg,qg⟩
 ·simp at ir
  subst ir;(have hlz:l<=zs.length:=by rw[hz];split<;>omega);refine⟨M x,c,zs.take l,qh,?_,qh,λs hs=>hws s (List.mem_of_mem_take hs)⟩;intro i hi;(have hi':i<l/\i<zs.length:=by simp only[List.length_take]at hi;omega);have hc:=iz i qb;obtain⟨b,off,spot⟩:=x;(have ni:spot=N:=by simpa [Addr.add] using World.cell?_spot (iz 0 qb));subst ni;refine⟨b,off,rfl,?_⟩;simp only[gG,List.getElem?_take,if_pos hi'.1];rw[Addr.add_lit]at hc;simpa [gG] using hc
theorem open_store{v:Z}{d:DataW AI}(hv:Value.okWide prog W r b0 25 v)(h:DataW.Trod enc prog W base spare held 25 v d p):∃(n:Int)(ta ra:Option Addr)(tc rc:X)(ts:L By)(rs:L T3),v=.agg #[I n,.slice ta ts.length tc,.slice ra rs.length rc]/\Wc W ta ts ra rs:=by
 obtain⟨cs,rfl,cz⟩:=okWide_struct underlying25 hv;rw[Tryz.cells25]at cz;obtain⟨fuel,hf⟩:=h;obtain⟨y0,y1,y2,n,_,_,h0,h1,h2⟩:=trod_struct3 underlying25 hf;obtain⟨l⟩:=cs
 match l,cz with
 | [c0,c1,c2],_=>
   simp only[Tryz.cells3,Tryz.cells22,Tryz.cells23]at h0 h1 h2;(have h0':DataW.trod enc prog W base spare held n 3 [c0]=M y0:=by simpa [Value.cells] using h0);(have h1':DataW.trod enc prog W base spare held n 22 [c1]=M y1:=by simpa [Value.cells] using h1);(have h2':DataW.trod enc prog W base spare held n 23 [c2]=M y2:=by simpa [Value.cells] using h2);obtain⟨m,e0,_,_⟩:=DataW.trod_int underlying3 h0';simp at e0;subst e0;obtain⟨ta,tc,ts,rfl,t1,t2,t3⟩:=open_texts h1';obtain⟨ra,rc,rs,rfl,r1,r2⟩:=open_recs h2';exact⟨m,ta,ra,tc,rc,ts,rs,rfl,t1,t2,t3,r1,r2⟩
end Go.Proofs.YtbkkjodaaijimaaGreatDoor
