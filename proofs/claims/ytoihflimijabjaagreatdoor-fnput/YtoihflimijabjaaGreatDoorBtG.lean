import Derived.Test.YtoihflimijabjaaGreatDoorFtF
import Derived.Test.YtoihflimijabjaaGreatDoorVsV
namespace Go.Proofs.YtoihflimijabjaaGreatDoor
open _root_.Go.Proofs.Tryz Go.RowKit Go.Deep
open Value renaming slice->J,string->S,bool->F,agg->G
open Option renaming some->M,none->N
open Obj renaming cells->O
open Go renaming World->E
open Ending renaming returned->H
open _root_ renaming List->L,Nat->X
set_option linter.unusedVariables false
set_option linter.unusedSimpArgs false
theorem Rq(g:G3)(n:X)(w:E)(h8:n<=8)(hn:g.name.size<=maxLen)(hs:g.sum.size<=maxLen):Calls prog 36 #[G #[S g.name,F g.ask,S g.sum],I n] w λe w'=>Bw w w'/\∃b,e=H (F b)/\(b=true↔Kv n g):=by
 unfold maxLen at hn hs;have ba:Bw w (w.alloc (O #[S g.name,F g.ask,S g.sum] 79)):=aN _ _
 by_cases h1:Ay g.name
 ·have e1:=Cr h1
  by_cases h2:g.sum.size=n
  ·have d2:((g.sum.size:Int) == (n:Int))=true:=qj
   have HH:Hd (Kv n g):=⟨h1,h2⟩;clear h2;go_enter func36,ntmps36
   go_wp2_with (first|(go_at_call 59;refine(Bb g.name _ hn).mono ?_;rintro e w9 ⟨rfl,rfl⟩;rw[e1]))
   go_ret;exact⟨ba,true,rfl,Lx HH.o⟩
  ·have d2:((g.sum.size:Int) == (n:Int))=false:=qj
   have HH:Hd (¬ Kv n g):=λh=>h2 h.2;clear h2;exact qjb
 ·have e1:=Cg h1
  have HH:Hd (¬ Kv n g):=λh=>h1 h.1;exact qjb
theorem Rp(a la:Option Addr)(cap lc:X)(is:L I3)(gs:L G3)(out:By)(n:X)(w:E)(h8:n<=8)(h:Tg w a is la gs)(ho:out.size<=maxLen):Calls prog 19 #[G #[J a is.length cap,J la gs.length lc,S out],I n] w λe w'=>Bw w w'/\∃b,e=H (F b)/\(b=true↔Gq n ⟨is,gs,out⟩):=by
 have ba:Bw w (w.alloc (O #[J a is.length cap,J la gs.length lc,S out] 56)):=aN _ _;have k1:(w.alloc (O #[J a is.length cap,J la gs.length lc,S out] 56)).cell? ⟨w.heap.size,1,N⟩=M (J la gs.length lc):=qr;have k2:(w.alloc (O #[J a is.length cap,J la gs.length lc,S out] 56)).cell? ⟨w.heap.size,2,N⟩=M (S out):=qr;unfold maxLen at ho;have hlg:=h.lg;have HRG:Hd (Kb w la gs):=h.rg;have HNG:Hd (∀i,(gx gs i).name.size<=maxLen):=h.ng;have B7:Hd (∀i,(gx gs i).sum.size<=maxLen):=h.sg;obtain⟨v,ev⟩:=Aj (Aq is);have EV:Hd (Aq is=v):=ev;go_enter func19,ntmps19;go_wp2_with fail;refine(Ci a cap is _ (h.rc.bl ba) h.lc h.xc).mono ?_;rintro e w1 ⟨ah,rfl⟩;rw[ev];have db:=bt ba ah;have O0:=Aa ah k1;have S4:=Aa ah k2;clear ba ah k1 k2 h ev;cases v
 ·exact qkk
 ·by_cases h2:out.size=n
  ·have d2:((out.size:Int) != (n:Int))=false:=qj
   have H2:Hd (out.size=n):=h2;clear h2
   by_cases h3:200<gs.length
   ·exact qji
   ·have d3:decide ((200:Int)<(gs.length:Int))=false:=qj
    go_wp2
    go_loopw [5] (λi wr=>∃k:X,k<=gs.length/\i=I k/\Hd (∀i,i<k->Kv n (gx gs i))/\wr.cell? ⟨w.heap.size,1,N⟩=M (J la gs.length lc)/\Bw w wr) (λi _=>gs.length-(intOf i).toNat)
    case atStart=>exact⟨0,Nat.zero_le _,rfl,(λi hi=>by omega:∀i,i<0->Kv n (gx gs i)),O0,db⟩
    case round=>
     obtain⟨k,hk,rfl,HK,hx,bu⟩:=hrel
     by_cases au:k<gs.length
     ·obtain⟨b,off,rfl,c1,c2,c3⟩:=(HRG.o.bl bu) k au
      have G7:=HNG.o k;have jb:=B7.o k;have HG1:Hd (Kv n (gx gs k)->∀i,i<k+1->Kv n (gx gs i)):=λhg=>Ds HK.o hg;have HG0:Hd (¬ Kv n (gx gs k)->¬ Gq n ⟨is,gs,out⟩):=λhg h=>hg (h.2.2.2 k au);generalize gx gs k=g at *;clear O0 S4;go_wp2_with fail;refine(Rq g n _ h8 G7 jb).mono ?_;rintro e w2 ⟨a9,b,rfl,hb⟩;have hx2:=Aa a9 hx
      rcases Sh hb with⟨hg,rfl⟩|⟨hg,rfl⟩
      ·have HO:Hd (∀i,i<k+1->Kv n (gx gs i)):=HG1.o hg
       clear hb hg;go_wp2;go_roundw
       case rel=>exact⟨k+1,qg,qp,HO.o,hx2,bt bu a9⟩
       case measure=>simp[intOf];omega
      ·have HO:Hd (¬ Gq n ⟨is,gs,out⟩):=HG0.o hg
       clear hb hg;go_wp2;go_ret;exact⟨bt bu a9,false,rfl,Fh HO.o⟩
     ·have HO:Hd (Gq n ⟨is,gs,out⟩):=⟨EV.o,H2.o,by show gs.length<=200;omega,λi hi=>HK.o i (by simp only at hi;omega)⟩
      go_wp2;exact qew
  ·exact qju
theorem Yc{l:L By}{k:X}(h:∀j,1<=j->j<k->Aw (nx l (j-1)) (nx l j)=true)(hk:k=0\/Aw (nx l (k-1)) (nx l k)=true):∀j,1<=j->j<k+1->Aw (nx l (j-1)) (nx l j)=true:=by
 intro j h1 h2
 rcases Nat.lt_or_ge j k with h3|h3
 ·exact h j h1 h3
 ·obtain rfl:j=k:=qg
  rcases hk with hk|hk
  ·omega
  ·exact hk
theorem Mz(n:Int)(ta ra:Option Addr)(tc rc:X)(ts:L By)(rs:L T3)(w:E)(hl:ts.length<=1048576)(xq:rs.length<=1048576)(hn:¬ (1<=n/\n<=8)\/5000<ts.length\/2000<rs.length):Calls prog 5 #[G #[I n,J ta ts.length tc,J ra rs.length rc]] w λe w'=>Bw w w'/\e=H (F false):=by
 have ba:Bw w (w.alloc (O #[I n,J ta ts.length tc,J ra rs.length rc] 26)):=aN _ _
 by_cases h1:1<=n/\n<=8
 ·by_cases h2:5000<ts.length
  ·have d1:decide ((5000:Int)<(ts.length:Int))=true:=qj
   exact qjh
  ·have d1:decide ((5000:Int)<(ts.length:Int))=false:=qj
   have d2:decide ((2000:Int)<(rs.length:Int))=true:=qj;exact qjh
 ·have hn':n<1\/8<n:=qg
  go_enter func5,ntmps5
  go_wp2_with (first|(go_at_call 17;refine(Qak _ _ hn').mono ?_;rintro e w9 ⟨rfl,rfl⟩))
  go_ret;exact⟨ba,rfl⟩
theorem Mn(n:X)(ta ra:Option Addr)(tc rc:X)(ts:L By)(rs:L T3)(w:E)(h1:1<=n)(h8:n<=8)(hl5:ts.length<=5000)(xq:rs.length<=2000)(h:Jy w ta ts ra rs):Calls prog 5 #[G #[I n,J ta ts.length tc,J ra rs.length rc]] w λe w'=>Bw w w'/\∃b,e=H (F b)/\(b=true↔Gu n ts rs):=by
 have ba:Bw w (w.alloc (O #[I n,J ta ts.length tc,J ra rs.length rc] 26)):=aN _ _;have x0:(w.alloc (O #[I n,J ta ts.length tc,J ra rs.length rc] 26)).cell? ⟨w.heap.size,0,N⟩=M (I n):=qr;have x1:(w.alloc (O #[I n,J ta ts.length tc,J ra rs.length rc] 26)).cell? ⟨w.heap.size,1,N⟩=M (J ta ts.length tc):=qr;have x2:(w.alloc (O #[I n,J ta ts.length tc,J ra rs.length rc] 26)).cell? ⟨w.heap.size,2,N⟩=M (J ra rs.length rc):=qr;have HI:Hd (Jy w ta ts ra rs):=h;obtain⟨ss,ess⟩:=Aj (ts.map (Ap n));have jy:Hd (ss.length=ts.length):=by show ss.length=ts.length;rw[<- ess,List.length_map]
 have M2:Hd (∀i,i<ts.length->nx ss i=Ap n (nx ts i)):=λi h=>by rw[<- ess];exact Gj n ts i h
 have HAS:Hd (Fg ss↔Fg (ts.map (Ap n))):=by show Fg ss↔_;rw[ess]
 have d1:decide ((5000:Int)<(ts.length:Int))=false:=qj;have d2:decide ((2000:Int)<(rs.length:Int))=false:=qj;clear h ess;go_enter func5,ntmps5
 go_wp2_with (first|(go_at_call 17;refine(Jk _ _ qg qg).mono ?_;rintro e w9 ⟨rfl,rfl⟩))
 go_loopw [3,4] (λv i wr=>∃(k:X)(bf:By),k<=ts.length/\i=I k/\v=S bf/\Hd (k=0\/bf=nx ss (k-1))/\Hd (∀i,i<k->(nx ts i).size<=2002)/\Hd (∀j,1<=j->j<k->Aw (nx ss (j-1)) (nx ss j)=true)/\wr.cell? ⟨w.heap.size,0,N⟩=M (I n)/\wr.cell? ⟨w.heap.size,1,N⟩=M (J ta ts.length tc)/\wr.cell? ⟨w.heap.size,2,N⟩=M (J ra rs.length rc)/\Bw w wr) (λ_ i _=>ts.length-(intOf i).toNat)
 case atStart=>exact⟨0,⟨#[]⟩,Nat.zero_le _,rfl,rfl,Or.inl rfl,(λi hi=>by omega:∀i,i<0->(nx ts i).size<=2002),(λj h1 h2=>by omega:∀j,1<=j->j<0->Aw (nx ss (j-1)) (nx ss j)=true),x0,x1,x2,ba⟩
 case round=>
  obtain⟨k,bf,hk,rfl,rfl,HBF,HK,HA,y0,y1,y2,bu⟩:=hrel;clear x0 x1 x2 ba;have ce:Bw wr wr.drew:=(Below.refl _ _).drew
  by_cases au:k<ts.length
  ·obtain⟨b,off,rfl,c1⟩:=(HI.o.st.bl bu) k au
   replace c1:wr.cell? ⟨b,off+k,N⟩=M (S (nx ts k)):=c1;have jb:=HI.o.xt k;have HX:Hd (nx ss k=Ap n (nx ts k)):=M2.o k au;have gi:(k:Int)<(ts.length:Int):=qg;have fe:(0:Int)<=(k:Int):=qg
   by_cases h3:2002<(nx ts k).size
   ·have HN:Hd (¬ Gu n ts rs):=λh=>by have:=h.1.2.1 k au;omega
    exact qje
   ·have iq:Hd (∀i,i<k+1->(nx ts i).size<=2002):=Ds HK.o qg
    generalize nx ts k=x at *;have d3:decide ((2002:Int)<(x.size:Int))=false:=qj;have I8:x.size<=1048576:=qg;unfold maxLen at jb;obtain⟨q,eq⟩:=Aj (Ap n x);have mx:Hd (∀W:E,Calls prog 18 #[S x,I n] W λe w'=>e=H (S q)/\Bw W w'):=λW=>qfo;(have HQ:Hd (nx ss k=q):=by show nx ss k=q;rw[HX.o,eq]);clear eq;go_wp2_with fail
    go_region_held3 (λw'=>(w'.cell? ⟨w.heap.size,0,N⟩=M (I n)/\w'.cell? ⟨w.heap.size,1,N⟩=M (J (M ⟨b,off,N⟩) ts.length tc)/\w'.cell? ⟨w.heap.size,2,N⟩=M (J ra rs.length rc))/\w'.cell? ⟨b,off+k,N⟩=M (S x))
     (first|assumption|(simp[*];done)|exact⟨⟨Aa a9 qu,Aa a9 qu,Aa a9 qu⟩,Aa a9 qu⟩)
     (first|(go_at_call 18;refine(mx.o _).mono ?_;rintro e w2 ⟨rfl,a9⟩))
    all_goals
     have z0:=Aa a9 (Aa ce y0);have z1:=Aa a9 (Aa ce y1);have z2:=Aa a9 (Aa ce y2);have bp:=bt bu (bt ce a9);clear y0 y1 y2 c1
     by_cases fh:k=0
     ·have dk:decide (0<k)=false:=qj
      have N9:Hd (∀j,1<=j->j<k+1->Aw (nx ss (j-1)) (nx ss j)=true):=Yc HA.o (Or.inl fh);clear fh;exact qiw
     ·have dk:decide (0<k)=true:=qj
      (have HBE:Hd (nx ss (k-1)=bf):=by rcases HBF.o with h|h;exact absurd h fh;exact h.symm);obtain⟨v,hv⟩:=Aj (Aw bf q);(have HV:Hd (Aw (nx ss (k-1)) (nx ss k)=v):=by show Aw (nx ss (k-1)) (nx ss k)=v;rw[HBE.o,HQ.o];exact hv);unfold Aw at hv;have HK1':Hd (k≠0):=fh;clear fh;cases v
      ·have HN:Hd (¬ Gu n ts rs):=λh=>by
        have h3:=(HAS.o.mpr h.1.2.2) k (zo HK1'.o) (zo jy.o);rw[HV.o]at h3;cases h3
       go_wp2_with fail;go_ret;exact⟨bp,false,rfl,Fh HN.o⟩
      ·have N9:Hd (∀j,1<=j->j<k+1->Aw (nx ss (j-1)) (nx ss j)=true):=Yc HA.o (Or.inr HV.o)
       exact qiw
  ·have jl:Hd (Yd n ts):=⟨hl5,λi hi=>HK.o i qg,HAS.o.mp (λj hj1 hj2=>HA.o j hj1 (zo jy.o))⟩
   clear HK HA HBF;go_wp2_with fail
   go_loopw [6] (λi wq=>∃(m:X),m<=rs.length/\i=I m/\Hd (∀i,i<m->Gq n (qx rs i))/\wq.cell? ⟨w.heap.size,0,N⟩=M (I n)/\wq.cell? ⟨w.heap.size,2,N⟩=M (J ra rs.length rc)/\Bw w wq) (λi _=>rs.length-(intOf i).toNat)
   case atStart=>exact⟨0,Nat.zero_le _,rfl,(λi hi=>by omega:∀i,i<0->Gq n (qx rs i)),y0,y2,bu⟩
   case round=>
    clear y0 y1 y2 bu ce;obtain⟨m,hm,rfl,HK,y0,y2,bu⟩:=hrel
    by_cases D1:m<rs.length
    ·have hq:=HI.o.qs.bl bu
     obtain⟨b,off,rfl,ca,cc,la,lc,c1,c2,c3,c4,c5⟩:=hq.rq m D1;have un:Tg _ ca (qx rs m).code la (qx rs m).looks:=⟨c4,c5,(hq.sm.2 m D1).1,(hq.sm.2 m D1).2,hq.ok.xc m,hq.ok.ng m,hq.ok.sg m⟩;have hou:=hq.ok.so m;have HG1:Hd (Gq n (qx rs m)->∀i,i<m+1->Gq n (qx rs i)):=λhg=>Ds HK.o hg;have HG0:Hd (¬ Gq n (qx rs m)->¬ Gu n ts rs):=λhg h=>hg (h.2.2 m D1);clear hq c4 c5;generalize qx rs m=x at *;obtain⟨xc,xl,xo⟩:=x;simp only at *;have gi:(m:Int)<(rs.length:Int):=qg;have fe:(0:Int)<=(m:Int):=qg;have vg:Hd (∀W:E,Bw wr W->Calls prog 19 #[G #[J ca xc.length cc,J la xl.length lc,S xo],I n] W λe w'=>Bw W w'/\∃b,e=H (F b)/\(b=true↔Gq n ⟨xc,xl,xo⟩)):=λW hW=>Rp ca la cc lc xc xl xo n W h8 ⟨un.rc.bl hW,un.rg.bl hW,un.lc,un.lg,un.xc,un.ng,un.sg⟩ hou;clear un
     by_cases hx:Gq n ⟨xc,xl,xo⟩
     ·have HO:Hd (∀i,i<m+1->Gq n (qx rs i)):=HG1.o hx
      have fj:Hd (∀W:E,Bw wr W->Calls prog 19 #[G #[J ca xc.length cc,J la xl.length lc,S xo],I n] W λe w'=>Bw W w'/\e=H (F true)):=λW hW=>(vg.o W hW).mono (λe w' ⟨h1,b,h2,h3⟩=>⟨h1,by rw[h2];rcases Sh h3 with⟨hg,rfl⟩|⟨hg,rfl⟩<;>first|rfl|exact absurd hx hg|exact absurd hg hx⟩);clear vg;have ce:Bw wr wr.drew:=(Below.refl _ _).drew;go_wp2_with fail
      go_region_held3 (λw'=>(w'.cell? ⟨w.heap.size,0,N⟩=M (I n)/\w'.cell? ⟨w.heap.size,2,N⟩=M (J (M ⟨b,off,N⟩) rs.length rc))/\(w'.cell? ⟨b,off+m*3,N⟩=M (J ca xc.length cc)/\w'.cell? ⟨b,off+m*3+1,N⟩=M (J la xl.length lc)/\w'.cell? ⟨b,off+m*3+2,N⟩=M (S xo)))
       (first|assumption|(simp[*];done)|exact⟨⟨Aa a9 qu,Aa a9 qu⟩,Aa a9 qu,Aa a9 qu,Aa a9 qu⟩)
       (first|(go_at_call 19;refine(fj.o _ ce).mono ?_;rintro e w2 ⟨a9,rfl⟩))
      all_goals
       have z0:=Aa a9 (Aa ce y0);have z2:=Aa a9 (Aa ce y2);have bp:=bt bu (bt ce a9);clear y0 y2 c1 c2 c3;go_wp2_with fail;go_roundw
       case rel=>exact⟨m+1,qg,qp,HO.o,z0,z2,bp⟩
       case measure=>simp[intOf];omega
     ·have HO:Hd (¬ Gu n ts rs):=HG0.o hx
      have fj:Hd (∀W:E,Bw wr W->Calls prog 19 #[G #[J ca xc.length cc,J la xl.length lc,S xo],I n] W λe w'=>Bw W w'/\e=H (F false)):=λW hW=>(vg.o W hW).mono (λe w' ⟨h1,b,h2,h3⟩=>⟨h1,by rw[h2];rcases Sh h3 with⟨hg,rfl⟩|⟨hg,rfl⟩<;>first|rfl|exact absurd hx hg|exact absurd hg hx⟩);clear vg;have ce:Bw wr wr.drew:=(Below.refl _ _).drew;go_wp2_with fail
      go_region_held3 (λw'=>(w'.cell? ⟨w.heap.size,0,N⟩=M (I n)/\w'.cell? ⟨w.heap.size,2,N⟩=M (J (M ⟨b,off,N⟩) rs.length rc))/\(w'.cell? ⟨b,off+m*3,N⟩=M (J ca xc.length cc)/\w'.cell? ⟨b,off+m*3+1,N⟩=M (J la xl.length lc)/\w'.cell? ⟨b,off+m*3+2,N⟩=M (S xo)))
       (first|assumption|(simp[*];done)|exact⟨⟨Aa a9 qu,Aa a9 qu⟩,Aa a9 qu,Aa a9 qu,Aa a9 qu⟩)
       (first|(go_at_call 19;refine(fj.o _ ce).mono ?_;rintro e w2 ⟨a9,rfl⟩))
      all_goals
       have z0:=Aa a9 (Aa ce y0);have z2:=Aa a9 (Aa ce y2);have bp:=bt bu (bt ce a9);clear y0 y2 c1 c2 c3;go_wp2_with fail;go_ret;exact⟨bp,false,rfl,Fh HO.o⟩
    ·have HO:Hd (Gu n ts rs):=⟨jl.o,xq,λi hi=>HK.o i qg⟩
     go_wp2_with fail;exact qew
theorem Ei(n:Int)(ta ra:Option Addr)(tc rc:X)(ts:L By)(rs:L T3)(w:E)(h:Jy w ta ts ra rs):Calls prog 5 #[G #[I n,J ta ts.length tc,J ra rs.length rc]] w λe w'=>Bw w w'/\∃b,e=H (F b)/\(b=true↔Cz n ts rs):=by
 by_cases hc:(1<=n/\n<=8)/\ts.length<=5000/\rs.length<=2000
 ·obtain⟨m,rfl⟩:=Int.eq_ofNat_of_zero_le (show 0<=n from qg)
  refine(Mn m ta ra tc rc ts rs w qg qg hc.2.1 hc.2.2 h).mono λe w' ⟨h1,b,h2,h3⟩=>⟨h1,b,h2,?_⟩;rw[h3];exact⟨λk=>⟨hc.1.1,hc.1.2,k⟩,λk=>k.2.2⟩
 ·refine(Mz n ta ra tc rc ts rs w h.lt h.qs.sm.1 qg).mono λe w' ⟨h1,h2⟩=>⟨h1,false,h2,Fh (λk=>hc ⟨⟨k.1,k.2.1⟩,k.2.2.1.1,k.2.2.2.1⟩)⟩
end Go.Proofs.YtoihflimijabjaaGreatDoor
