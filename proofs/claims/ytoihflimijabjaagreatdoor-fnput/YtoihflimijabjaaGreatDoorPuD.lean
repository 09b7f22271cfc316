import Derived.Test.YtoihflimijabjaaGreatDoorUnPT
namespace Go.Proofs.YtoihflimijabjaaGreatDoor
open Value renaming slice->J,string->S,agg->G,tuple->Y
open Option renaming some->M,none->N
open Obj renaming cells->O
open Go renaming World->E
open Ending renaming returned->H
open _root_ renaming List->L,Nat->X
set_option maxHeartbeats 2000000
set_option maxRecDepth 100000
open _root_.Go.Proofs.Tryz Go.RowKit Go.Deep
set_option linter.unusedVariables false
set_option linter.unusedSimpArgs false
variable {ss:L S2} {ts:L T2}
theorem Hz.setCell{w:E}{g:X}{is:L S2}(h:Hz w (p_ g) is){b j:X}(hb:b≠g)(v:Value):Hz (w.setCell ⟨b,j,N⟩ v) (p_ g) is:=by
 intro i hi;obtain⟨b',off,ha,h1,h2⟩:=h i hi;cases ha;have e:∀o,(w.setCell ⟨b,j,N⟩ v).cell? ⟨g,o,N⟩=w.cell? ⟨g,o,N⟩:=λo=>World.cell?_of_block (w:=w) (hC w ⟨b,j,N⟩ v g (λe=>hb e.symm));exact⟨g,0,rfl,by rw[e];exact h1,by rw[e];exact h2⟩

theorem Vj(sa ta:Option Addr)(n2 c1 c2:X)(ts:L S2)(s:By)(w:E)(hc:Hz w sa ts)(hl:ts.length≤1048576):Calls prog 88 #[G #[J sa ts.length c1,J ta n2 c2],S s] w λe w'=>Bw w w'∧∃r:Int,e=H (I r)∧((0≤r∧Hs (Av ts) s)∨(r<0∧¬ Hs (Av ts) s)):=by
 have ba:Bw w (w.alloc (O #[J sa ts.length c1,J ta n2 c2] 44)):=aN _ _;have k1:(w.alloc (O #[J sa ts.length c1,J ta n2 c2] 44)).cell? ⟨w.heap.size,0,N⟩=M (J sa ts.length c1):=qr;have HC:Hd (Hz (w.alloc (O #[J sa ts.length c1,J ta n2 c2] 44)) sa ts):=hc.bl ba;clear hc;go_enter func88,ntmps88;go_wp2
 go_loopw [5] (λi wr=>∃k:X,k≤ts.length∧i=I k∧Hd (∀j,j<k→(sx ts j).name≠s)∧(w.alloc (O #[J sa ts.length c1,J ta n2 c2] 44))=wr) (λi _=>ts.length-(intOf i).toNat)
 case atStart=>exact⟨0,Nat.zero_le _,rfl,(λj hj=>by omega:∀j,j<0→(sx ts j).name≠s),rfl⟩
 case round=>
  obtain⟨k,hk,rfl,HA,rfl⟩:=hrel
  by_cases au:k<ts.length
  ·obtain⟨b,off,rfl,mu,ml⟩:=HC.o k au
   have gi:(k:Int)<(ts.length:Int):=qg;obtain⟨nm,en⟩:=Aj ((sx ts k).name);have EN:Hd ((sx ts k).name=nm):=en;rw[en]at mu;clear en ml
   by_cases he:nm=s
   ·have jj:=Eu he
    have HE:Hd (nm=s):=he;clear he;go_wp2;go_ret;exact⟨ba,_,rfl,Or.inl ⟨qg,k,by rw[Bo];exact au,by rw[Dk,EN.o];exact HE.o⟩⟩
   ·exact qiu
  ·go_wp2
   go_ret;exact⟨ba,_,rfl,Or.inr ⟨qg,λ⟨j,hj,e⟩=>by rw[Bo]at hj;rw[Dk]at e;exact HA.o j qg e⟩⟩

open Classical in
noncomputable def Fs (ss:L S2) (ts:L T2) (t:By):Int:=if Gp ss ts≠0 then 1 else if ¬ Ay t then 2 else if ¬ (Hs (Av ss) t∨Hs (Au ts) t) then 4 else 0
open Classical in
noncomputable def Ud (ss:L S2) (ts:L T2) (t:By):L S2:=if Fs ss ts t=0 then Bl t ss else []
open Classical in
noncomputable def Uc (ss:L S2) (ts:L T2) (t:By):L T2:=if Fs ss ts t=0 then Bj t ts else []
theorem dropC1{t:By}(h:Gp ss ts≠0):Fs ss ts t=1:=by unfold Fs;rw[if_pos h]
theorem dropC2{t:By}(h:Gp ss ts=0)(h2:¬ Ay t):Fs ss ts t=2:=by unfold Fs;rw[if_neg (λk=>k h),if_pos h2]
theorem dropC4{t:By}(h:Gp ss ts=0)(h2:Ay t)(h3:¬ (Hs (Av ss) t∨Hs (Au ts) t)):Fs ss ts t=4:=by unfold Fs;rw[if_neg (λk=>k h),if_neg (λk=>k h2),if_pos h3]
theorem dropC0{t:By}(h:Gp ss ts=0)(h2:Ay t)(h3:Hs (Av ss) t∨Hs (Au ts) t):Fs ss ts t=0:=by unfold Fs;rw[if_neg (λk=>k h),if_neg (λk=>k h2),if_neg (λk=>k h3)]
theorem Qp{t:By}(h:Fs ss ts t≠0):Ud ss ts t=[]∧Uc ss ts t=[]:=by unfold Ud Uc;rw[if_neg h,if_neg h];exact⟨rfl,rfl⟩
theorem Nz{t:By}(h:Fs ss ts t=0):Ud ss ts t=Bl t ss∧Uc ss ts t=Bj t ts:=by unfold Ud Uc;rw[if_pos h,if_pos h];exact⟨rfl,rfl⟩
def Lz(lo:X)(w:E)(e:Ending)(ss:L S2)(ts:L T2)(t:By):Prop:=∃v1 v2,e=H (Y #[G #[v1,v2],I (Fs ss ts t)])∧Dm w lo w.heap.size v1 (Ud ss ts t)∧Ec w lo w.heap.size v2 (Uc ss ts t)
theorem Lz.no{lo:X}{w:E}{c:Int}{t:By}(h:Fs ss ts t=c)(h0:c≠0):Lz lo w (H (Y #[G #[nS,nS],I c])) ss ts t:=by
 have h1:Fs ss ts t≠0:=by rw[h];exact h0
 refine⟨_,_,by rw[h],?_,?_⟩
 ·rw[(Qp h1).1];exact Dm.nil _ _ _
 ·rw[(Qp h1).2];exact Ec.nil _ _ _

theorem Uw(sa ta:Option Addr)(c1 c2:X)(ss:L S2)(ts:L T2)(t:By)(w:E)(h:Ku w sa ss ta ts)(nf:Hi ss ts)(ht:t.size≤9223372036854775807):Calls prog 74 #[G #[J sa ss.length c1,J ta ts.length c2],S t] w λe w'=>Bw w w'∧Lz w.heap.size w' e ss ts t:=by
 have ba:Bw w ((w.alloc (O #[J sa ss.length c1,J ta ts.length c2] 44)).alloc (O #[nS,nS] 44)):=(aN _ _).alloc qi _;have p0:((w.alloc (O #[J sa ss.length c1,J ta ts.length c2] 44)).alloc (O #[nS,nS] 44)).cell? ⟨w.heap.size,0,N⟩=M (J sa ss.length c1):=qr;have p1:((w.alloc (O #[J sa ss.length c1,J ta ts.length c2] 44)).alloc (O #[nS,nS] 44)).cell? ⟨w.heap.size,1,N⟩=M (J ta ts.length c2):=qr
 have kb:((w.alloc (O #[J sa ss.length c1,J ta ts.length c2] 44)).alloc (O #[nS,nS] 44)).heap[w.heap.size+1]?=M (O #[nS,nS] 44 (0,0)):=by
  exact qim
 have hR:w.heap.size≤w.heap.size+1:=qg;go_enter func74,ntmps74;go_wp2_with fail;refine(Fm sa ta c1 c2 ss ts _ (h.bl ba) nf).mono ?_;rintro e w1 ⟨ah,rfl⟩;have db:=bt ba ah;replace p0:=Aa ah p0;replace p1:=Aa ah p1;have S3:w1.heap[w.heap.size+1]?=M (O #[nS,nS] 44 (0,0)):=by rw[ah.block _ (An kb)];exact kb
 obtain⟨r0,r1⟩:=ck2 S3;have fr:=fZ S3;have KB1:Hd (w1.heap[w.heap.size+1]?=M (O #[nS,nS] 44 (0,0))):=S3;clear ba ah kb S3
 by_cases hc:Gp ss ts=0
 ·have HC:Hd (Sp ss ts):=Vs hc
  rw[hc]
  by_cases hn:Ay t
  ·have gy:=Cr hn
   go_wp2_with (go_at_call 59;refine(Bb t _ ht).mono ?_;rintro e w9 ⟨rfl,rfl⟩;rw[gy])
   refine(Vj sa ta ts.length c1 c2 ss t _ (h.rs.bl db) nf.ls).mono ?_;rintro e w2 ⟨a9,Y8,rfl,hq⟩;have bp:=bt db a9;replace p0:=Aa a9 p0;replace p1:=Aa a9 p1;(have On:w2.heap[w.heap.size+1]?=M (O #[nS,nS] 44 (0,0)):=by rw[a9.block _ (An KB1.o)];exact KB1.o);(replace r0:w2.cell? ⟨w.heap.size+1,0,N⟩=M nS:=by rw[cH On];rfl);(replace r1:w2.cell? ⟨w.heap.size+1,1,N⟩=M nS:=by rw[cH On];rfl);replace fr:∀j,w2.frozen? ⟨w.heap.size+1,j,N⟩=false:=λj=>fH On j;have KB2:Hd (w2.heap[w.heap.size+1]?=M (O #[nS,nS] 44 (0,0))):=On;clear a9 On KB1
   rcases hq with hq|hq
   ·obtain⟨q1,q2⟩:=hq
    (have au:decide (Y8<0)=false:=by simpa using q1);have HD:Hd (Fs ss ts t=0):=dropC0 hc hn (Or.inl q2);clear hc hn q1 q2;go_wp2_with fail;refine(Hg sa ta c1 c2 ss ts t _ (h.rs.bl bp) (h.rt.bl bp) (zo HC.o.len) (zo HC.o.len) HC.o.codes).mono ?_;rintro e w5 ⟨cw,v1,v2,rfl,o1,o2⟩;have mj:=bt bp cw;(have R9:w5.heap[w.heap.size+1]?=M (O #[nS,nS] 44 (0,0)):=by rw[cw.block _ (An KB2.o)];exact KB2.o);obtain⟨s0,s1⟩:=ck2 R9;have fs:=fZ R9;have hz:w.heap.size+1<w2.heap.size:=An KB2.o;have fc:Hd (Dm w5 w2.heap.size w5.heap.size v1 (Bl t ss)):=o1;have oq:Hd (Ec w5 w2.heap.size w5.heap.size v2 (Bj t ts)):=o2;exact qht
   ·obtain⟨q1,q2⟩:=hq
    (have au:decide (Y8<0)=true:=by simpa using q1);go_wp2_with fail;refine(Ni sa ta ss.length c1 c2 ts t _ (h.rt.bl bp) nf.lt).mono ?_;rintro e w3 ⟨a9,Y7,rfl,hq⟩;have fm:=bt bp a9;replace p0:=Aa a9 p0;replace p1:=Aa a9 p1;(have S0:w3.heap[w.heap.size+1]?=M (O #[nS,nS] 44 (0,0)):=by rw[a9.block _ (An KB2.o)];exact KB2.o);(replace r0:w3.cell? ⟨w.heap.size+1,0,N⟩=M nS:=by rw[cH S0];rfl);(replace r1:w3.cell? ⟨w.heap.size+1,1,N⟩=M nS:=by rw[cH S0];rfl);replace fr:∀j,w3.frozen? ⟨w.heap.size+1,j,N⟩=false:=λj=>fH S0 j;have KB3:Hd (w3.heap[w.heap.size+1]?=M (O #[nS,nS] 44 (0,0))):=S0;clear a9 S0 KB2;clear au
    rcases hq with hq|hq
    ·obtain⟨q3,q4⟩:=hq
     (have au:decide (Y7<0)=false:=by simpa using q3);have HD:Hd (Fs ss ts t=0):=dropC0 hc hn (Or.inr q4);clear hc hn q1 q2 q3 q4;go_wp2_with fail;refine(Hg sa ta c1 c2 ss ts t _ (h.rs.bl fm) (h.rt.bl fm) (zo HC.o.len) (zo HC.o.len) HC.o.codes).mono ?_;rintro e w5 ⟨cw,v1,v2,rfl,o1,o2⟩;have mj:=bt fm cw;(have R9:w5.heap[w.heap.size+1]?=M (O #[nS,nS] 44 (0,0)):=by rw[cw.block _ (An KB3.o)];exact KB3.o);obtain⟨s0,s1⟩:=ck2 R9;have fs:=fZ R9;have hz:w.heap.size+1<w3.heap.size:=An KB3.o;have fc:Hd (Dm w5 w3.heap.size w5.heap.size v1 (Bl t ss)):=o1;have oq:Hd (Ec w5 w3.heap.size w5.heap.size v2 (Bj t ts)):=o2;exact qht
    ·obtain⟨q3,q4⟩:=hq
     (have au:decide (Y7<0)=true:=by simpa using q3);have HD:Hd (Fs ss ts t=4):=dropC4 hc hn (λhh=>hh.elim q2 q4);clear hc hn q1 q2 q3 q4;go_wp2_with fail;exact bR (v:=Y #[G #[nS,nS],I 4]) qfm rfl ⟨(fm.setCell (p:=⟨w.heap.size+1,0,N⟩) hR _).setCell (p:=⟨w.heap.size+1,1,N⟩) hR _,Lz.no HD.o qh⟩
  ·have gy:=Cg hn
   have HD:Hd (Fs ss ts t=2):=dropC2 hc hn;clear hn hc
   go_wp2_with (go_at_call 59;refine(Bb t _ ht).mono ?_;rintro e w9 ⟨rfl,rfl⟩;rw[gy])
   exact bR (v:=Y #[G #[nS,nS],I 2]) qfm rfl ⟨(db.setCell (p:=⟨w.heap.size+1,0,N⟩) hR _).setCell (p:=⟨w.heap.size+1,1,N⟩) hR _,Lz.no HD.o qh⟩
 ·have mh:(Gp ss ts != 0)=true:=qbj
  have HD:Hd (Fs ss ts t=1):=dropC1 hc;clear hc;generalize Gp ss ts=q at *;go_wp2_with fail;exact bR (v:=Y #[G #[nS,nS],I 1]) qfm rfl ⟨(db.setCell (p:=⟨w.heap.size+1,0,N⟩) hR _).setCell (p:=⟨w.heap.size+1,1,N⟩) hR _,Lz.no HD.o qh⟩

theorem Ss(a a':Option Addr)(cap ai n:X)(is:L I3)(w:E)(hn:n=is.length)(hc:Dl w a is)(U6:Dl w a' is)(hl:n≤1048576):Calls prog 42 #[G #[J a n cap],G #[J a' n ai]] w λe w'=>e=H (.bool true)∧Bw w w':=by
 obtain⟨W,eW⟩:=Aj ((w.alloc (O #[J a n cap] 53)).alloc (O #[J a' n ai] 53));have f7:Bw w W:=eW▸(aN _ _).alloc qi _;have c1:W.cell? ⟨w.heap.size,0,N⟩=M (J a n cap):=qbf;have c2:W.cell? ⟨w.heap.size+1,0,N⟩=M (J a' n ai):=qbf;have HN:Hd (n=is.length):=hn;clear hn;go_enter func42,ntmps42;go_wp2
 go_loopw [5] (λi wr=>∃k:X,k≤n∧i=I k∧wr.cell? ⟨w.heap.size,0,N⟩=M (J a n cap)∧wr.cell? ⟨w.heap.size+1,0,N⟩=M (J a' n ai)∧Bw w wr) (λi _=>n-(intOf i).toNat)
 case atStart=>exact⟨0,Nat.zero_le _,rfl,c1,c2,f7⟩
 case round=>
  clear c1 c2 f7 eW;obtain⟨k,hk,rfl,c1,c2,hB⟩:=hrel
  by_cases au:k<n
  ·obtain⟨b,off,rfl,e1,e2,e3⟩:=(hc.bl hB) k (zo HN.o)
   obtain⟨b',bq,rfl,f1,f2,f3⟩:=(U6.bl hB) k (zo HN.o);have gi:(k:Int)<(n:Int):=qg;have fe:(0:Int)≤(k:Int):=qg;generalize (ix is k).op=op at *;generalize (ix is k).text=tx at *;generalize (ix is k).n=nn at *;go_wp2_with fail
   go_region_held3 (λw'=>w'.cell? ⟨w.heap.size,0,N⟩=M (J (M ⟨b,off,N⟩) n cap)∧w'.cell? ⟨w.heap.size+1,0,N⟩=M (J (M ⟨b',bq,N⟩) n ai)∧w'.cell? ⟨b,off+k*3,N⟩=M (I op)∧w'.cell? ⟨b,off+k*3+1,N⟩=M (S tx)∧w'.cell? ⟨b,off+k*3+2,N⟩=M (I nn)∧w'.cell? ⟨b',bq+k*3,N⟩=M (I op)∧w'.cell? ⟨b',bq+k*3+1,N⟩=M (S tx)∧w'.cell? ⟨b',bq+k*3+2,N⟩=M (I nn))
    (first|assumption|(simp[*];done)) (fail)
   all_goals
    go_wp2;exact qlk
  ·have ek:k=n:=qg
   exact qda
end Go.Proofs.YtoihflimijabjaaGreatDoor
