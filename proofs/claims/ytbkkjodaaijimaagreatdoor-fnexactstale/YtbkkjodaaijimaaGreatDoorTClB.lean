import Derived.Test.YtbkkjodaaijimaaGreatDoorTChkA
import Derived.Test.YtbkkjodaaijimaaGreatDoorTNLook
namespace Go.Proofs.YtbkkjodaaijimaaGreatDoor
open _root_.Go.Proofs.Tryz Go.RowKit
open Value renaming slice->J,string->S,bool->F
open Option renaming some->M,none->N
open Obj renaming cells->O
open Go renaming Value->Z,World->E
open Ending renaming returned->H
open _root_ renaming List->L,Nat->X
set_option linter.unusedVariables false
set_option maxHeartbeats 8000000
set_option maxRecDepth 100000
set_option linter.unusedSimpArgs false
variable {B m i j:X} {w w' w3:E} {is:L I3} {s:St} {ss:L S2} {cd:Z} {st:Int} {ys:L R3} {ov:Bool} {e:Ending} {y:R3} {r:Res} {ts:L T2} {ls:L G3}
section
def Kc(B:X)(w:E)(a:Option Addr)(is:L I3):Prop:=Bu w a is/\∀b off,a=M ⟨b,off,N⟩->b<B
theorem Kc.belowB{B:X}{w w':E}{a:Option Addr}{is:L I3}(h:Kc B w a is)(hb:Below B w w'):Kc B w' a is:=by
 refine⟨λi hi=>?_,h.2⟩
 obtain⟨b,off,ha,h1,h2,h3⟩:=h.1 i hi
 have hl:=h.2 b off ha
 exact⟨b,off,ha,(hb.cell (p:=⟨b,off+i*3,N⟩) hl).trans h1,(hb.cell (p:=⟨b,off+i*3+1,N⟩) hl).trans h2,(hb.cell (p:=⟨b,off+i*3+2,N⟩) hl).trans h3⟩
theorem Bx.steps{B:X}{w:E}{m:X}{ss:L By}{cd:Z}{pl st lk:Int}(h:Bx B w m ss cd pl st lk)(p:Int):Bx B (w.setCell ⟨m,3,N⟩ (I p)) m ss cd pl p lk:=by
 obtain⟨hB,v,hm,ho⟩:=h
 refine⟨hB,v,?_,?_⟩
 ·exact qdj
 ·have hne:=hm.ne' ho;refine⟨ho.1,?_⟩
  rcases ho.2 with h0|⟨g,cap,cur,hv,hg,hh,r⟩
  ·exact Or.inl h0
  ·refine Or.inr ⟨g,cap,cur,hv,hg,?_,r⟩;rw[hC w ⟨m,3,N⟩ _ g qck];exact hh
theorem Bx.all{B:X}{w:E}{m:X}{ss:L By}{cd:Z}{pl st lk:Int}(h:Bx B w m ss cd pl st lk):∃ao cp,w.cell? ⟨m,0,N⟩=M (J ao ss.length cp)/\w.cell? ⟨m,1,N⟩=M cd/\w.cell? ⟨m,2,N⟩=M (I pl)/\w.cell? ⟨m,3,N⟩=M (I st)/\w.cell? ⟨m,4,N⟩=M (I lk)/\(∀j,w.frozen? ⟨m,j,N⟩=false)/\m<w.heap.size/\B<=m/\Fm w m (J ao ss.length cp) cd pl st lk:=by
 obtain⟨hB,v,hm,ho⟩:=h
 obtain⟨ao,cp,rfl⟩:∃ao cp,v=J ao ss.length cp:=by
  rcases ho.2 with⟨hv,h0⟩|⟨g,cap,cur,hv,_⟩
  ·exact⟨N,0,by rw[hv,h0]⟩
  ·exact⟨_,_,hv⟩
 exact⟨ao,cp,qbb,qbb,qbb,qbb,qbb,λj=>fH hm j,hm.lt,hB,hm⟩
theorem Ld{is:L I3}(h:Au is=true){k:X}(hk:k<is.length):∃(o:X)(t:By)(n:X),ix is k=⟨o,t,n⟩/\1<=o/\o<=15/\t.size<=2000/\n<=2000/\((o=10\/o=11)->n<=200):=by
 simp only[Au,Bool.and_eq_true,decide_eq_true_eq]at h
 have hi:=h.2 k hk
 generalize ix is k=i at hi ⊢
 obtain⟨op,t,n⟩:=i
 simp only[Gq,Bool.and_eq_true,decide_eq_true_eq]at hi
 obtain⟨⟨⟨⟨h1,h2⟩,h3⟩,h4⟩,h5⟩:=hi
 obtain⟨o,rfl⟩:=Int.eq_ofNat_of_zero_le (show 0<=op from qb)
 obtain⟨n',rfl⟩:=Int.eq_ofNat_of_zero_le h4
 have hm:Ma (Es o)<=2000:=by unfold Ma;split<;>omega
 have hn:Oe (Es o)<=2000:=by unfold Oe;split<;>(try split)<;>omega
 refine⟨o,t,n',rfl,qb,qb,qb,qb,λho=>?_⟩
 have:Oe (Es o)=200:=by rcases ho with rfl|rfl<;>rfl
 omega
theorem Dh{is:L I3}(h:Au is=true):1<=is.length/\is.length<=200:=by
 simp only[Au,Bool.and_eq_true,decide_eq_true_eq]at h
 omega
theorem Zz(o:X)(h:o<=15):Lk.getD o 0=((Ax o:X):Int):=by
 exact qej
theorem Kz{is:L I3}{s:St}(h:¬ s.pl<is.length):Cb is s=.over 2 (En s.pl) s.steps:=by unfold Cb;rw[if_pos qb]
theorem Jm{is:L I3}{s:St}(h:s.pl<is.length)(h2:s.steps=2000):Cb is s=.over 3 ⟨#[]⟩ s.steps:=by unfold Cb;rw[if_neg qb,if_pos h2]
theorem Ht{is:L I3}{s:St}{o:X}{t:By}{n:X}(h:s.pl<is.length)(h2:s.steps≠2000)(e:ix is s.pl=⟨o,t,n⟩):Cb is s=Lh ⟨o,t,n⟩ s:=by unfold Cb;rw[if_neg qb,if_neg h2,e]
section
variable {o:X} {t:By} {n:X} {s:St}
theorem Nq(h:s.stack.length<Ax o):Lh ⟨o,t,n⟩ s=.over 2 (En s.pl) (s.steps+1):=by
 simp only[Lh,Int.toNat_natCast];rw[if_pos h]
theorem Nr(h:¬ s.stack.length<Ax o)(ho:o=15):Lh ⟨o,t,n⟩ s=.over 0 (Bq s.stack) (s.steps+1):=by
 simp only[Lh,Int.toNat_natCast];rw[if_neg h,if_pos ho]
theorem Lg(h:¬ s.stack.length<Ax o)(ho:o=14):Lh ⟨o,t,n⟩ s=.over 1 (Bq s.stack) (s.steps+1):=by
 simp only[Lh,Int.toNat_natCast];rw[if_neg h,if_neg qb,if_pos ho]
theorem Lo(h:¬ s.stack.length<Ax o)(ho:o=12\/o=13)(hn:¬ Ar (Bq s.stack)):Lh ⟨o,t,n⟩ s=.over 2 (En s.pl) (s.steps+1):=by
 simp only[Lh,Int.toNat_natCast];rw[if_neg h,if_neg qb,if_neg qb,if_pos ho,if_pos hn]
theorem Hx(h:¬ s.stack.length<Ax o)(ho:o=12\/o=13)(hn:Ar (Bq s.stack))(hl:s.looks=200):Lh ⟨o,t,n⟩ s=.over 3 ⟨#[]⟩ (s.steps+1):=by
 simp only[Lh,Int.toNat_natCast];rw[if_neg h,if_neg qb,if_neg qb,if_pos ho,if_neg (λk=>k hn),if_pos hl]
theorem Js(h:¬ s.stack.length<Ax o)(ho:o=12\/o=13)(hn:Ar (Bq s.stack))(hl:s.looks≠200):Lh ⟨o,t,n⟩ s=.look (o == 12) (Bq s.stack) ⟨s.pl,Bl s.stack 1,s.steps+1,s.looks+1⟩:=by
 have ht:Ax o=1:=by rcases ho with rfl|rfl<;>rfl
 simp only[Lh,Int.toNat_natCast];rw[if_neg h,if_neg qb,if_neg qb,if_pos ho,if_neg (λk=>k hn),if_neg hl,ht]
theorem Hu(h:¬ s.stack.length<Ax o)(ho:o<=11)(hb:Su o t n s.stack):Lh ⟨o,t,n⟩ s=.over 2 (En s.pl) (s.steps+1):=by
 simp only[Lh,Int.toNat_natCast];unfold Su at hb;rw[if_neg h,if_neg qb,if_neg qb,if_neg qb,if_pos hb]
theorem Qm(h:¬ s.stack.length<Ax o)(ho:o<=11)(hb:¬ Su o t n s.stack):Lh ⟨o,t,n⟩ s=.go ⟨Ev o n s.pl (Bq s.stack),Bl s.stack (Ax o)++Cr o t n (Bq s.stack) (Iy s.stack),s.steps+1,s.looks⟩:=by
 simp only[Lh,Int.toNat_natCast];unfold Su at hb;rw[if_neg h,if_neg qb,if_neg qb,if_neg qb,if_neg hb]
end
theorem go_ok{is:L I3}{s:St}{o:X}{t:By}{n:X}(hs:Ec is s)(hl:is.length<=200)(hp:s.pl<is.length)(de:s.steps≠2000)(hn:(o=10\/o=11)->n<=200)(hb:¬ Su o t n s.stack):Ec is ⟨Ev o n s.pl (Bq s.stack),Bl s.stack (Ax o)++Cr o t n (Bq s.stack) (Iy s.stack),s.steps+1,s.looks⟩:=by
 unfold Su at hb
 have h1:=hs.steps
 refine⟨?_,?_,?_,?_,hs.looks⟩
 ·show Ev o n s.pl (Bq s.stack)<=200;unfold Ev;split
  ·exact hn qb
  ·split
   ·exact hn qb
   ·omega
 ·show(Bl s.stack (Ax o)++Cr o t n (Bq s.stack) (Iy s.stack)).length<=50;rw[List.length_append];have:¬ 50<(Bl s.stack (Ax o)).length+(Cr o t n (Bq s.stack) (Iy s.stack)).length:=λh=>hb (Or.inl h);omega
 ·intro x hx
  rcases List.mem_append.mp hx with hx|hx
  ·exact hs.size x (List.mem_of_mem_take hx)
  ·rcases Nat.lt_or_ge 2000 x.size with h|h
   ·exact absurd (Or.inr ⟨x,hx,h⟩) hb
   ·exact h
 ·show s.steps+1<=2000;omega
theorem Sx{is:L I3}{s:St}(hs:Ec is s)(de:s.steps≠2000)(hl:s.looks≠200):Ec is ⟨s.pl,Bl s.stack 1,s.steps+1,s.looks+1⟩:=by
 have h1:=hs.steps
 have h2:=hs.looks
 have h3:=hs.len
 refine⟨hs.pl,?_,λx hx=>hs.size x (List.mem_of_mem_take hx),?_,?_⟩
 ·show(Bl s.stack 1).length<=50;rw[Bj];omega
 ·show s.steps+1<=2000;omega
 ·show s.looks+1<=200;omega
def Zm:Array Z:=#[F false,I 0,ze,F false,ze,I 0]
def RunPost(is:L I3)(s:St)(B m:X)(cd:Z)(w:E)(e:Ending)(w':E):Prop:=
 KB B m w w'/\((∃c t n,Ny is s (.over c t n)/\e=H (Bb true c t false ⟨#[]⟩ n))\/(∃ask nm s',Ny is s (.look ask nm s')/\e=H (Bb false 0 ⟨#[]⟩ ask nm s'.steps)/\Ec is s'/\Bx B w' m s'.stack cd s'.pl s'.steps s'.looks))
theorem Yg(B m:X)(is:L I3)(a:Option Addr)(cap:X)(s0:St)(w:E)(hM:Bx B w m s0.stack (J a is.length cap) s0.pl s0.steps s0.looks)(hB:B<=w.heap.size)(bh:2<B)(dj:Kc B w a is)(hT:Kd w)(hP:Lj w)(hv:Au is=true)(hs0:Ec is s0):Calls prog 175 #[.pointer (p_ m)] w λe w'=>RunPost is s0 B m (J a is.length cap) w e w':=by
 have dh:=Dh hv
 have HV:Hd (Au is=true):=hv
 have HC:Hd (Kc B w a is):=dj
 have HT:Hd (Kd w):=hT
 have HP:Hd (Lj w):=hP
 have hm0:=hM.all
 obtain⟨_,_,_,_,_,_,_,_,sj,jj,_⟩:=hm0
 have HM0:Hd (Bx B (w.alloc (O Zm 192)) m s0.stack (J a is.length cap) s0.pl s0.steps s0.looks):=hM.bl (aN _ _)
 have pi:Hd (KB B m w (w.alloc (O Zm 192))):=KB.old (aN _ _) hB
 have vj:Hd ((w.alloc (O Zm 192)).heap[w.heap.size]?=M (O Zm 192 (0,0))):=Bf _ _
 have yp:Hd (Ec is s0):=hs0
 clear hv dj hT hP hM hs0
 unfold Zm at HM0 pi vj
 go_enter func175,ntmps175
 go_wp2
 go_loopg [] 2001 (λkx wr=>∃s:St,Hd (Ec is s)/\Hd (∀o,Ny is s o->Ny is s0 o)/\Hd (Bx B wr m s.stack (J a is.length cap) s.pl s.steps s.looks)/\Hd (KB B m w wr)/\Hd (wr.heap[w.heap.size]?=M (O #[F false,I 0,ze,F false,ze,I 0] 192 (0,0)))/\2001-s.steps<=kx)
 case atStart=>exact⟨s0,yp.o,λo h=>h,HM0.o,pi.o,vj.o,qb⟩
 case round=>
  clear HM0 pi vj yp;obtain⟨s,HS,HR,HM,HK,HB,hkx⟩:=hrel;obtain⟨ao,cp,m0,m1,m2,m3,m4,mf,pn,_,hmach⟩:=HM.o.all;have Z9:Hd (Fm wr.drew m (J ao s.stack.length cp) (J a is.length cap) s.pl s.steps s.looks):=hmach;have zl:=HS.o.pl;have de:=HS.o.steps;have o6:=HS.o.looks;clear hmach
  by_cases dr:s.pl<is.length
  ·have hplI:(s.pl:Int)<(is.length:Int):=qb
   by_cases fm:s.steps=2000
   ·have hst3:((s.steps:Int) == 2000)=true:=qh;have fh:Hd (Cb is s=.over 3 ⟨#[]⟩ s.steps):=Jm dr fm;have HKd:Hd (KB B m w wr.drew):=HK.o.drew;clear fm;go_wp2_with fail;go_region;go_wp2_with fail;refine(Jr m (J ao s.stack.length cp) _ s.pl s.steps s.looks 3 ⟨#[]⟩ _ Z9.o).mono ?_;rintro e w2 ⟨rfl,ag⟩;have hKB:KB B m w w2:=HKd.o.trans (KB.old ag (Nat.le_trans hB (Nat.le_trans HK.o.size (Nat.le_refl _))));have wg:Hd (KB B m w w2):=hKB;have aw:w2.heap[w.heap.size]?=M (O #[F false,I 0,ze,F false,ze,I 0] 192 (0,0)):=(by rw[ag.block _ (Ag HB.o)];exact HB.o);obtain⟨k0,k1,k2,k3,k4,k5⟩:=Xd aw;have f0:=fZ aw;clear aw ag hKB m0 m1 m2 m3 m4 mf;unfold Bb;go_wp2;exact bR (v:=Bb true 3 ⟨#[]⟩ false ⟨#[]⟩ s.steps) qbn rfl ⟨((((((wg.o).setN 0 hB _).setN 1 hB _).setN 2 hB _).setN 3 hB _).setN 4 hB _).setN 5 hB _,Or.inl ⟨3,⟨#[]⟩,s.steps,HR.o _ (.over fh.o),rfl⟩⟩
   ·have hst3:((s.steps:Int) == 2000)=false:=qh;obtain⟨o,t,n,ei,kd,jq,ht,hn,hn2⟩:=Ld HV.o dr;obtain⟨b,off,rfl,d1,d2,d3⟩:=(HC.o.belowB HK.o.bl).1 s.pl dr;have gh:=(HC.o).2 b off rfl;rw[ei]at d1 d2 d3;have EI:Hd (ix is s.pl=⟨o,t,n⟩):=ei;obtain⟨t1,t2,t3⟩:=(HT.o.belowB HK.o.bl qb) o qb;have zx:b≠m:=qb;have h0m:0≠m:=qb;clear ei t1 t2;obtain⟨W1,xj⟩:=Aj (wr.setCell ⟨m,3,N⟩ (I ((s.steps:Int)+1)));(have xu:Hd (Bx B W1 m s.stack (J (M ⟨b,off,N⟩) is.length cap) s.pl ((s.steps:Int)+1) s.looks):=by rw[<- xj];exact HM.o.steps _);(have du:Hd (KB B m w W1):=by rw[<- xj];exact HK.o.setM 3 jj _);(have ff:Hd (W1.heap[w.heap.size]?=M (O #[F false,I 0,ze,F false,ze,I 0] 192 (0,0))):=by rw[<- xj,hC wr ⟨m,3,N⟩ _ _ qh];exact HB.o);(have hW1l:W1.heap.size=wr.heap.size:=by rw[<- xj];simp[go_sem]);obtain⟨n0,np,g0,g1,g2,g3,g4,gf,gml,_,gmach⟩:=xu.o.all;have ky:=alK W1;obtain⟨b',bp,eb,e1,e2,e3⟩:=(HC.o.belowB du.o.bl).1 s.pl dr;simp only[Option.some.injEq,Addr.mk.injEq,and_true]at eb;obtain⟨rfl,rfl⟩:=eb;rw[EI.o]at e1 e2 e3;obtain⟨_,_,e4⟩:=(HT.o.belowB du.o.bl qb) o qb;rw[Zz o jq]at e4;have a1:=λx=>ky _ _ x e1;have a2:=λx=>ky _ _ x e2;have a3:=λx=>ky _ _ x e3;have a4:=λx=>ky _ _ x e4;have a5:=λx=>ky _ _ x g0;have a6:=λx=>ky _ _ x g2;clear ky;go_wp2;go_region;go_wp2;clear xj m0 m1 m2 m3 m4 mf d1 d2 d3 t3;go_region;go_wp2;go_region;obtain⟨W2,eW2⟩:=Aj ((W1.alloc (O #[I o,S t,I n] 143)).drew.drew.drew);(have X1:Bw W1 W2:=by rw[<- eW2];exact(aN _ _).drew.drew.drew);have ku:Hd (Bx B W2 m s.stack (J (M ⟨b,off,N⟩) is.length cap) s.pl ((s.steps:Int)+1) s.looks):=xu.o.bl X1;have fs:Hd (KB B m w W2):=du.o.trans (KB.old X1 (Nat.le_trans hB du.o.size))
    have fw:Hd (W2.heap[w.heap.size]?=M (O #[F false,I 0,ze,F false,ze,I 0] 192 (0,0))):=by
     rw[X1.block _ (by rw[hW1l];exact Ag HB.o)];exact ff.o
    have HX:Hd (W2.heap[wr.heap.size]?=M (O #[I o,S t,I n] 143 (0,0))):=by
     rw[<- eW2,<- hW1l];exact Bf _ _
    obtain⟨x0,x1,x2⟩:=ck3 HX.o;have be:B<=W2.heap.size:=Nat.le_trans hB fs.o.size;have pg:Hd (Lj W2):=HP.o.belowB fs.o.bl bh;obtain⟨q0,qp,_,_,_,_,_,_,_,_,Y4⟩:=ku.o.all;have HMA:Hd (Fm W2 m (J q0 s.stack.length qp) (J (M ⟨b,off,N⟩) is.length cap) s.pl ((s.steps:Int)+1) s.looks):=Y4;rw[eW2];clear Y4 eW2 X1 a1 a2 a3 a4 a5 a6 e1 e2 e3 e4 g0 g1 g2 g3 g4 gf gml gmach xu du HB Z9 HM HK;have O0:Hd (Cb is s=Lh ⟨o,t,n⟩ s):=Ht dr fm EI.o
    by_cases fe:s.stack.length<Ax o
    ·have htkI:(s.stack.length:Int)<(Ax o:Int):=qb;have fh:Hd (Cb is s=.over 2 (En s.pl) (s.steps+1)):=O0.o.trans (Nq fe);go_wp2_with fail;refine(Np m _ _ s.pl _ s.looks _ HMA.o pg.o qb qb).mono ?_;rintro e w2 ⟨rfl,ag⟩;have wg:Hd (KB B m w w2):=fs.o.trans (KB.old ag be);have aw:w2.heap[w.heap.size]?=M (O #[F false,I 0,ze,F false,ze,I 0] 192 (0,0)):=(by rw[ag.block _ (Ag fw.o)];exact fw.o);exact qhq
    ·have htkI:¬ (s.stack.length:Int)<(Ax o:Int):=qb;have wo:=HS.o.len
     rcases(show o<=11\/o=12\/o=13\/o=14\/o=15 from qb)with ho|rfl|rfl|rfl|rfl
     ·have d12:((o:Int) == 12)=false:=qh;have d13:((o:Int) == 13)=false:=qh;have d14:((o:Int) == 14)=false:=qh;have d15:((o:Int) == 15)=false:=qh;go_wp2_with fail;refine(work_any B m s.stack _ s.pl _ s.looks t n _ o ku.o be zl hn wo HS.o.size ht kd ho qb).mono ?_;rintro e w3 ⟨ia,⟨rfl,pq,ji⟩|⟨rfl,pq,I2,ji⟩⟩
      ·have fh:Hd (Cb is s=.go ⟨Ev o n s.pl (Bq s.stack),Bl s.stack (Ax o)++Cr o t n (Bq s.stack) (Iy s.stack),s.steps+1,s.looks⟩):=O0.o.trans (Qm fe ho pq);have B5:Hd (Bx B w3 m (Bl s.stack (Ax o)++Cr o t n (Bq s.stack) (Iy s.stack)) (J (M ⟨b,off,N⟩) is.length cap) (Ev o n s.pl (Bq s.stack):X) ((s.steps:Int)+1) s.looks):=ji;have HBD:Hd (¬ Su o t n s.stack):=pq;have ph:Hd (KB B m W2 w3):=ia;clear ji pq ia;go_wp2_with fail
       go_roundg (2001-(s.steps+1))
       case rel=>exact⟨⟨Ev o n s.pl (Bq s.stack),Bl s.stack (Ax o)++Cr o t n (Bq s.stack) (Iy s.stack),s.steps+1,s.looks⟩,go_ok HS.o dh.2 dr fm hn2 HBD.o,λo' h=>HR.o o' (.go fh.o h),B5.o,fs.o.trans ph.o,ph.o.keep _ _ 192 qd qb fw.o,qg⟩
       case measure=>omega
      ·have fh:Hd (Cb is s=.over 2 (En s.pl) (s.steps+1)):=O0.o.trans (Hu fe ho pq);obtain⟨z0,zp,_,_,_,_,_,_,_,_,gm3⟩:=ji.all;have HG3:Hd (Fm w3 m _ _ s.pl ((s.steps:Int)+1) s.looks):=gm3;have ph:Hd (KB B m w w3):=fs.o.trans ia;have d7:Hd (w3.heap[w.heap.size]?=M (O #[F false,I 0,ze,F false,ze,I 0] 192 (0,0))):=ia.keep _ _ 192 qd qb fw.o;have HP3:Hd (Lj w3):=HP.o.belowB ph.o.bl bh;clear ji pq ia gm3;go_wp2_with fail;refine(Np m _ _ s.pl _ s.looks _ HG3.o HP3.o qb qb).mono ?_;rintro e w2 ⟨rfl,ag⟩;have wg:Hd (KB B m w w2):=ph.o.trans (KB.old ag (Nat.le_trans hB ph.o.size));have aw:w2.heap[w.heap.size]?=M (O #[F false,I 0,ze,F false,ze,I 0] 192 (0,0)):=qgc;exact qhq
     ·(have wi:1<=s.stack.length:=by have:Ax 12=1:=rfl;omega);have d9:=Jn wi;have kl:=Bj s.stack 1;have hx1:=HS.o.size _ (Gx wi);have tw:Hd (Bx B W2 m (Bl s.stack 1++[Bq s.stack]) (J (M ⟨b,off,N⟩) is.length cap) s.pl ((s.steps:Int)+1) s.looks):=qea;clear d9
      by_cases cm:Ar (Bq s.stack)
      ·by_cases F2:s.looks=200
       ·have fh:Hd (Cb is s=.over 3 ⟨#[]⟩ (s.steps+1)):=O0.o.trans (Hx fe qb cm F2);go_wp2_with fail;refine(Tv B m _ _ _ s.pl _ s.looks true _ tw.o be qb hx1 pg.o bh qb qb cm qb).mono ?_;exact qhi
       ·have fh:Hd (Cb is s=.look true (Bq s.stack) ⟨s.pl,Bl s.stack 1,s.steps+1,s.looks+1⟩):=O0.o.trans (Js fe qb cm F2);go_wp2_with fail;refine(Wu B m _ _ _ s.pl _ s.looks true _ tw.o be qb hx1 cm qb qb).mono ?_;rintro e w2 ⟨rfl,ag,hM5⟩;have wg:Hd (KB B m w w2):=fs.o.trans ag;have HM5:Hd (Bx B w2 m (Bl s.stack 1) (J (M ⟨b,off,N⟩) is.length cap) s.pl ((s.steps:Int)+1) ((s.looks:Int)+1)):=hM5;have HBK:Hd (w2.heap[w.heap.size]?=M (O #[F false,I 0,ze,F false,ze,I 0] 192 (0,0))):=ag.keep _ _ 192 qd qb fw.o;clear hM5;have aw:w2.heap[w.heap.size]?=M (O #[F false,I 0,ze,F false,ze,I 0] 192 (0,0)):=HBK.o;obtain⟨k0,k1,k2,k3,k4,k5⟩:=Xd aw;have f0:=fZ aw;clear aw x0 x1 x2;unfold Bb;go_wp2;exact bR (v:=Bb false 0 ⟨#[]⟩ true (Bq s.stack) ((s.steps:Int)+1)) qbn rfl ⟨((((((wg.o).setN 0 hB _).setN 1 hB _).setN 2 hB _).setN 3 hB _).setN 4 hB _).setN 5 hB _,Or.inr ⟨true,Bq s.stack,⟨s.pl,Bl s.stack 1,s.steps+1,s.looks+1⟩,HR.o _ (.look fh.o),rfl,Sx HS.o fm F2,(Bx.turn (Bx.turn (Bx.turn (Bx.turn (Bx.turn (Bx.turn ⟨HM5.o,_,HBK.o⟩ 0 _) 1 _) 2 _) 3 _) 4 _) 5 _).1⟩⟩
      ·have fh:Hd (Cb is s=.over 2 (En s.pl) (s.steps+1)):=O0.o.trans (Lo fe qb cm);go_wp2_with fail;refine(look_bad B m _ _ _ s.pl _ s.looks true _ tw.o be qb hx1 pg.o bh qb qb cm).mono ?_;exact qhh
     ·(have wi:1<=s.stack.length:=by have:Ax 13=1:=rfl;omega);have d9:=Jn wi;have kl:=Bj s.stack 1;have hx1:=HS.o.size _ (Gx wi);have tw:Hd (Bx B W2 m (Bl s.stack 1++[Bq s.stack]) (J (M ⟨b,off,N⟩) is.length cap) s.pl ((s.steps:Int)+1) s.looks):=qea;clear d9
      by_cases cm:Ar (Bq s.stack)
      ·by_cases F2:s.looks=200
       ·have fh:Hd (Cb is s=.over 3 ⟨#[]⟩ (s.steps+1)):=O0.o.trans (Hx fe qb cm F2);go_wp2_with fail;refine(Tv B m _ _ _ s.pl _ s.looks false _ tw.o be qb hx1 pg.o bh qb qb cm qb).mono ?_;exact qhi
       ·have fh:Hd (Cb is s=.look false (Bq s.stack) ⟨s.pl,Bl s.stack 1,s.steps+1,s.looks+1⟩):=O0.o.trans (Js fe qb cm F2);go_wp2_with fail;refine(Wu B m _ _ _ s.pl _ s.looks false _ tw.o be qb hx1 cm qb qb).mono ?_;rintro e w2 ⟨rfl,ag,hM5⟩;have wg:Hd (KB B m w w2):=fs.o.trans ag;have HM5:Hd (Bx B w2 m (Bl s.stack 1) (J (M ⟨b,off,N⟩) is.length cap) s.pl ((s.steps:Int)+1) ((s.looks:Int)+1)):=hM5;have HBK:Hd (w2.heap[w.heap.size]?=M (O #[F false,I 0,ze,F false,ze,I 0] 192 (0,0))):=ag.keep _ _ 192 qd qb fw.o;clear hM5;have aw:w2.heap[w.heap.size]?=M (O #[F false,I 0,ze,F false,ze,I 0] 192 (0,0)):=HBK.o;obtain⟨k0,k1,k2,k3,k4,k5⟩:=Xd aw;have f0:=fZ aw;clear aw x0 x1 x2;unfold Bb;go_wp2;exact bR (v:=Bb false 0 ⟨#[]⟩ false (Bq s.stack) ((s.steps:Int)+1)) qbn rfl ⟨((((((wg.o).setN 0 hB _).setN 1 hB _).setN 2 hB _).setN 3 hB _).setN 4 hB _).setN 5 hB _,Or.inr ⟨false,Bq s.stack,⟨s.pl,Bl s.stack 1,s.steps+1,s.looks+1⟩,HR.o _ (.look fh.o),rfl,Sx HS.o fm F2,(Bx.turn (Bx.turn (Bx.turn (Bx.turn (Bx.turn (Bx.turn ⟨HM5.o,_,HBK.o⟩ 0 _) 1 _) 2 _) 3 _) 4 _) 5 _).1⟩⟩
      ·have fh:Hd (Cb is s=.over 2 (En s.pl) (s.steps+1)):=O0.o.trans (Lo fe qb cm);go_wp2_with fail;refine(look_bad B m _ _ _ s.pl _ s.looks false _ tw.o be qb hx1 pg.o bh qb qb cm).mono ?_;exact qhh
     ·(have wi:1<=s.stack.length:=by have:Ax 14=1:=rfl;omega);have d9:=Jn wi;have kl:=Bj s.stack 1;have tw:Hd (Bx B W2 m (Bl s.stack 1++[Bq s.stack]) (J (M ⟨b,off,N⟩) is.length cap) s.pl ((s.steps:Int)+1) s.looks):=qea;clear d9;have fh:Hd (Cb is s=.over 1 (Bq s.stack) (s.steps+1)):=O0.o.trans (Lg fe rfl);go_wp2_with fail;refine(Cg B m _ _ _ s.pl _ s.looks _ tw.o be qb).mono ?_;rintro e w3 ⟨rfl,ia,ji,jx⟩;obtain⟨z0,zp,_,_,_,_,_,_,_,_,gm3⟩:=ji.all;have HG3:Hd (Fm w3 m _ _ s.pl ((s.steps:Int)+1) s.looks):=gm3;have ph:Hd (KB B m w w3):=fs.o.trans ia;have d7:Hd (w3.heap[w.heap.size]?=M (O #[F false,I 0,ze,F false,ze,I 0] 192 (0,0))):=ia.keep _ _ 192 qd qb fw.o;clear ji ia gm3 jx;go_wp2_with fail;refine(Jr m _ _ s.pl _ s.looks 1 (Bq s.stack) _ HG3.o).mono ?_;rintro e w2 ⟨rfl,ag⟩;have wg:Hd (KB B m w w2):=ph.o.trans (KB.old ag (Nat.le_trans hB ph.o.size));have aw:w2.heap[w.heap.size]?=M (O #[F false,I 0,ze,F false,ze,I 0] 192 (0,0)):=qgc;obtain⟨k0,k1,k2,k3,k4,k5⟩:=Xd aw;have f0:=fZ aw;clear aw x0 x1 x2;unfold Bb;go_wp2;exact bR (v:=Bb true 1 (Bq s.stack) false ⟨#[]⟩ ((s.steps:Int)+1)) qbn rfl ⟨((((((wg.o).setN 0 hB _).setN 1 hB _).setN 2 hB _).setN 3 hB _).setN 4 hB _).setN 5 hB _,Or.inl ⟨1,(Bq s.stack),s.steps+1,HR.o _ (.over fh.o),rfl⟩⟩
     ·(have wi:1<=s.stack.length:=by have:Ax 15=1:=rfl;omega);have d9:=Jn wi;have kl:=Bj s.stack 1;have tw:Hd (Bx B W2 m (Bl s.stack 1++[Bq s.stack]) (J (M ⟨b,off,N⟩) is.length cap) s.pl ((s.steps:Int)+1) s.looks):=qea;clear d9;have fh:Hd (Cb is s=.over 0 (Bq s.stack) (s.steps+1)):=O0.o.trans (Nr fe rfl);go_wp2_with fail;refine(Cg B m _ _ _ s.pl _ s.looks _ tw.o be qb).mono ?_;rintro e w3 ⟨rfl,ia,ji,jx⟩;obtain⟨z0,zp,_,_,_,_,_,_,_,_,gm3⟩:=ji.all;have HG3:Hd (Fm w3 m _ _ s.pl ((s.steps:Int)+1) s.looks):=gm3;have ph:Hd (KB B m w w3):=fs.o.trans ia;have d7:Hd (w3.heap[w.heap.size]?=M (O #[F false,I 0,ze,F false,ze,I 0] 192 (0,0))):=ia.keep _ _ 192 qd qb fw.o;clear ji ia gm3 jx;go_wp2_with fail;refine(Jr m _ _ s.pl _ s.looks 0 (Bq s.stack) _ HG3.o).mono ?_;rintro e w2 ⟨rfl,ag⟩;have wg:Hd (KB B m w w2):=ph.o.trans (KB.old ag (Nat.le_trans hB ph.o.size));have aw:w2.heap[w.heap.size]?=M (O #[F false,I 0,ze,F false,ze,I 0] 192 (0,0)):=qgc;obtain⟨k0,k1,k2,k3,k4,k5⟩:=Xd aw;have f0:=fZ aw;clear aw x0 x1 x2;unfold Bb;go_wp2;exact bR (v:=Bb true 0 (Bq s.stack) false ⟨#[]⟩ ((s.steps:Int)+1)) qbn rfl ⟨((((((wg.o).setN 0 hB _).setN 1 hB _).setN 2 hB _).setN 3 hB _).setN 4 hB _).setN 5 hB _,Or.inl ⟨0,(Bq s.stack),s.steps+1,HR.o _ (.over fh.o),rfl⟩⟩
  ·have hplI:¬ (s.pl:Int)<(is.length:Int):=qb;have fh:Hd (Cb is s=.over 2 (En s.pl) s.steps):=Kz dr;have HPd:Hd (Lj wr.drew):=(HP.o.belowB HK.o.drew.bl bh);have HKd:Hd (KB B m w wr.drew):=HK.o.drew;go_wp2_with fail;go_region;go_wp2_with fail;refine(Np m (J ao s.stack.length cp) _ s.pl s.steps s.looks _ Z9.o HPd.o qb qb).mono ?_;rintro e w2 ⟨rfl,ag⟩;have hKB:KB B m w w2:=HKd.o.trans (KB.old ag (Nat.le_trans hB (Nat.le_trans HK.o.size (Nat.le_refl _))));have wg:Hd (KB B m w w2):=hKB;have aw:w2.heap[w.heap.size]?=M (O #[F false,I 0,ze,F false,ze,I 0] 192 (0,0)):=(by rw[ag.block _ (Ag HB.o)];exact HB.o);obtain⟨k0,k1,k2,k3,k4,k5⟩:=Xd aw;have f0:=fZ aw;clear aw ag hKB m0 m1 m2 m3 m4 mf;unfold Bb;go_wp2;exact bR (v:=Bb true 2 (En s.pl) false ⟨#[]⟩ s.steps) qfn rfl ⟨((((((wg.o).setN 0 hB _).setN 1 hB _).setN 2 hB _).setN 3 hB _).setN 4 hB _).setN 5 hB _,Or.inl ⟨2,En s.pl,s.steps,HR.o _ (.over fh.o),rfl⟩⟩
end
theorem KB.setB{b:X}(h:KB B m w w')(j:X)(hb:w.heap.size<=b)(hB:B<=b)(v:Z):KB B m w (w'.setCell ⟨b,j,N⟩ v):=⟨h.bl.setCell (p:=⟨b,j,N⟩) hB _,λb' cs T h1 h2 h3=>by rw[hC w' ⟨b,j,N⟩ _ b' (by have:=Ag h3;simp;omega)];exact h.keep b' cs T h1 h2 h3,λhm b' cs T h1 h2 h3=>⟨by rw[hC w' ⟨b,j,N⟩ _ b' (by have:=Ag h3;simp;omega)];exact(h.own hm b' cs T h1 h2 h3).1,λu hu=>(h.own hm b' cs T h1 h2 h3).2 u (by rw[World.cell?_setCell_far _ _ _ _ qh]at hu;exact hu)⟩⟩
def Un(is:L I3)(s:St)(B m:X)(cd:Z)(e:Ending)(w':E):Prop:=
 (∃c t n,Ny is s (.over c t n)/\e=H (Bb true c t false ⟨#[]⟩ n))\/(∃ask nm s',Ny is s (.look ask nm s')/\e=H (Bb false 0 ⟨#[]⟩ ask nm s'.steps)/\Ec is s'/\Bx B w' m s'.stack cd s'.pl s'.steps s'.looks)
def AnsPost(is:L I3)(ask:Bool)(nm:By)(y:R3)(s:St)(B m:X)(cd:Z)(w:E)(e:Ending)(w':E):Prop:=
 KB B m w w'/\((∃c t n,Et ask nm y s=.over c t n/\e=H (Bb true c t false ⟨#[]⟩ n))\/(∃s'',Et ask nm y s=.go s''/\Un is s'' B m cd e w'))
theorem Kw(hs:Ec is s)(hl:is.length<=200)(hp:s.pl<is.length)(ur:s.stack.length<50){x:By}(hx:x.size<=2000):Ec is ⟨s.pl+1,s.stack++[x],s.steps,s.looks⟩:=by
 refine⟨?_,?_,?_,hs.steps,hs.looks⟩
 ·show s.pl+1<=200;omega
 ·show(s.stack++[x]).length<=50;rw[List.length_append,List.length_singleton];omega
 ·intro z hz
  rcases List.mem_append.mp hz with hz|hz
  ·exact hs.size z hz
  ·obtain rfl:z=x:=by simpa using hz
   exact hx
theorem answer_any(B m:X)(is:L I3)(a:Option Addr)(cap:X)(ask:Bool)(nm:By)(y:R3)(s:St)(w:E)(hM:Bx B w m s.stack (J a is.length cap) s.pl s.steps s.looks)(hB:B<=w.heap.size)(bh:2<B)(dj:Kc B w a is)(hT:Kd w)(hP:Lj w)(hv:Au is=true)(hs:Ec is s)(dr:s.pl<is.length)(ur:s.stack.length<50)(hy:y.text.size<=2000):Calls prog 177 #[.pointer (p_ m),Bb false 0 ⟨#[]⟩ ask nm s.steps,.agg #[F y.has,I y.code,S y.text]] w λe w'=>AnsPost is ask nm y s B m (J a is.length cap) w e w':=by
 have dh:=Dh hv
 have zl:=hs.pl
 have HV:Hd (Au is=true):=hv
 have HC:Hd (Kc B w a is):=dj
 have HT:Hd (Kd w):=hT
 have HP:Hd (Lj w):=hP
 have HS:Hd (Ec is s):=hs
 obtain⟨_,_,_,_,_,_,_,_,sj,jj,_⟩:=hM.all
 have ak:Bw w (((w.alloc (O #[F false,I 0,ze,F ask,S nm,I s.steps] 192)).alloc (O #[F y.has,I y.code,S y.text] 196)).alloc (O #[F false,I 0,ze,F false,ze,I 0] 192)):=((aN _ _).alloc qg _).alloc qh _
 obtain⟨W,eW⟩:=Aj ((((w.alloc (O #[F false,I 0,ze,F ask,S nm,I s.steps] 192)).alloc (O #[F y.has,I y.code,S y.text] 196)).alloc (O #[F false,I 0,ze,F false,ze,I 0] 192)))
 rw[eW]at ak
 have xu:Hd (Bx B W m s.stack (J a is.length cap) s.pl s.steps s.looks):=hM.bl ak
 have du:Hd (KB B m w W):=KB.old ak hB
 have ik:Hd (W.heap[w.heap.size+1+1]?=M (O #[F false,I 0,ze,F false,ze,I 0] 192 (0,0))):=by
  rw[<- eW];have h:=Bf ((w.alloc (O #[F false,I 0,ze,F ask,S nm,I s.steps] 192)).alloc (O #[F y.has,I y.code,S y.text] 196)) (O #[F false,I 0,ze,F false,ze,I 0] 192);rw[show((w.alloc (O #[F false,I 0,ze,F ask,S nm,I s.steps] 192)).alloc (O #[F y.has,I y.code,S y.text] 196)).heap.size=w.heap.size+1+1 from qg]at h;exact h
 have hB1':B<=W.heap.size:=Nat.le_trans hB ak.size
 have rj:w.heap.size<=w.heap.size+1+1:=qb
 have rm:B<=w.heap.size+1+1:=qb
 have r0:W.cell? ⟨w.heap.size,3,N⟩=M (F ask):=qal
 have r1:W.cell? ⟨w.heap.size,4,N⟩=M (S nm):=qal
 have r2:W.cell? ⟨w.heap.size+1,0,N⟩=M (F y.has):=qal
 have r3:W.cell? ⟨w.heap.size+1,1,N⟩=M (I y.code):=qal
 have r4:W.cell? ⟨w.heap.size+1,2,N⟩=M (S y.text):=qal
 have hfl:(Cl y.has).size<=2000:=qcr
 clear hv dj hT hP hs hM ak
 unfold Bb
 cases ask
 ·go_enter func177,ntmps177
  go_wp2_with (go_at_call 179;refine(Qk _ _).mono ?_;rintro e w9 ⟨rfl,rfl⟩)
  clear eW;refine(Gh B m s.stack _ s.pl s.steps s.looks (Cl y.has) _ xu.o hB1' hfl ur).mono ?_;rintro e w1 ⟨rfl,af,fa⟩;have HMp:Hd (Bx B (w1.setCell ⟨m,2,N⟩ (I ((s.pl:Int)+1))) m (s.stack++[Cl y.has]) (J a is.length cap) ((s.pl:Int)+1) s.steps s.looks):=fa.place _;obtain⟨c2,f2,_,_⟩:=fa.cell2;have HKp:Hd (KB B m w (w1.setCell ⟨m,2,N⟩ (I ((s.pl:Int)+1)))):=(du.o.trans af).setM 2 jj _
  have HRp:Hd ((w1.setCell ⟨m,2,N⟩ (I ((s.pl:Int)+1))).heap[w.heap.size+1+1]?=M (O #[F false,I 0,ze,F false,ze,I 0] 192 (0,0))):=by
   exact qku
  clear fa af xu du ik r0 r1 r2 r3 r4;go_wp2_with fail;refine(Yg B m is a cap ⟨s.pl+1,s.stack++[Cl y.has],s.steps,s.looks⟩ _ HMp.o (Nat.le_trans hB HKp.o.size) bh (HC.o.belowB HKp.o.bl) (HT.o.belowB HKp.o.bl qb) (HP.o.belowB HKp.o.bl bh) HV.o (Kw HS.o dh.2 dr ur hfl)).mono ?_;rintro e w2 ⟨iw,ge⟩;have fs:Hd (KB B m w w2):=HKp.o.trans iw;have mx:Hd (w2.heap[w.heap.size+1+1]?=M (O #[F false,I 0,ze,F false,ze,I 0] 192 (0,0))):=iw.keep _ _ 192 qd qb HRp.o;have HG:Hd (Et false nm y s=.go ⟨s.pl+1,s.stack++[Cl y.has],s.steps,s.looks⟩):=show Et false nm y s=.go ⟨s.pl+1,s.stack++[Cl y.has],s.steps,s.looks⟩ from by simp[Et]
  clear c2 f2 iw
  rcases ge with⟨c,t,n,hru,rfl⟩|⟨it,nm',s',hru,rfl,hso,jn⟩
  ·have ki:Hd (Ny is ⟨s.pl+1,s.stack++[Cl y.has],s.steps,s.looks⟩ (.over c t n)):=hru;exact qhm
  ·have ki:Hd (Ny is ⟨s.pl+1,s.stack++[Cl y.has],s.steps,s.looks⟩ (.look it nm' s')):=hru;exact qhb
 ·by_cases hh:y.has=true
  ·have HY1:Hd (y.has=true):=hh;rw[hh]at r2 eW;rw[hh]
   by_cases hc:y.code=0
   ·have HY2:Hd (y.code=0):=hc;rw[hc]at r3 eW;rw[hc];go_enter func177,ntmps177;go_wp2_with fail;clear eW;refine(Gh B m s.stack _ s.pl s.steps s.looks (y.text) _ xu.o hB1' hy ur).mono ?_;rintro e w1 ⟨rfl,af,fa⟩;have HMp:Hd (Bx B (w1.setCell ⟨m,2,N⟩ (I ((s.pl:Int)+1))) m (s.stack++[y.text]) (J a is.length cap) ((s.pl:Int)+1) s.steps s.looks):=fa.place _;obtain⟨c2,f2,_,_⟩:=fa.cell2;have HKp:Hd (KB B m w (w1.setCell ⟨m,2,N⟩ (I ((s.pl:Int)+1)))):=(du.o.trans af).setM 2 jj _
    have HRp:Hd ((w1.setCell ⟨m,2,N⟩ (I ((s.pl:Int)+1))).heap[w.heap.size+1+1]?=M (O #[F false,I 0,ze,F false,ze,I 0] 192 (0,0))):=by
     exact qku
    clear fa af xu du ik r0 r1 r2 r3 r4;go_wp2_with fail;refine(Yg B m is a cap ⟨s.pl+1,s.stack++[y.text],s.steps,s.looks⟩ _ HMp.o (Nat.le_trans hB HKp.o.size) bh (HC.o.belowB HKp.o.bl) (HT.o.belowB HKp.o.bl qb) (HP.o.belowB HKp.o.bl bh) HV.o (Kw HS.o dh.2 dr ur hy)).mono ?_;rintro e w2 ⟨iw,ge⟩;have fs:Hd (KB B m w w2):=HKp.o.trans iw;have mx:Hd (w2.heap[w.heap.size+1+1]?=M (O #[F false,I 0,ze,F false,ze,I 0] 192 (0,0))):=iw.keep _ _ 192 qd qb HRp.o;(have HG:Hd (Et true nm y s=.go ⟨s.pl+1,s.stack++[y.text],s.steps,s.looks⟩):=show Et true nm y s=.go ⟨s.pl+1,s.stack++[y.text],s.steps,s.looks⟩ from by simp[Et,HY1.o,HY2.o]);clear c2 f2 iw
    rcases ge with⟨c,t,n,hru,rfl⟩|⟨it,nm',s',hru,rfl,hso,jn⟩
    ·have ki:Hd (Ny is ⟨s.pl+1,s.stack++[y.text],s.steps,s.looks⟩ (.over c t n)):=hru;exact qhm
    ·have ki:Hd (Ny is ⟨s.pl+1,s.stack++[y.text],s.steps,s.looks⟩ (.look it nm' s')):=hru;exact qhb
   ·(have hcb:(y.code == 0)=false:=by simpa using hc);(have HA:Hd (Et true nm y s=.over 5 nm s.steps):=show Et true nm y s=.over 5 nm s.steps from by simp[Et,HY1.o,hc]);obtain⟨z0,zp,_,_,_,_,_,_,_,_,gm⟩:=xu.o.all;have HG:Hd (Fm W m _ _ s.pl s.steps s.looks):=gm;clear gm;go_enter func177,ntmps177;go_wp2_with fail;clear eW;refine(Jr m _ _ s.pl s.steps s.looks 5 nm _ HG.o).mono ?_;rintro e w2 ⟨rfl,ag⟩;have fs:Hd (KB B m w w2):=du.o.trans (KB.old ag hB1');have aw:w2.heap[w.heap.size+1+1]?=M (O #[F false,I 0,ze,F false,ze,I 0] 192 (0,0)):=(by rw[ag.block _ (Ag ik.o)];exact ik.o);obtain⟨k0,k1,k2,k3,k4,k5⟩:=Xd aw;have f0:=fZ aw;clear aw r0 r1 r2 r3 r4;unfold Bb;go_wp2;exact bR (v:=Bb true 5 nm false ⟨#[]⟩ s.steps) qdp rfl ⟨((((((fs.o).setB 0 rj rm _).setB 1 rj rm _).setB 2 rj rm _).setB 3 rj rm _).setB 4 rj rm _).setB 5 rj rm _,Or.inl ⟨5,nm,s.steps,HA.o,rfl⟩⟩
  ·have M7:y.has=false:=by simpa using hh
   rw[M7]at r2 eW;rw[M7];have HA:Hd (Et true nm y s=.over 4 nm s.steps):=show Et true nm y s=.over 4 nm s.steps from by simp[Et,M7]
   obtain⟨z0,zp,_,_,_,_,_,_,_,_,gm⟩:=xu.o.all;have HG:Hd (Fm W m _ _ s.pl s.steps s.looks):=gm;clear gm;go_enter func177,ntmps177;go_wp2_with fail;clear eW;refine(Jr m _ _ s.pl s.steps s.looks 4 nm _ HG.o).mono ?_;rintro e w2 ⟨rfl,ag⟩;have fs:Hd (KB B m w w2):=du.o.trans (KB.old ag hB1');have aw:w2.heap[w.heap.size+1+1]?=M (O #[F false,I 0,ze,F false,ze,I 0] 192 (0,0)):=(by rw[ag.block _ (Ag ik.o)];exact ik.o);obtain⟨k0,k1,k2,k3,k4,k5⟩:=Xd aw;have f0:=fZ aw;clear aw r0 r1 r2 r3 r4;unfold Bb;go_wp2;exact bR (v:=Bb true 4 nm false ⟨#[]⟩ s.steps) qdp rfl ⟨((((((fs.o).setB 0 rj rm _).setB 1 rj rm _).setB 2 rj rm _).setB 3 rj rm _).setB 4 rj rm _).setB 5 rj rm _,Or.inl ⟨4,nm,s.steps,HA.o,rfl⟩⟩
theorem Xa(ys:L R3){o:Out}(h:Ny is s o):∀ {c t n},o=.over c t n->Ce is ys s (.over c t n):=by
 induction h with
 | over h1=>intro c t n e;cases e;exact .over h1
 | look h1=>intro c t n e;cases e
 | go h1 _ ih=>intro c t n e;exact .go h1 (ih e)
theorem Pa{s':St}(hv:Au is=true)(hs:Ec is s)(h:Cb is s=.go s'):Ec is s'/\s'.looks=s.looks:=by
 have hl:=Dh hv
 by_cases hp:s.pl<is.length
 ·by_cases h2:s.steps=2000
  ·rw[Jm hp h2]at h;cases h
  ·obtain⟨o,t,n,e,h3,h4,h5,h6,h7⟩:=Ld hv hp;rw[Ht hp h2 e]at h
   by_cases hf:s.stack.length<Ax o
   ·rw[Nq hf]at h;cases h
   ·rcases(show o<=11\/(o=12\/o=13)\/o=14\/o=15 from qb)with ho|ho|ho|ho
    ·by_cases hb:Su o t n s.stack
     ·rw[Hu hf ho hb]at h;cases h
     ·rw[Qm hf ho hb]at h;cases h;exact⟨go_ok hs hl.2 hp h2 h7 hb,rfl⟩
    ·exact qja
    ·rw[Lg hf ho]at h;cases h
    ·rw[Nr hf ho]at h;cases h
 ·rw[Kz hp]at h;cases h
def Lz:St:=⟨0,[],0,0⟩
theorem Tj(is:L I3):Ec is Lz:=⟨qbh,qbh,qbh,qbh,qbh⟩
def resT:Res->Z
 | .over c t n=>Bb true c t false ⟨#[]⟩ n
 | .wait ask nm n=>Bb false 0 ⟨#[]⟩ ask nm n
theorem Bx.alloc{ss:L By}{pl lk:Int}(h:Bx B w m ss cd pl st lk)(o:Obj):Bx B (w.alloc o) m ss cd pl st lk:=h.bl (aN _ _)
theorem Xz{T:X}{cs:Array Z}(hc:cs.size=6)(h:w.heap[T]?=M (O cs 192 (0,0)))(b0 b1 b2 b3 b4 b5:Z):((((((w.setCell ⟨T,0,N⟩ b0).setCell ⟨T,1,N⟩ b1).setCell ⟨T,2,N⟩ b2).setCell ⟨T,3,N⟩ b3).setCell ⟨T,4,N⟩ b4).setCell ⟨T,5,N⟩ b5).heap[T]?=M (O #[b0,b1,b2,b3,b4,b5] 192 (0,0))∧
 ∀B m ss cd pl st lk,Bx B w m ss cd pl st lk->Bx B ((((((w.setCell ⟨T,0,N⟩ b0).setCell ⟨T,1,N⟩ b1).setCell ⟨T,2,N⟩ b2).setCell ⟨T,3,N⟩ b3).setCell ⟨T,4,N⟩ b4).setCell ⟨T,5,N⟩ b5) m ss cd pl st lk:=by
 refine⟨?_,λB m ss cd pl st lk hM=>(Bx.turn (Bx.turn (Bx.turn (Bx.turn (Bx.turn (Bx.turn ⟨hM,_,h⟩ 0 _) 1 _) 2 _) 3 _) 4 _) 5 _).1⟩
 obtain⟨l⟩:=cs
 match l,hc with
 | [x0,x1,x2,x3,x4,x5],_=>
  rw[jB (jB (jB (jB (jB (jB h b0) b1) b2) b3) b4) b5];rfl
theorem bN{a b:E}(h:Bw w a)(k:Bw a b):Bw w b:=h.trans (k.mono h.size)
theorem Tz(hv:Au is=true){o:Out}(h:Ny is s o):Ec is s->∀ {ask nm s'},o=.look ask nm s'->∃s1,Cb is s1=.look ask nm s'/\s1.looks=s.looks/\Ec is s1/\∀ys r,Ce is ys s1 r->Ce is ys s r:=by
 induction h with
 | over h1=>intro _ c t n e;cases e
 | look h1=>intro hs c t n e;cases e;exact⟨_,h1,rfl,hs,λys r hr=>hr⟩
 | go h1 _ ih=>intro hs c t n e;obtain⟨k1,k2⟩:=Pa hv hs h1;obtain⟨s1,h2,h4,h5,h3⟩:=ih k1 e;exact⟨s1,h2,h4.trans k2,h5,λys r hr=>.go h1 (h3 ys r hr)⟩
def RQ(is:L I3)(ys:L R3)(s:St):Prop:=s.looks=ys.length/\∀zs r,Ce is (ys++zs) s r->Ce is (ys++zs) Lz r
def VAt(is:L I3)(ys:L R3)(B m:X)(cd:Z)(ov:Bool)(c:Int)(t:By)(ask:Bool)(nm:By)(st:Int)(w:E):Prop:=
 (ov=true/\ask=false/\nm=⟨#[]⟩/\∃n:X,st=n/\Ce is ys Lz (.over c t n))∨
 (ov=false/\c=0/\t=⟨#[]⟩/\∃s1 s',st=(s'.steps:Int)/\Cb is s1=.look ask nm s'/\RQ is ys s1/\Ec is s1/\Ec is s'/\Bx B w m s'.stack cd s'.pl s'.steps s'.looks)
theorem VAt.full{c:Int}{t:By}{ask:Bool}{nm:By}(h:VAt is ys B m cd ov c t ask nm st w):(ov=true/\∃n,Ce is ys Lz (.over c t n))\/(ov=false/\∃n,Ce is ys Lz (.wait ask nm n)):=by
 rcases h with⟨rfl,_,_,n,_,hf⟩|⟨rfl,_,_,s1,s',_,h1,h2,_⟩
 ·exact Or.inl ⟨rfl,n,hf⟩
 ·refine Or.inr ⟨rfl,s'.steps,?_⟩;have:=h2.2 [] (.wait ask nm s'.steps);rw[List.append_nil]at this;exact this (.wait h1 (by rw[h2.1];exact Nat.le_refl _))
theorem VAt.mono{c:Int}{t:By}{ask:Bool}{nm:By}(h:VAt is ys B m cd ov c t ask nm st w)(hM:∀ss pl nh lk,Bx B w m ss cd pl nh lk->Bx B w' m ss cd pl nh lk):VAt is ys B m cd ov c t ask nm st w':=by
 rcases h with h|⟨e1,e2,e3,s1,s',e4,h1,h2,h3,h4,h5⟩
 ·exact Or.inl h
 ·exact Or.inr ⟨e1,e2,e3,s1,s',e4,h1,h2,h3,h4,hM _ _ _ _ h5⟩
theorem run_vat(hv:Au is=true)(h:Un is Lz B m cd e w3):∃ov c t ask nm st,e=H (Bb ov c t ask nm st)/\VAt is [] B m cd ov c t ask nm st w3:=by
 rcases h with⟨c,t,n,hr,rfl⟩|⟨ask,nm,s',hr,rfl,hs,hM⟩
 ·exact⟨true,c,t,false,⟨#[]⟩,n,rfl,Or.inl ⟨rfl,rfl,rfl,n,rfl,Xa [] hr rfl⟩⟩
 ·obtain⟨s1,h1,h2,h3,h4⟩:=Tz hv hr (Tj is) rfl;exact⟨false,0,⟨#[]⟩,ask,nm,s'.steps,rfl,Or.inr ⟨rfl,rfl,rfl,s1,s',rfl,h1,⟨h2,λzs r hr=>h4 _ r hr⟩,h3,hs,hM⟩⟩
theorem rx_mid(ys zs:L R3)(y:R3):rx (ys++[y]++zs) ys.length=y:=by
 unfold rx
 rw[gG,List.append_assoc,List.getElem?_append_right (Nat.le_refl _)]
 simp
theorem ans_vat{ask:Bool}{nm:By}{y':R3}{s1 s':St}(hv:Au is=true)(h1:Cb is s1=.look ask nm s')(hq:RQ is ys s1)(hy:y.text.size<=2000)(hyy:Et ask nm y s'=Et ask nm y' s')(d9:Ec is s1)(yb:Ec is s')(h:(∃c t n,Et ask nm y s'=.over c t n/\e=H (Bb true c t false ⟨#[]⟩ n))\/(∃s'',Et ask nm y s'=.go s''/\Un is s'' B m cd e w3)):∃ov c t ask nm st,e=H (Bb ov c t ask nm st)/\VAt is (ys++[y']) B m cd ov c t ask nm st w3:=by
 obtain⟨q1,q2,q3,q4,q5,q6,q7,q8⟩:=Hs h1
 have hl:=(Dh hv).2
 have o6:∀zs:L R3,s1.looks<(ys++[y']++zs).length:=λzs=>by rw[hq.1];simp
 have hrx:∀zs:L R3,rx (ys++[y']++zs) s1.looks=y':=λzs=>by rw[hq.1];exact rx_mid ys zs y'
 have hF:∀zs r,Ce is (ys++[y']++zs) s1 r->Ce is (ys++[y']++zs) Lz r:=λzs r hr=>by
  have:=hq.2 ([y']++zs) r;rw[<- List.append_assoc]at this;exact this hr
 have nil:∀r,Ce is (ys++[y']++[]) Lz r->Ce is (ys++[y']) Lz r:=λr hr=>by rw[List.append_nil]at hr;exact hr
 rcases h with⟨c,t,n,ha,rfl⟩|⟨s'',ha,ge⟩
 ·refine⟨true,c,t,false,⟨#[]⟩,n,rfl,Or.inl ⟨rfl,rfl,rfl,n,rfl,nil _ (hF [] _ (.end h1 (o6 []) ?_))⟩⟩;rw[hrx,<- hyy];exact ha
 ·have ur:s'.stack.length<50:=by rw[q7,Bj];have:=d9.len;omega
  have hso:Ec is s''/\s''.looks=s'.looks:=by
   unfold Et at ha
   split at ha
   ·cases ha;exact⟨Kw yb hl qb ur qcr,rfl⟩
   ·split at ha
    ·cases ha
    ·split at ha
     ·cases ha
     ·cases ha;exact⟨Kw yb hl qb ur hy,rfl⟩
  have hA:∀zs,Et ask nm (rx (ys++[y']++zs) s1.looks) s'=.go s'':=λzs=>by rw[hrx,<- hyy];exact ha
  rcases ge with⟨c,t,n,hr,rfl⟩|⟨it,nm',s3,hr,rfl,nj,hM⟩
  ·exact⟨true,c,t,false,⟨#[]⟩,n,rfl,Or.inl ⟨rfl,rfl,rfl,n,rfl,nil _ (hF [] _ (.ans h1 (o6 []) (hA []) (Xa _ hr rfl)))⟩⟩
  ·obtain⟨s2,g1,g2,g3,g4⟩:=Tz hv hr hso.1 rfl;exact⟨false,0,⟨#[]⟩,it,nm',s3.steps,rfl,Or.inr ⟨rfl,rfl,rfl,s2,s3,rfl,g1,⟨by rw[g2,hso.2,q1,hq.1];simp,λzs r hr=>hF zs r (.ans h1 (o6 zs) (hA zs) (g4 _ r hr))⟩,g3,nj,hM⟩⟩
theorem Zx(hs:Ec is s)(h:1<=s.stack.length):(Bq s.stack).size<=2000:=by
 unfold Bq
 rw[gG,Ix qb]
 exact hs.size _ (List.getElem_mem _)
theorem decB_size{n:X}(h:n<=200):(En n).size<=2000:=by
 have:=Oq 2 n qb
 show(Lib.decDigits n).length<=2000
 omega
theorem step0_over{c:Int}{t:By}{n:X}(hv:Au is=true)(hs:Ec is s)(h:Cb is s=.over c t n):t.size<=2000/\0<=c/\c<=5:=by
 have hd:=decB_size hs.pl
 by_cases hp:s.pl<is.length
 ·by_cases h2:s.steps=2000
  ·rw[Jm hp h2]at h;cases h;exact⟨qd,qd,qd⟩
  ·obtain⟨o,t',n',e,h3,h4,h5,h6,h7⟩:=Ld hv hp;rw[Ht hp h2 e]at h
   by_cases hf:s.stack.length<Ax o
   ·rw[Nq hf]at h;cases h;exact⟨hd,qd,qd⟩
   ·rcases(show o<=11\/(o=12\/o=13)\/o=14\/o=15 from qb)with ho|ho|ho|ho
    ·by_cases hb:Su o t' n' s.stack
     ·rw[Hu hf ho hb]at h;cases h;exact⟨hd,qd,qd⟩
     ·rw[Qm hf ho hb]at h;cases h
    ·by_cases hn:Ar (Bq s.stack)
     ·by_cases hk:s.looks=200
      ·rw[Hx hf ho hn hk]at h;cases h;exact⟨qd,qd,qd⟩
      ·rw[Js hf ho hn hk]at h;cases h
     ·rw[Lo hf ho hn]at h;cases h;exact⟨hd,qd,qd⟩
    ·(have h1:1<=s.stack.length:=by rw[ho]at hf;have:Ax 14=1:=rfl;omega);rw[Lg hf ho]at h;cases h;exact⟨Zx hs h1,qd,qd⟩
    ·(have h1:1<=s.stack.length:=by rw[ho]at hf;have:Ax 15=1:=rfl;omega);rw[Nr hf ho]at h;cases h;exact⟨Zx hs h1,qd,qd⟩
 ·rw[Kz hp]at h;cases h;exact⟨hd,qd,qd⟩
theorem Je{s':St}{ask:Bool}{nm:By}(hv:Au is=true)(hs:Ec is s)(h:Cb is s=.look ask nm s'):Ec is s'/\Ar nm:=by
 by_cases hp:s.pl<is.length
 ·by_cases h2:s.steps=2000
  ·rw[Jm hp h2]at h;cases h
  ·obtain⟨o,t',n',e,h3,h4,h5,h6,h7⟩:=Ld hv hp;rw[Ht hp h2 e]at h
   by_cases hf:s.stack.length<Ax o
   ·rw[Nq hf]at h;cases h
   ·rcases(show o<=11\/(o=12\/o=13)\/o=14\/o=15 from qb)with ho|ho|ho|ho
    ·by_cases hb:Su o t' n' s.stack
     ·rw[Hu hf ho hb]at h;cases h
     ·rw[Qm hf ho hb]at h;cases h
    ·by_cases hn:Ar (Bq s.stack)
     ·by_cases hk:s.looks=200
      ·rw[Hx hf ho hn hk]at h;cases h
      ·rw[Js hf ho hn hk]at h;cases h;exact⟨Sx hs h2 hk,hn⟩
     ·rw[Lo hf ho hn]at h;cases h
    ·rw[Lg hf ho]at h;cases h
    ·rw[Nr hf ho]at h;cases h
 ·rw[Kz hp]at h;cases h
theorem Ce.size(hv:Au is=true)(py:∀i,i<ys.length->(rx ys i).text.size<=2000)(h:Ce is ys s r):Ec is s->∀ {c t n},r=.over c t n->t.size<=2000/\0<=c/\c<=5:=by
 have hl:=(Dh hv).2
 induction h with
 | over h1=>intro hs c t n e;cases e;exact step0_over hv hs h1
 | go h1 _ ih=>intro hs c t n e;exact ih (Pa hv hs h1).1 e
 | wait h1 _=>intro hs c t n e;cases e
 | ans h1 k1 a1 _ ih=>
  intro hs c t n e;obtain⟨q1,q2,q3,q4,q5,q6,q7,q8⟩:=Hs h1;have yb:=(Je hv hs h1).1
  rename_i s s' s'' _ _
  have ur:s'.stack.length<50:=by rw[q7,Bj];have:=hs.len;omega
  refine ih ?_ e;unfold Et at a1
  split at a1
  ·cases a1;exact Kw yb hl qb ur qcr
  ·split at a1
   ·cases a1
   ·split at a1
    ·cases a1
    ·cases a1;exact Kw yb hl qb ur (py _ k1)
 | «end» h1 k1 a1=>
  intro hs c t n e;cases e;have cm:=(Je hv hs h1).2;have jg:=cm.2.1;unfold Et at a1
  split at a1
  ·cases a1
  ·split at a1
   ·cases a1;exact⟨qb,qd,qd⟩
   ·split at a1
    ·cases a1;exact⟨qb,qd,qd⟩
    ·cases a1
structure Md where
 c:Int
 t:By
 ls:L G3
abbrev Ms:=L (ByteArray×Option Md)
open Classical in
noncomputable def lk (ms:Ms) (nm:By):Option (Option Md):=(ms.find? λe=>decide (e.1=nm)).map (·.2)
def Bi(c:Int)(t:By):By:=⟨#[UInt8.ofNat (48+c.toNat)]⟩++(⟨#[58]⟩:By)++t
def Xf(ss:L S2)(ts:L T2)(nm:By):Prop:=Ed (Am ss) nm\/Ed (Ak ts) nm
open Classical in
noncomputable def Cf (ss:L S2) (ts:L T2) (nm:By):Bool:=decide (Xf ss ts nm)
noncomputable def Vn (ss:L S2) (ts:L T2) (nm:By) (d:Md):R3:=if Cf ss ts nm then ⟨true,d.c,d.t⟩ else ⟨false,0,⟨#[]⟩⟩
theorem asc_inj{l:L By}(h:Fs l)(hi:i<l.length)(hj:j<l.length)(e:nx l i=nx l j):i=j:=by
 rcases Nat.lt_trichotomy i j with h1|h1|h1
 ·have:=h.pair h1 hj;rw[e,Eh]at this;cases this
 ·exact h1
 ·have:=h.pair h1 hi;rw[e,Eh]at this;cases this
theorem src_inj(h:Fs (Am ss))(hi:i<ss.length)(hj:j<ss.length)(e:(sx ss i).name=(sx ss j).name):i=j:=asc_inj h (by rw[Bs];exact hi) (by rw[Bs];exact hj) (by rw[Dv,Dv];exact e)
theorem Sv(h:Fs (Ak ts))(hi:i<ts.length)(hj:j<ts.length)(e:(tx ts i).name=(tx ts j).name):i=j:=asc_inj h (by rw[Bp];exact hi) (by rw[Bp];exact hj) (by rw[Dk,Dk];exact e)
theorem Hf(hi:i<ss.length):Ed (Am ss) (sx ss i).name:=⟨i,by rw[Bs];exact hi,Dv ss i⟩
theorem Il(hi:i<ts.length):Ed (Ak ts) (tx ts i).name:=⟨i,by rw[Bp];exact hi,Dk ts i⟩
structure MdOk (ss:L S2) (ts:L T2) (nm:By) (d:Md):Prop where
 c0:0<=d.c
 c5:d.c<=5
 t2:d.t.size<=2000
 ls:d.ls.length<=200
 no:¬ Xf ss ts nm->d=⟨4,nm,[]⟩
structure SpV (ss:L S2) (ts:L T2):Prop where
 ascS:Fs (Am ss)
 ascT:Fs (Ak ts)
 dis:∀nm,Ed (Am ss) nm->¬ Ed (Ak ts) nm
 txt:∀i,i<ss.length->(sx ss i).text.size<=2000
 pr:∀i,i<ts.length->Au (tx ts i).code=true
 nm:∀i,i<ts.length->Ar (tx ts i).name
structure Gf (is:L I3) (ys:L R3) (ls:L G3):Prop where
 pr:Au is=true
 ok:∀i,i<ys.length->Kg (rx ys i)=true
 eq:ls.length=ys.length
theorem Ce.looks(hv:Au is=true)(py:∀i,i<ys.length->(rx ys i).text.size<=2000)(h:Ce is ys s r):Ec is s->s.looks<=ys.length->∀ {ask nm n},r=.wait ask nm n->ys.length<200/\Ar nm:=by
 have hl:=(Dh hv).2
 induction h with
 | over h1=>intro _ _ c t n e;cases e
 | go h1 _ ih=>intro hs hk c t n e;obtain⟨k1,k2⟩:=Pa hv hs h1;exact ih k1 qb e
 | wait h1 k1=>
  intro hs hk c t n e;cases e;obtain⟨q1,q2,q3,q4,q5,q6,q7,q8⟩:=Hs h1;have:=hs.looks;exact⟨qb,(Je hv hs h1).2⟩
 | ans h1 k1 a1 _ ih=>
  intro hs hk c t n e;obtain⟨q1,q2,q3,q4,q5,q6,q7,q8⟩:=Hs h1;have yb:=(Je hv hs h1).1
  rename_i s s' s'' _ _
  have ur:s'.stack.length<50:=by rw[q7,Bj];have:=hs.len;omega
  have hso:Ec is s''/\s''.looks=s'.looks:=by
   unfold Et at a1
   split at a1
   ·cases a1;exact⟨Kw yb hl qb ur qcr,rfl⟩
   ·split at a1
    ·cases a1
    ·split at a1
     ·cases a1
     ·cases a1;exact⟨Kw yb hl qb ur (py _ k1),rfl⟩
  exact ih hso.1 qb e
 | «end» h1 k1 a1=>intro _ _ c t n e;cases e
theorem Tm(h:∀i,i<ys.length->Kg (rx ys i)=true):∀i,i<ys.length->(rx ys i).text.size<=2000:=λi hi=>by
 have:=h i hi
 simp only[Kg,Bool.and_eq_true,decide_eq_true_eq]at this
 exact this.1.1
theorem rx_snoc(h:∀i,i<ys.length->Kg (rx ys i)=true)(hy:Kg y=true):∀i,i<(ys++[y]).length->Kg (rx (ys++[y]) i)=true:=by
 intro i hi
 rw[List.length_append,List.length_singleton]at hi
 rcases Nat.lt_or_ge i ys.length with h1|h1
 ·have e:rx (ys++[y]) i=rx ys i:=by
   unfold rx;rw[gG,gG,List.getElem?_append_left h1]
  rw[e];exact h i h1
 ·obtain rfl:i=ys.length:=qb;have:=rx_mid ys [] y;rw[List.append_nil]at this;rw[this];exact hy
theorem Gf.has(h:Gf is ys ls)(b:Bool)(g:G3):Gf is (ys++[⟨b,0,⟨#[]⟩⟩]) (ls++[g]):=⟨h.pr,rx_snoc h.ok (by cases b<;>decide),by simp[h.eq]⟩
theorem repP_ok{nm:By}{d:Md}(h:MdOk ss ts nm d):Kg (Vn ss ts nm d)=true:=by
 unfold Vn
 split
 ·have h1:=h.c0;have h2:=h.c5;have h3:=h.t2;simp only[Kg,Bool.and_eq_true,decide_eq_true_eq];omega
 ·decide
theorem Gf.asked(h:Gf is ys ls){nm:By}{d:Md}(hd:MdOk ss ts nm d)(g:G3):Gf is (ys++[Vn ss ts nm d]) (ls++[g]):=⟨h.pr,rx_snoc h.ok (repP_ok hd),by simp[h.eq]⟩
theorem Gf.over(h:Gf is ys ls){c:Int}{t:By}{n:X}(hf:Ce is ys Lz (.over c t n)):t.size<=2000/\0<=c/\c<=5:=Ce.size h.pr (Tm h.ok) hf (Tj is) rfl
theorem Gf.wait(h:Gf is ys ls){ask:Bool}{nm:By}{n:X}(hf:Ce is ys Lz (.wait ask nm n)):ys.length<200/\Ar nm:=Ce.looks h.pr (Tm h.ok) hf (Tj is) qbh rfl
end Go.Proofs.YtbkkjodaaijimaaGreatDoor
