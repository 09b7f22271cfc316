import Derived.Test.YtoakjccojifagaaGreatDoorTChkA
import Derived.Test.YtoakjccojifagaaGreatDoorTNLook
namespace Go.Proofs.YtoakjccojifagaaGreatDoor
open _root_.Go.Proofs.Tryz Go.RowKit
open Value renaming slice->J,string->S,bool->F
open Option renaming some->M,none->N
open Obj renaming cells->O
open Go renaming Value->Z,World->E
open Ending renaming returned->H
open _root_ renaming List->L,Nat->X
set_option linter.unusedVariables false
set_option maxHeartbeats 8000000
set_option maxRecDepth 100000
set_option linter.unusedSimpArgs false
variable {B m i j:X} {w w' w3:E} {is:L I3} {s:St} {ss:L S2} {cd:Z} {st:Int} {ys:L R3} {ov:Bool} {e:Ending} {y:R3} {r:Res} {ts:L T2} {ls:L G3}
section
def Lp(B:X)(w:E)(a:Option Addr)(is:L I3):Prop:=Ch w a is/\∀b off,a=M ⟨b,off,N⟩->b<B
theorem Lp.belowB{B:X}{w w':E}{a:Option Addr}{is:L I3}(h:Lp B w a is)(hb:Below B w w'):Lp B w' a is:=by
 refine⟨λi hi=>?_,h.2⟩
 obtain⟨b,off,ha,h1,h2,h3⟩:=h.1 i hi
 have hl:=h.2 b off ha
 exact⟨b,off,ha,(hb.cell (p:=⟨b,off+i*3,N⟩) hl).trans h1,(hb.cell (p:=⟨b,off+i*3+1,N⟩) hl).trans h2,(hb.cell (p:=⟨b,off+i*3+2,N⟩) hl).trans h3⟩
theorem Cc.steps{B:X}{w:E}{m:X}{ss:L By}{cd:Z}{pl st lk:Int}(h:Cc B w m ss cd pl st lk)(p:Int):Cc B (w.setCell ⟨m,3,N⟩ (I p)) m ss cd pl p lk:=by
 obtain⟨hB,v,hm,ho⟩:=h
 refine⟨hB,v,?_,?_⟩
 ·exact qdy
 ·have hne:=hm.ne' ho;refine⟨ho.1,?_⟩
  rcases ho.2 with h0|⟨g,cap,cur,hv,hg,hh,r⟩
  ·exact Or.inl h0
  ·refine Or.inr ⟨g,cap,cur,hv,hg,?_,r⟩;rw[Dj w ⟨m,3,N⟩ _ g qcp];exact hh
theorem Cc.all{B:X}{w:E}{m:X}{ss:L By}{cd:Z}{pl st lk:Int}(h:Cc B w m ss cd pl st lk):∃ao cp,w.cell? ⟨m,0,N⟩=M (J ao ss.length cp)/\w.cell? ⟨m,1,N⟩=M cd/\w.cell? ⟨m,2,N⟩=M (I pl)/\w.cell? ⟨m,3,N⟩=M (I st)/\w.cell? ⟨m,4,N⟩=M (I lk)/\(∀j,w.frozen? ⟨m,j,N⟩=false)/\m<w.heap.size/\B<=m/\Fo w m (J ao ss.length cp) cd pl st lk:=by
 obtain⟨hB,v,hm,ho⟩:=h
 obtain⟨ao,cp,rfl⟩:∃ao cp,v=J ao ss.length cp:=by
  rcases ho.2 with⟨hv,h0⟩|⟨g,cap,cur,hv,_⟩
  ·exact⟨N,0,by rw[hv,h0]⟩
  ·exact⟨_,_,hv⟩
 exact⟨ao,cp,qba,qba,qba,qba,qba,λj=>fH hm j,hm.lt,hB,hm⟩
theorem Lj{is:L I3}(h:Ao is=true){k:X}(hk:k<is.length):∃(o:X)(t:By)(n:X),ix is k=⟨o,t,n⟩/\1<=o/\o<=15/\t.size<=2000/\n<=2000/\((o=10\/o=11)->n<=200):=by
 simp only[Ao,Bool.and_eq_true,decide_eq_true_eq]at h
 have hi:=h.2 k hk
 generalize ix is k=i at hi ⊢
 obtain⟨op,t,n⟩:=i
 simp only[Gd,Bool.and_eq_true,decide_eq_true_eq]at hi
 obtain⟨⟨⟨⟨h1,h2⟩,h3⟩,h4⟩,h5⟩:=hi
 obtain⟨o,rfl⟩:=Int.eq_ofNat_of_zero_le (show 0<=op from qb)
 obtain⟨n',rfl⟩:=Int.eq_ofNat_of_zero_le h4
 have hm:Ko (Eo o)<=2000:=by unfold Ko;split<;>omega
 have hn:Oq (Eo o)<=2000:=by unfold Oq;split<;>(try split)<;>omega
 refine⟨o,t,n',rfl,qb,qb,qb,qb,λho=>?_⟩
 have:Oq (Eo o)=200:=by rcases ho with rfl|rfl<;>rfl
 omega
theorem Eb{is:L I3}(h:Ao is=true):1<=is.length/\is.length<=200:=by
 simp only[Ao,Bool.and_eq_true,decide_eq_true_eq]at h
 omega
theorem Qas(o:X)(h:o<=15):Lr.getD o 0=((Aw o:X):Int):=by
 exact qfd
theorem Lg{is:L I3}{s:St}(h:¬ s.pl<is.length):Ce is s=.over 2 (Ep s.pl) s.steps:=by unfold Ce;rw[if_pos qb]
theorem Jx{is:L I3}{s:St}(h:s.pl<is.length)(h2:s.steps=2000):Ce is s=.over 3 ⟨#[]⟩ s.steps:=by unfold Ce;rw[if_neg qb,if_pos h2]
theorem Ia{is:L I3}{s:St}{o:X}{t:By}{n:X}(h:s.pl<is.length)(h2:s.steps≠2000)(e:ix is s.pl=⟨o,t,n⟩):Ce is s=Ll ⟨o,t,n⟩ s:=by unfold Ce;rw[if_neg qb,if_neg h2,e]
section
variable {o:X} {t:By} {n:X} {s:St}
theorem Nt(h:s.stack.length<Aw o):Ll ⟨o,t,n⟩ s=.over 2 (Ep s.pl) (s.steps+1):=by
 simp only[Ll,Int.toNat_natCast];rw[if_pos h]
theorem Nu(h:¬ s.stack.length<Aw o)(ho:o=15):Ll ⟨o,t,n⟩ s=.over 0 (Bu s.stack) (s.steps+1):=by
 simp only[Ll,Int.toNat_natCast];rw[if_neg h,if_pos ho]
theorem Lk(h:¬ s.stack.length<Aw o)(ho:o=14):Ll ⟨o,t,n⟩ s=.over 1 (Bu s.stack) (s.steps+1):=by
 simp only[Ll,Int.toNat_natCast];rw[if_neg h,if_neg qb,if_pos ho]
theorem Lw(h:¬ s.stack.length<Aw o)(ho:o=12\/o=13)(hn:¬ Ar (Bu s.stack)):Ll ⟨o,t,n⟩ s=.over 2 (Ep s.pl) (s.steps+1):=by
 simp only[Ll,Int.toNat_natCast];rw[if_neg h,if_neg qb,if_neg qb,if_pos ho,if_pos hn]
theorem Ie(h:¬ s.stack.length<Aw o)(ho:o=12\/o=13)(hn:Ar (Bu s.stack))(hl:s.looks=200):Ll ⟨o,t,n⟩ s=.over 3 ⟨#[]⟩ (s.steps+1):=by
 simp only[Ll,Int.toNat_natCast];rw[if_neg h,if_neg qb,if_neg qb,if_pos ho,if_neg (λk=>k hn),if_pos hl]
theorem Kc(h:¬ s.stack.length<Aw o)(ho:o=12\/o=13)(hn:Ar (Bu s.stack))(hl:s.looks≠200):Ll ⟨o,t,n⟩ s=.look (o == 12) (Bu s.stack) ⟨s.pl,Bo s.stack 1,s.steps+1,s.looks+1⟩:=by
 have ht:Aw o=1:=by rcases ho with rfl|rfl<;>rfl
 simp only[Ll,Int.toNat_natCast];rw[if_neg h,if_neg qb,if_neg qb,if_pos ho,if_neg (λk=>k hn),if_neg hl,ht]
theorem Ic(h:¬ s.stack.length<Aw o)(ho:o<=11)(hb:Tr o t n s.stack):Ll ⟨o,t,n⟩ s=.over 2 (Ep s.pl) (s.steps+1):=by
 simp only[Ll,Int.toNat_natCast];unfold Tr at hb;rw[if_neg h,if_neg qb,if_neg qb,if_neg qb,if_pos hb]
theorem Rc(h:¬ s.stack.length<Aw o)(ho:o<=11)(hb:¬ Tr o t n s.stack):Ll ⟨o,t,n⟩ s=.go ⟨Ey o n s.pl (Bu s.stack),Bo s.stack (Aw o)++Da o t n (Bu s.stack) (Jh s.stack),s.steps+1,s.looks⟩:=by
 simp only[Ll,Int.toNat_natCast];unfold Tr at hb;rw[if_neg h,if_neg qb,if_neg qb,if_neg qb,if_neg hb]
end
theorem go_ok{is:L I3}{s:St}{o:X}{t:By}{n:X}(hs:Ef is s)(hl:is.length<=200)(hp:s.pl<is.length)(cw:s.steps≠2000)(hn:(o=10\/o=11)->n<=200)(hb:¬ Tr o t n s.stack):Ef is ⟨Ey o n s.pl (Bu s.stack),Bo s.stack (Aw o)++Da o t n (Bu s.stack) (Jh s.stack),s.steps+1,s.looks⟩:=by
 unfold Tr at hb
 have h1:=hs.steps
 refine⟨?_,?_,?_,?_,hs.looks⟩
 ·show Ey o n s.pl (Bu s.stack)<=200;unfold Ey;split
  ·exact hn qb
  ·split
   ·exact hn qb
   ·omega
 ·show(Bo s.stack (Aw o)++Da o t n (Bu s.stack) (Jh s.stack)).length<=50;rw[List.length_append];have:¬ 50<(Bo s.stack (Aw o)).length+(Da o t n (Bu s.stack) (Jh s.stack)).length:=λh=>hb (Or.inl h);omega
 ·intro x hx
  rcases List.mem_append.mp hx with hx|hx
  ·exact hs.size x (List.mem_of_mem_take hx)
  ·rcases Nat.lt_or_ge 2000 x.size with h|h
   ·exact absurd (Or.inr ⟨x,hx,h⟩) hb
   ·exact h
 ·show s.steps+1<=2000;omega
theorem Tt{is:L I3}{s:St}(hs:Ef is s)(cw:s.steps≠2000)(hl:s.looks≠200):Ef is ⟨s.pl,Bo s.stack 1,s.steps+1,s.looks+1⟩:=by
 have h1:=hs.steps
 have h2:=hs.looks
 have h3:=hs.len
 refine⟨hs.pl,?_,λx hx=>hs.size x (List.mem_of_mem_take hx),?_,?_⟩
 ·show(Bo s.stack 1).length<=50;rw[Bk];omega
 ·show s.steps+1<=2000;omega
 ·show s.looks+1<=200;omega
def Qae:Array Z:=#[F false,I 0,ze,F false,ze,I 0]
def RunPost(is:L I3)(s:St)(B m:X)(cd:Z)(w:E)(e:Ending)(w':E):Prop:=
 KB B m w w'/\((∃c t n,Og is s (.over c t n)/\e=H (Bc true c t false ⟨#[]⟩ n))\/(∃ask nm s',Og is s (.look ask nm s')/\e=H (Bc false 0 ⟨#[]⟩ ask nm s'.steps)/\Ef is s'/\Cc B w' m s'.stack cd s'.pl s'.steps s'.looks))
theorem Yz(B m:X)(is:L I3)(a:Option Addr)(cap:X)(s0:St)(w:E)(hM:Cc B w m s0.stack (J a is.length cap) s0.pl s0.steps s0.looks)(hB:B<=w.heap.size)(bj:2<B)(du:Lp B w a is)(hT:Kk w)(hP:Lq w)(hv:Ao is=true)(hs0:Ef is s0):Calls prog 154 #[.pointer (p_ m)] w λe w'=>RunPost is s0 B m (J a is.length cap) w e w':=by
 have dr:=Eb hv
 have HV:Hd (Ao is=true):=hv
 have HC:Hd (Lp B w a is):=du
 have HT:Hd (Kk w):=hT
 have HP:Hd (Lq w):=hP
 have hm0:=hM.all
 obtain⟨_,_,_,_,_,_,_,_,G8,kh,_⟩:=hm0
 have HM0:Hd (Cc B (w.alloc (O Qae 194)) m s0.stack (J a is.length cap) s0.pl s0.steps s0.looks):=hM.bl (aN _ _)
 have sj:Hd (KB B m w (w.alloc (O Qae 194))):=KB.old (aN _ _) hB
 have xk:Hd ((w.alloc (O Qae 194)).heap[w.heap.size]?=M (O Qae 194 (0,0))):=Bg _ _
 have M2:Hd (Ef is s0):=hs0
 clear hv du hT hP hM hs0
 unfold Qae at HM0 sj xk
 go_enter func154,ntmps154
 go_wp2
 go_loopg [] 2001 (λkx wr=>∃s:St,Hd (Ef is s)/\Hd (∀o,Og is s o->Og is s0 o)/\Hd (Cc B wr m s.stack (J a is.length cap) s.pl s.steps s.looks)/\Hd (KB B m w wr)/\Hd (wr.heap[w.heap.size]?=M (O #[F false,I 0,ze,F false,ze,I 0] 194 (0,0)))/\2001-s.steps<=kx)
 case atStart=>exact⟨s0,M2.o,λo h=>h,HM0.o,sj.o,xk.o,qb⟩
 case round=>
  clear HM0 sj xk M2;obtain⟨s,HS,HR,HM,HK,HB,Y2⟩:=hrel;obtain⟨ao,cp,m0,m1,m2,m3,m4,mf,zm,_,hmach⟩:=HM.o.all;have HMACH:Hd (Fo wr.drew m (J ao s.stack.length cp) (J a is.length cap) s.pl s.steps s.looks):=hmach;have D8:=HS.o.pl;have cw:=HS.o.steps;have ur:=HS.o.looks;clear hmach
  by_cases dy:s.pl<is.length
  ·have hplI:(s.pl:Int)<(is.length:Int):=qb
   by_cases f9:s.steps=2000
   ·have hst3:((s.steps:Int) == 2000)=true:=qh;have fc:Hd (Ce is s=.over 3 ⟨#[]⟩ s.steps):=Jx dy f9;have HKd:Hd (KB B m w wr.drew):=HK.o.drew;clear f9;go_wp2_with fail;go_region;go_wp2_with fail;refine(Kb m (J ao s.stack.length cp) _ s.pl s.steps s.looks 3 ⟨#[]⟩ _ HMACH.o).mono ?_;rintro e w2 ⟨rfl,ag⟩;have hKB:KB B m w w2:=HKd.o.trans (KB.old ag (Nat.le_trans hB (Nat.le_trans HK.o.size (Nat.le_refl _))));have yx:Hd (KB B m w w2):=hKB;have aw:w2.heap[w.heap.size]?=M (O #[F false,I 0,ze,F false,ze,I 0] 194 (0,0)):=(by rw[ag.block _ (Ag HB.o)];exact HB.o);obtain⟨k0,k1,k2,k3,k4,k5⟩:=Xw aw;have f0:=fZ aw;clear aw ag hKB m0 m1 m2 m3 m4 mf;unfold Bc;go_wp2;exact bR (v:=Bc true 3 ⟨#[]⟩ false ⟨#[]⟩ s.steps) qbr rfl ⟨((((((yx.o).setN 0 hB _).setN 1 hB _).setN 2 hB _).setN 3 hB _).setN 4 hB _).setN 5 hB _,Or.inl ⟨3,⟨#[]⟩,s.steps,HR.o _ (.over fc.o),rfl⟩⟩
   ·have hst3:((s.steps:Int) == 2000)=false:=qh;obtain⟨o,t,n,ei,jb,kw,ht,hn,Y0⟩:=Lj HV.o dy;obtain⟨b,off,rfl,d1,d2,d3⟩:=(HC.o.belowB HK.o.bl).1 s.pl dy;have fs:=(HC.o).2 b off rfl;rw[ei]at d1 d2 d3;have EI:Hd (ix is s.pl=⟨o,t,n⟩):=ei;obtain⟨t1,t2,t3⟩:=(HT.o.belowB HK.o.bl qb) o qb;have F0:b≠m:=qb;have h0m:0≠m:=qb;clear ei t1 t2;obtain⟨W1,A0⟩:=Aj (wr.setCell ⟨m,3,N⟩ (I ((s.steps:Int)+1)));(have A5:Hd (Cc B W1 m s.stack (J (M ⟨b,off,N⟩) is.length cap) s.pl ((s.steps:Int)+1) s.looks):=by rw[<- A0];exact HM.o.steps _);(have fa:Hd (KB B m w W1):=by rw[<- A0];exact HK.o.setM 3 kh _);(have d7:Hd (W1.heap[w.heap.size]?=M (O #[F false,I 0,ze,F false,ze,I 0] 194 (0,0))):=by rw[<- A0,Dj wr ⟨m,3,N⟩ _ _ qh];exact HB.o);(have hW1l:W1.heap.size=wr.heap.size:=by rw[<- A0];simp[go_sem]);obtain⟨n0,np,g0,g1,g2,g3,g4,gf,gml,_,gmach⟩:=A5.o.all;have mq:=alK W1;obtain⟨b',br,eb,e1,e2,e3⟩:=(HC.o.belowB fa.o.bl).1 s.pl dy;simp only[Option.some.injEq,Addr.mk.injEq,and_true]at eb;obtain⟨rfl,rfl⟩:=eb;rw[EI.o]at e1 e2 e3;obtain⟨_,_,e4⟩:=(HT.o.belowB fa.o.bl qb) o qb;rw[Qas o kw]at e4;have a1:=λx=>mq _ _ x e1;have a2:=λx=>mq _ _ x e2;have a3:=λx=>mq _ _ x e3;have a4:=λx=>mq _ _ x e4;have a5:=λx=>mq _ _ x g0;have a6:=λx=>mq _ _ x g2;clear mq;go_wp2;go_region;go_wp2;clear A0 m0 m1 m2 m3 m4 mf d1 d2 d3 t3;go_region;go_wp2;go_region;obtain⟨W2,eW2⟩:=Aj ((W1.alloc (O #[I o,S t,I n] 139)).drew.drew.drew);(have hbb:Bw W1 W2:=by rw[<- eW2];exact(aN _ _).drew.drew.drew);have mi:Hd (Cc B W2 m s.stack (J (M ⟨b,off,N⟩) is.length cap) s.pl ((s.steps:Int)+1) s.looks):=A5.o.bl hbb;have gg:Hd (KB B m w W2):=fa.o.trans (KB.old hbb (Nat.le_trans hB fa.o.size))
    have fj:Hd (W2.heap[w.heap.size]?=M (O #[F false,I 0,ze,F false,ze,I 0] 194 (0,0))):=by
     rw[hbb.block _ (by rw[hW1l];exact Ag HB.o)];exact d7.o
    have HX:Hd (W2.heap[wr.heap.size]?=M (O #[I o,S t,I n] 139 (0,0))):=by
     rw[<- eW2,<- hW1l];exact Bg _ _
    obtain⟨x0,x1,x2⟩:=ck3 HX.o;have bg:B<=W2.heap.size:=Nat.le_trans hB gg.o.size;have tr:Hd (Lq W2):=HP.o.belowB gg.o.bl bj;obtain⟨q0,qp,_,_,_,_,_,_,_,_,gmach2⟩:=mi.o.all;have HMA:Hd (Fo W2 m (J q0 s.stack.length qp) (J (M ⟨b,off,N⟩) is.length cap) s.pl ((s.steps:Int)+1) s.looks):=gmach2;rw[eW2];clear gmach2 eW2 hbb a1 a2 a3 a4 a5 a6 e1 e2 e3 e4 g0 g1 g2 g3 g4 gf gml gmach A5 fa HB HMACH HM HK;have V9:Hd (Ce is s=Ll ⟨o,t,n⟩ s):=Ia dy f9 EI.o
    by_cases fl:s.stack.length<Aw o
    ·have htkI:(s.stack.length:Int)<(Aw o:Int):=qb;have fc:Hd (Ce is s=.over 2 (Ep s.pl) (s.steps+1)):=V9.o.trans (Nt fl);go_wp2_with fail;refine(Nq m _ _ s.pl _ s.looks _ HMA.o tr.o qb qb).mono ?_;rintro e w2 ⟨rfl,ag⟩;have yx:Hd (KB B m w w2):=gg.o.trans (KB.old ag bg);have aw:w2.heap[w.heap.size]?=M (O #[F false,I 0,ze,F false,ze,I 0] 194 (0,0)):=(by rw[ag.block _ (Ag fj.o)];exact fj.o);exact qig
    ·have htkI:¬ (s.stack.length:Int)<(Aw o:Int):=qb;have Eq:=HS.o.len
     rcases(show o<=11\/o=12\/o=13\/o=14\/o=15 from qb)with ho|rfl|rfl|rfl|rfl
     ·have d12:((o:Int) == 12)=false:=qh;have d13:((o:Int) == 13)=false:=qh;have d14:((o:Int) == 14)=false:=qh;have d15:((o:Int) == 15)=false:=qh;go_wp2_with fail;refine(work_any B m s.stack _ s.pl _ s.looks t n _ o mi.o bg D8 hn Eq HS.o.size ht jb ho qb).mono ?_;rintro e w3 ⟨gv,⟨rfl,te,ke⟩|⟨rfl,te,ss',ke⟩⟩
      ·have fc:Hd (Ce is s=.go ⟨Ey o n s.pl (Bu s.stack),Bo s.stack (Aw o)++Da o t n (Bu s.stack) (Jh s.stack),s.steps+1,s.looks⟩):=V9.o.trans (Rc fl ho te);have Gt:Hd (Cc B w3 m (Bo s.stack (Aw o)++Da o t n (Bu s.stack) (Jh s.stack)) (J (M ⟨b,off,N⟩) is.length cap) (Ey o n s.pl (Bu s.stack):X) ((s.steps:Int)+1) s.looks):=ke;have HBD:Hd (¬ Tr o t n s.stack):=te;have si:Hd (KB B m W2 w3):=gv;clear ke te gv;go_wp2_with fail
       go_roundg (2001-(s.steps+1))
       case rel=>exact⟨⟨Ey o n s.pl (Bu s.stack),Bo s.stack (Aw o)++Da o t n (Bu s.stack) (Jh s.stack),s.steps+1,s.looks⟩,go_ok HS.o dr.2 dy f9 Y0 HBD.o,λo' h=>HR.o o' (.go fc.o h),Gt.o,gg.o.trans si.o,si.o.keep _ _ 194 qd qb fj.o,qg⟩
       case measure=>omega
      ·have fc:Hd (Ce is s=.over 2 (Ep s.pl) (s.steps+1)):=V9.o.trans (Ic fl ho te);obtain⟨z0,zp,_,_,_,_,_,_,_,_,gm3⟩:=ke.all;have HG3:Hd (Fo w3 m _ _ s.pl ((s.steps:Int)+1) s.looks):=gm3;have si:Hd (KB B m w w3):=gg.o.trans gv;have d6:Hd (w3.heap[w.heap.size]?=M (O #[F false,I 0,ze,F false,ze,I 0] 194 (0,0))):=gv.keep _ _ 194 qd qb fj.o;have HP3:Hd (Lq w3):=HP.o.belowB si.o.bl bj;clear ke te gv gm3;go_wp2_with fail;refine(Nq m _ _ s.pl _ s.looks _ HG3.o HP3.o qb qb).mono ?_;rintro e w2 ⟨rfl,ag⟩;have yx:Hd (KB B m w w2):=si.o.trans (KB.old ag (Nat.le_trans hB si.o.size));have aw:w2.heap[w.heap.size]?=M (O #[F false,I 0,ze,F false,ze,I 0] 194 (0,0)):=qgw;exact qig
     ·(have zg:1<=s.stack.length:=by have:Aw 12=1:=rfl;omega);have fm:=Jy zg;have my:=Bk s.stack 1;have hx1:=HS.o.size _ (Hg zg);have vi:Hd (Cc B W2 m (Bo s.stack 1++[Bu s.stack]) (J (M ⟨b,off,N⟩) is.length cap) s.pl ((s.steps:Int)+1) s.looks):=qeu;clear fm
      by_cases de:Ar (Bu s.stack)
      ·by_cases K6:s.looks=200
       ·have fc:Hd (Ce is s=.over 3 ⟨#[]⟩ (s.steps+1)):=V9.o.trans (Ie fl qb de K6);go_wp2_with fail;refine(Us B m _ _ _ s.pl _ s.looks true _ vi.o bg qb hx1 tr.o bj qb qb de qb).mono ?_;exact qhx
       ·have fc:Hd (Ce is s=.look true (Bu s.stack) ⟨s.pl,Bo s.stack 1,s.steps+1,s.looks+1⟩):=V9.o.trans (Kc fl qb de K6);go_wp2_with fail;refine(Xn B m _ _ _ s.pl _ s.looks true _ vi.o bg qb hx1 de qb qb).mono ?_;rintro e w2 ⟨rfl,ag,hM5⟩;have yx:Hd (KB B m w w2):=gg.o.trans ag;have HM5:Hd (Cc B w2 m (Bo s.stack 1) (J (M ⟨b,off,N⟩) is.length cap) s.pl ((s.steps:Int)+1) ((s.looks:Int)+1)):=hM5;have HBK:Hd (w2.heap[w.heap.size]?=M (O #[F false,I 0,ze,F false,ze,I 0] 194 (0,0))):=ag.keep _ _ 194 qd qb fj.o;clear hM5;have aw:w2.heap[w.heap.size]?=M (O #[F false,I 0,ze,F false,ze,I 0] 194 (0,0)):=HBK.o;obtain⟨k0,k1,k2,k3,k4,k5⟩:=Xw aw;have f0:=fZ aw;clear aw x0 x1 x2;unfold Bc;go_wp2;exact bR (v:=Bc false 0 ⟨#[]⟩ true (Bu s.stack) ((s.steps:Int)+1)) qbr rfl ⟨((((((yx.o).setN 0 hB _).setN 1 hB _).setN 2 hB _).setN 3 hB _).setN 4 hB _).setN 5 hB _,Or.inr ⟨true,Bu s.stack,⟨s.pl,Bo s.stack 1,s.steps+1,s.looks+1⟩,HR.o _ (.look fc.o),rfl,Tt HS.o f9 K6,(Cc.turn (Cc.turn (Cc.turn (Cc.turn (Cc.turn (Cc.turn ⟨HM5.o,_,HBK.o⟩ 0 _) 1 _) 2 _) 3 _) 4 _) 5 _).1⟩⟩
      ·have fc:Hd (Ce is s=.over 2 (Ep s.pl) (s.steps+1)):=V9.o.trans (Lw fl qb de);go_wp2_with fail;refine(look_bad B m _ _ _ s.pl _ s.looks true _ vi.o bg qb hx1 tr.o bj qb qb de).mono ?_;exact qhw
     ·(have zg:1<=s.stack.length:=by have:Aw 13=1:=rfl;omega);have fm:=Jy zg;have my:=Bk s.stack 1;have hx1:=HS.o.size _ (Hg zg);have vi:Hd (Cc B W2 m (Bo s.stack 1++[Bu s.stack]) (J (M ⟨b,off,N⟩) is.length cap) s.pl ((s.steps:Int)+1) s.looks):=qeu;clear fm
      by_cases de:Ar (Bu s.stack)
      ·by_cases K6:s.looks=200
       ·have fc:Hd (Ce is s=.over 3 ⟨#[]⟩ (s.steps+1)):=V9.o.trans (Ie fl qb de K6);go_wp2_with fail;refine(Us B m _ _ _ s.pl _ s.looks false _ vi.o bg qb hx1 tr.o bj qb qb de qb).mono ?_;exact qhx
       ·have fc:Hd (Ce is s=.look false (Bu s.stack) ⟨s.pl,Bo s.stack 1,s.steps+1,s.looks+1⟩):=V9.o.trans (Kc fl qb de K6);go_wp2_with fail;refine(Xn B m _ _ _ s.pl _ s.looks false _ vi.o bg qb hx1 de qb qb).mono ?_;rintro e w2 ⟨rfl,ag,hM5⟩;have yx:Hd (KB B m w w2):=gg.o.trans ag;have HM5:Hd (Cc B w2 m (Bo s.stack 1) (J (M ⟨b,off,N⟩) is.length cap) s.pl ((s.steps:Int)+1) ((s.looks:Int)+1)):=hM5;have HBK:Hd (w2.heap[w.heap.size]?=M (O #[F false,I 0,ze,F false,ze,I 0] 194 (0,0))):=ag.keep _ _ 194 qd qb fj.o;clear hM5;have aw:w2.heap[w.heap.size]?=M (O #[F false,I 0,ze,F false,ze,I 0] 194 (0,0)):=HBK.o;obtain⟨k0,k1,k2,k3,k4,k5⟩:=Xw aw;have f0:=fZ aw;clear aw x0 x1 x2;unfold Bc;go_wp2;exact bR (v:=Bc false 0 ⟨#[]⟩ false (Bu s.stack) ((s.steps:Int)+1)) qbr rfl ⟨((((((yx.o).setN 0 hB _).setN 1 hB _).setN 2 hB _).setN 3 hB _).setN 4 hB _).setN 5 hB _,Or.inr ⟨false,Bu s.stack,⟨s.pl,Bo s.stack 1,s.steps+1,s.looks+1⟩,HR.o _ (.look fc.o),rfl,Tt HS.o f9 K6,(Cc.turn (Cc.turn (Cc.turn (Cc.turn (Cc.turn (Cc.turn ⟨HM5.o,_,HBK.o⟩ 0 _) 1 _) 2 _) 3 _) 4 _) 5 _).1⟩⟩
      ·have fc:Hd (Ce is s=.over 2 (Ep s.pl) (s.steps+1)):=V9.o.trans (Lw fl qb de);go_wp2_with fail;refine(look_bad B m _ _ _ s.pl _ s.looks false _ vi.o bg qb hx1 tr.o bj qb qb de).mono ?_;exact qhw
     ·(have zg:1<=s.stack.length:=by have:Aw 14=1:=rfl;omega);have fm:=Jy zg;have my:=Bk s.stack 1;have vi:Hd (Cc B W2 m (Bo s.stack 1++[Bu s.stack]) (J (M ⟨b,off,N⟩) is.length cap) s.pl ((s.steps:Int)+1) s.looks):=qeu;clear fm;have fc:Hd (Ce is s=.over 1 (Bu s.stack) (s.steps+1)):=V9.o.trans (Lk fl rfl);go_wp2_with fail;refine(Cm B m _ _ _ s.pl _ s.looks _ vi.o bg qb).mono ?_;rintro e w3 ⟨rfl,gv,ke,km⟩;obtain⟨z0,zp,_,_,_,_,_,_,_,_,gm3⟩:=ke.all;have HG3:Hd (Fo w3 m _ _ s.pl ((s.steps:Int)+1) s.looks):=gm3;have si:Hd (KB B m w w3):=gg.o.trans gv;have d6:Hd (w3.heap[w.heap.size]?=M (O #[F false,I 0,ze,F false,ze,I 0] 194 (0,0))):=gv.keep _ _ 194 qd qb fj.o;clear ke gv gm3 km;go_wp2_with fail;refine(Kb m _ _ s.pl _ s.looks 1 (Bu s.stack) _ HG3.o).mono ?_;rintro e w2 ⟨rfl,ag⟩;have yx:Hd (KB B m w w2):=si.o.trans (KB.old ag (Nat.le_trans hB si.o.size));have aw:w2.heap[w.heap.size]?=M (O #[F false,I 0,ze,F false,ze,I 0] 194 (0,0)):=qgw;obtain⟨k0,k1,k2,k3,k4,k5⟩:=Xw aw;have f0:=fZ aw;clear aw x0 x1 x2;unfold Bc;go_wp2;exact bR (v:=Bc true 1 (Bu s.stack) false ⟨#[]⟩ ((s.steps:Int)+1)) qbr rfl ⟨((((((yx.o).setN 0 hB _).setN 1 hB _).setN 2 hB _).setN 3 hB _).setN 4 hB _).setN 5 hB _,Or.inl ⟨1,(Bu s.stack),s.steps+1,HR.o _ (.over fc.o),rfl⟩⟩
     ·(have zg:1<=s.stack.length:=by have:Aw 15=1:=rfl;omega);have fm:=Jy zg;have my:=Bk s.stack 1;have vi:Hd (Cc B W2 m (Bo s.stack 1++[Bu s.stack]) (J (M ⟨b,off,N⟩) is.length cap) s.pl ((s.steps:Int)+1) s.looks):=qeu;clear fm;have fc:Hd (Ce is s=.over 0 (Bu s.stack) (s.steps+1)):=V9.o.trans (Nu fl rfl);go_wp2_with fail;refine(Cm B m _ _ _ s.pl _ s.looks _ vi.o bg qb).mono ?_;rintro e w3 ⟨rfl,gv,ke,km⟩;obtain⟨z0,zp,_,_,_,_,_,_,_,_,gm3⟩:=ke.all;have HG3:Hd (Fo w3 m _ _ s.pl ((s.steps:Int)+1) s.looks):=gm3;have si:Hd (KB B m w w3):=gg.o.trans gv;have d6:Hd (w3.heap[w.heap.size]?=M (O #[F false,I 0,ze,F false,ze,I 0] 194 (0,0))):=gv.keep _ _ 194 qd qb fj.o;clear ke gv gm3 km;go_wp2_with fail;refine(Kb m _ _ s.pl _ s.looks 0 (Bu s.stack) _ HG3.o).mono ?_;rintro e w2 ⟨rfl,ag⟩;have yx:Hd (KB B m w w2):=si.o.trans (KB.old ag (Nat.le_trans hB si.o.size));have aw:w2.heap[w.heap.size]?=M (O #[F false,I 0,ze,F false,ze,I 0] 194 (0,0)):=qgw;obtain⟨k0,k1,k2,k3,k4,k5⟩:=Xw aw;have f0:=fZ aw;clear aw x0 x1 x2;unfold Bc;go_wp2;exact bR (v:=Bc true 0 (Bu s.stack) false ⟨#[]⟩ ((s.steps:Int)+1)) qbr rfl ⟨((((((yx.o).setN 0 hB _).setN 1 hB _).setN 2 hB _).setN 3 hB _).setN 4 hB _).setN 5 hB _,Or.inl ⟨0,(Bu s.stack),s.steps+1,HR.o _ (.over fc.o),rfl⟩⟩
  ·have hplI:¬ (s.pl:Int)<(is.length:Int):=qb;have fc:Hd (Ce is s=.over 2 (Ep s.pl) s.steps):=Lg dy;have HPd:Hd (Lq wr.drew):=(HP.o.belowB HK.o.drew.bl bj);have HKd:Hd (KB B m w wr.drew):=HK.o.drew;go_wp2_with fail;go_region;go_wp2_with fail;refine(Nq m (J ao s.stack.length cp) _ s.pl s.steps s.looks _ HMACH.o HPd.o qb qb).mono ?_;rintro e w2 ⟨rfl,ag⟩;have hKB:KB B m w w2:=HKd.o.trans (KB.old ag (Nat.le_trans hB (Nat.le_trans HK.o.size (Nat.le_refl _))));have yx:Hd (KB B m w w2):=hKB;have aw:w2.heap[w.heap.size]?=M (O #[F false,I 0,ze,F false,ze,I 0] 194 (0,0)):=(by rw[ag.block _ (Ag HB.o)];exact HB.o);obtain⟨k0,k1,k2,k3,k4,k5⟩:=Xw aw;have f0:=fZ aw;clear aw ag hKB m0 m1 m2 m3 m4 mf;unfold Bc;go_wp2;exact bR (v:=Bc true 2 (Ep s.pl) false ⟨#[]⟩ s.steps) qgi rfl ⟨((((((yx.o).setN 0 hB _).setN 1 hB _).setN 2 hB _).setN 3 hB _).setN 4 hB _).setN 5 hB _,Or.inl ⟨2,Ep s.pl,s.steps,HR.o _ (.over fc.o),rfl⟩⟩
end
theorem KB.setB{b:X}(h:KB B m w w')(j:X)(hb:w.heap.size<=b)(hB:B<=b)(v:Z):KB B m w (w'.setCell ⟨b,j,N⟩ v):=⟨h.bl.setCell (p:=⟨b,j,N⟩) hB _,λb' cs T h1 h2 h3=>by rw[Dj w' ⟨b,j,N⟩ _ b' (by have:=Ag h3;simp;omega)];exact h.keep b' cs T h1 h2 h3,λhm b' cs T h1 h2 h3=>⟨by rw[Dj w' ⟨b,j,N⟩ _ b' (by have:=Ag h3;simp;omega)];exact(h.own hm b' cs T h1 h2 h3).1,λu hu=>(h.own hm b' cs T h1 h2 h3).2 u (by rw[World.cell?_setCell_far _ _ _ _ qh]at hu;exact hu)⟩⟩
def Vj(is:L I3)(s:St)(B m:X)(cd:Z)(e:Ending)(w':E):Prop:=
 (∃c t n,Og is s (.over c t n)/\e=H (Bc true c t false ⟨#[]⟩ n))\/(∃ask nm s',Og is s (.look ask nm s')/\e=H (Bc false 0 ⟨#[]⟩ ask nm s'.steps)/\Ef is s'/\Cc B w' m s'.stack cd s'.pl s'.steps s'.looks)
def AnsPost(is:L I3)(ask:Bool)(nm:By)(y:R3)(s:St)(B m:X)(cd:Z)(w:E)(e:Ending)(w':E):Prop:=
 KB B m w w'/\((∃c t n,Eu ask nm y s=.over c t n/\e=H (Bc true c t false ⟨#[]⟩ n))\/(∃s'',Eu ask nm y s=.go s''/\Vj is s'' B m cd e w'))
theorem Lb(hs:Ef is s)(hl:is.length<=200)(hp:s.pl<is.length)(wi:s.stack.length<50){x:By}(hx:x.size<=2000):Ef is ⟨s.pl+1,s.stack++[x],s.steps,s.looks⟩:=by
 refine⟨?_,?_,?_,hs.steps,hs.looks⟩
 ·show s.pl+1<=200;omega
 ·show(s.stack++[x]).length<=50;rw[List.length_append,List.length_singleton];omega
 ·intro z hz
  rcases List.mem_append.mp hz with hz|hz
  ·exact hs.size z hz
  ·obtain rfl:z=x:=by simpa using hz
   exact hx
theorem answer_any(B m:X)(is:L I3)(a:Option Addr)(cap:X)(ask:Bool)(nm:By)(y:R3)(s:St)(w:E)(hM:Cc B w m s.stack (J a is.length cap) s.pl s.steps s.looks)(hB:B<=w.heap.size)(bj:2<B)(du:Lp B w a is)(hT:Kk w)(hP:Lq w)(hv:Ao is=true)(hs:Ef is s)(dy:s.pl<is.length)(wi:s.stack.length<50)(hy:y.text.size<=2000):Calls prog 156 #[.pointer (p_ m),Bc false 0 ⟨#[]⟩ ask nm s.steps,.agg #[F y.has,I y.code,S y.text]] w λe w'=>AnsPost is ask nm y s B m (J a is.length cap) w e w':=by
 have dr:=Eb hv
 have D8:=hs.pl
 have HV:Hd (Ao is=true):=hv
 have HC:Hd (Lp B w a is):=du
 have HT:Hd (Kk w):=hT
 have HP:Hd (Lq w):=hP
 have HS:Hd (Ef is s):=hs
 obtain⟨_,_,_,_,_,_,_,_,G8,kh,_⟩:=hM.all
 have ak:Bw w (((w.alloc (O #[F false,I 0,ze,F ask,S nm,I s.steps] 194)).alloc (O #[F y.has,I y.code,S y.text] 198)).alloc (O #[F false,I 0,ze,F false,ze,I 0] 194)):=((aN _ _).alloc qg _).alloc qh _
 obtain⟨W,eW⟩:=Aj ((((w.alloc (O #[F false,I 0,ze,F ask,S nm,I s.steps] 194)).alloc (O #[F y.has,I y.code,S y.text] 198)).alloc (O #[F false,I 0,ze,F false,ze,I 0] 194)))
 rw[eW]at ak
 have A5:Hd (Cc B W m s.stack (J a is.length cap) s.pl s.steps s.looks):=hM.bl ak
 have fa:Hd (KB B m w W):=KB.old ak hB
 have je:Hd (W.heap[w.heap.size+1+1]?=M (O #[F false,I 0,ze,F false,ze,I 0] 194 (0,0))):=by
  rw[<- eW];have h:=Bg ((w.alloc (O #[F false,I 0,ze,F ask,S nm,I s.steps] 194)).alloc (O #[F y.has,I y.code,S y.text] 198)) (O #[F false,I 0,ze,F false,ze,I 0] 194);rw[show((w.alloc (O #[F false,I 0,ze,F ask,S nm,I s.steps] 194)).alloc (O #[F y.has,I y.code,S y.text] 198)).heap.size=w.heap.size+1+1 from qg]at h;exact h
 have hB1':B<=W.heap.size:=Nat.le_trans hB ak.size
 have t8:w.heap.size<=w.heap.size+1+1:=qb
 have ue:B<=w.heap.size+1+1:=qb
 have r0:W.cell? ⟨w.heap.size,3,N⟩=M (F ask):=qan
 have r1:W.cell? ⟨w.heap.size,4,N⟩=M (S nm):=qan
 have r2:W.cell? ⟨w.heap.size+1,0,N⟩=M (F y.has):=qan
 have r3:W.cell? ⟨w.heap.size+1,1,N⟩=M (I y.code):=qan
 have r4:W.cell? ⟨w.heap.size+1,2,N⟩=M (S y.text):=qan
 have hfl:(Cq y.has).size<=2000:=qcw
 clear hv du hT hP hs hM ak
 unfold Bc
 cases ask
 ·go_enter func156,ntmps156
  go_wp2_with (go_at_call 158;refine(Qz _ _).mono ?_;rintro e w9 ⟨rfl,rfl⟩)
  clear eW;refine(Gm B m s.stack _ s.pl s.steps s.looks (Cq y.has) _ A5.o hB1' hfl wi).mono ?_;rintro e w1 ⟨rfl,af,fg⟩;have HMp:Hd (Cc B (w1.setCell ⟨m,2,N⟩ (I ((s.pl:Int)+1))) m (s.stack++[Cq y.has]) (J a is.length cap) ((s.pl:Int)+1) s.steps s.looks):=fg.place _;obtain⟨c2,f2,_,_⟩:=fg.cell2;have HKp:Hd (KB B m w (w1.setCell ⟨m,2,N⟩ (I ((s.pl:Int)+1)))):=(fa.o.trans af).setM 2 kh _
  have HRp:Hd ((w1.setCell ⟨m,2,N⟩ (I ((s.pl:Int)+1))).heap[w.heap.size+1+1]?=M (O #[F false,I 0,ze,F false,ze,I 0] 194 (0,0))):=by
   exact qlg
  clear fg af A5 fa je r0 r1 r2 r3 r4;go_wp2_with fail;refine(Yz B m is a cap ⟨s.pl+1,s.stack++[Cq y.has],s.steps,s.looks⟩ _ HMp.o (Nat.le_trans hB HKp.o.size) bj (HC.o.belowB HKp.o.bl) (HT.o.belowB HKp.o.bl qb) (HP.o.belowB HKp.o.bl bj) HV.o (Lb HS.o dr.2 dy wi hfl)).mono ?_;rintro e w2 ⟨io,gy⟩;have gg:Hd (KB B m w w2):=HKp.o.trans io;have pd:Hd (w2.heap[w.heap.size+1+1]?=M (O #[F false,I 0,ze,F false,ze,I 0] 194 (0,0))):=io.keep _ _ 194 qd qb HRp.o;have HG:Hd (Eu false nm y s=.go ⟨s.pl+1,s.stack++[Cq y.has],s.steps,s.looks⟩):=show Eu false nm y s=.go ⟨s.pl+1,s.stack++[Cq y.has],s.steps,s.looks⟩ from by simp[Eu]
  clear c2 f2 io
  rcases gy with⟨c,t,n,hru,rfl⟩|⟨ji,nm',s',hru,rfl,To,ko⟩
  ·have mw:Hd (Og is ⟨s.pl+1,s.stack++[Cq y.has],s.steps,s.looks⟩ (.over c t n)):=hru;exact qib
  ·have mw:Hd (Og is ⟨s.pl+1,s.stack++[Cq y.has],s.steps,s.looks⟩ (.look ji nm' s')):=hru;exact qhu
 ·by_cases hh:y.has=true
  ·have HY1:Hd (y.has=true):=hh;rw[hh]at r2 eW;rw[hh]
   by_cases hc:y.code=0
   ·have HY2:Hd (y.code=0):=hc;rw[hc]at r3 eW;rw[hc];go_enter func156,ntmps156;go_wp2_with fail;clear eW;refine(Gm B m s.stack _ s.pl s.steps s.looks (y.text) _ A5.o hB1' hy wi).mono ?_;rintro e w1 ⟨rfl,af,fg⟩;have HMp:Hd (Cc B (w1.setCell ⟨m,2,N⟩ (I ((s.pl:Int)+1))) m (s.stack++[y.text]) (J a is.length cap) ((s.pl:Int)+1) s.steps s.looks):=fg.place _;obtain⟨c2,f2,_,_⟩:=fg.cell2;have HKp:Hd (KB B m w (w1.setCell ⟨m,2,N⟩ (I ((s.pl:Int)+1)))):=(fa.o.trans af).setM 2 kh _
    have HRp:Hd ((w1.setCell ⟨m,2,N⟩ (I ((s.pl:Int)+1))).heap[w.heap.size+1+1]?=M (O #[F false,I 0,ze,F false,ze,I 0] 194 (0,0))):=by
     exact qlg
    clear fg af A5 fa je r0 r1 r2 r3 r4;go_wp2_with fail;refine(Yz B m is a cap ⟨s.pl+1,s.stack++[y.text],s.steps,s.looks⟩ _ HMp.o (Nat.le_trans hB HKp.o.size) bj (HC.o.belowB HKp.o.bl) (HT.o.belowB HKp.o.bl qb) (HP.o.belowB HKp.o.bl bj) HV.o (Lb HS.o dr.2 dy wi hy)).mono ?_;rintro e w2 ⟨io,gy⟩;have gg:Hd (KB B m w w2):=HKp.o.trans io;have pd:Hd (w2.heap[w.heap.size+1+1]?=M (O #[F false,I 0,ze,F false,ze,I 0] 194 (0,0))):=io.keep _ _ 194 qd qb HRp.o;(have HG:Hd (Eu true nm y s=.go ⟨s.pl+1,s.stack++[y.text],s.steps,s.looks⟩):=show Eu true nm y s=.go ⟨s.pl+1,s.stack++[y.text],s.steps,s.looks⟩ from by simp[Eu,HY1.o,HY2.o]);clear c2 f2 io
    rcases gy with⟨c,t,n,hru,rfl⟩|⟨ji,nm',s',hru,rfl,To,ko⟩
    ·have mw:Hd (Og is ⟨s.pl+1,s.stack++[y.text],s.steps,s.looks⟩ (.over c t n)):=hru;exact qib
    ·have mw:Hd (Og is ⟨s.pl+1,s.stack++[y.text],s.steps,s.looks⟩ (.look ji nm' s')):=hru;exact qhu
   ·have hcb:(y.code == 0)=false:=qcd;(have HA:Hd (Eu true nm y s=.over 5 nm s.steps):=show Eu true nm y s=.over 5 nm s.steps from by simp[Eu,HY1.o,hc]);obtain⟨z0,zp,_,_,_,_,_,_,_,_,gm⟩:=A5.o.all;have HG:Hd (Fo W m _ _ s.pl s.steps s.looks):=gm;clear gm;go_enter func156,ntmps156;go_wp2_with fail;clear eW;refine(Kb m _ _ s.pl s.steps s.looks 5 nm _ HG.o).mono ?_;rintro e w2 ⟨rfl,ag⟩;have gg:Hd (KB B m w w2):=fa.o.trans (KB.old ag hB1');have aw:w2.heap[w.heap.size+1+1]?=M (O #[F false,I 0,ze,F false,ze,I 0] 194 (0,0)):=(by rw[ag.block _ (Ag je.o)];exact je.o);obtain⟨k0,k1,k2,k3,k4,k5⟩:=Xw aw;have f0:=fZ aw;clear aw r0 r1 r2 r3 r4;unfold Bc;go_wp2;exact bR (v:=Bc true 5 nm false ⟨#[]⟩ s.steps) qef rfl ⟨((((((gg.o).setB 0 t8 ue _).setB 1 t8 ue _).setB 2 t8 ue _).setB 3 t8 ue _).setB 4 t8 ue _).setB 5 t8 ue _,Or.inl ⟨5,nm,s.steps,HA.o,rfl⟩⟩
  ·have hh':y.has=false:=by simpa using hh
   rw[hh']at r2 eW;rw[hh'];have HA:Hd (Eu true nm y s=.over 4 nm s.steps):=show Eu true nm y s=.over 4 nm s.steps from by simp[Eu,hh']
   obtain⟨z0,zp,_,_,_,_,_,_,_,_,gm⟩:=A5.o.all;have HG:Hd (Fo W m _ _ s.pl s.steps s.looks):=gm;clear gm;go_enter func156,ntmps156;go_wp2_with fail;clear eW;refine(Kb m _ _ s.pl s.steps s.looks 4 nm _ HG.o).mono ?_;rintro e w2 ⟨rfl,ag⟩;have gg:Hd (KB B m w w2):=fa.o.trans (KB.old ag hB1');have aw:w2.heap[w.heap.size+1+1]?=M (O #[F false,I 0,ze,F false,ze,I 0] 194 (0,0)):=(by rw[ag.block _ (Ag je.o)];exact je.o);obtain⟨k0,k1,k2,k3,k4,k5⟩:=Xw aw;have f0:=fZ aw;clear aw r0 r1 r2 r3 r4;unfold Bc;go_wp2;exact bR (v:=Bc true 4 nm false ⟨#[]⟩ s.steps) qef rfl ⟨((((((gg.o).setB 0 t8 ue _).setB 1 t8 ue _).setB 2 t8 ue _).setB 3 t8 ue _).setB 4 t8 ue _).setB 5 t8 ue _,Or.inl ⟨4,nm,s.steps,HA.o,rfl⟩⟩
theorem Xt(ys:L R3){o:Out}(h:Og is s o):∀ {c t n},o=.over c t n->Ci is ys s (.over c t n):=by
 induction h with
 | over h1=>intro c t n e;cases e;exact .over h1
 | look h1=>intro c t n e;cases e
 | go h1 _ ih=>intro c t n e;exact .go h1 (ih e)
theorem Pq{s':St}(hv:Ao is=true)(hs:Ef is s)(h:Ce is s=.go s'):Ef is s'/\s'.looks=s.looks:=by
 have hl:=Eb hv
 by_cases hp:s.pl<is.length
 ·by_cases h2:s.steps=2000
  ·rw[Jx hp h2]at h;cases h
  ·obtain⟨o,t,n,e,h3,h4,h5,h6,h7⟩:=Lj hv hp;rw[Ia hp h2 e]at h
   by_cases hf:s.stack.length<Aw o
   ·rw[Nt hf]at h;cases h
   ·rcases(show o<=11\/(o=12\/o=13)\/o=14\/o=15 from qb)with ho|ho|ho|ho
    ·by_cases hb:Tr o t n s.stack
     ·rw[Ic hf ho hb]at h;cases h
     ·rw[Rc hf ho hb]at h;cases h;exact⟨go_ok hs hl.2 hp h2 h7 hb,rfl⟩
    ·exact qjq
    ·rw[Lk hf ho]at h;cases h
    ·rw[Nu hf ho]at h;cases h
 ·rw[Lg hp]at h;cases h
def Mh:St:=⟨0,[],0,0⟩
theorem Uh(is:L I3):Ef is Mh:=⟨qbi,qbi,qbi,qbi,qbi⟩
def resT:Res->Z
 | .over c t n=>Bc true c t false ⟨#[]⟩ n
 | .wait ask nm n=>Bc false 0 ⟨#[]⟩ ask nm n
theorem Cc.alloc{ss:L By}{pl lk:Int}(h:Cc B w m ss cd pl st lk)(o:Obj):Cc B (w.alloc o) m ss cd pl st lk:=h.bl (aN _ _)
theorem storeT{T:X}{cs:Array Z}(hc:cs.size=6)(h:w.heap[T]?=M (O cs 194 (0,0)))(b0 b1 b2 b3 b4 b5:Z):((((((w.setCell ⟨T,0,N⟩ b0).setCell ⟨T,1,N⟩ b1).setCell ⟨T,2,N⟩ b2).setCell ⟨T,3,N⟩ b3).setCell ⟨T,4,N⟩ b4).setCell ⟨T,5,N⟩ b5).heap[T]?=M (O #[b0,b1,b2,b3,b4,b5] 194 (0,0))∧
 ∀B m ss cd pl st lk,Cc B w m ss cd pl st lk->Cc B ((((((w.setCell ⟨T,0,N⟩ b0).setCell ⟨T,1,N⟩ b1).setCell ⟨T,2,N⟩ b2).setCell ⟨T,3,N⟩ b3).setCell ⟨T,4,N⟩ b4).setCell ⟨T,5,N⟩ b5) m ss cd pl st lk:=by
 refine⟨?_,λB m ss cd pl st lk hM=>(Cc.turn (Cc.turn (Cc.turn (Cc.turn (Cc.turn (Cc.turn ⟨hM,_,h⟩ 0 _) 1 _) 2 _) 3 _) 4 _) 5 _).1⟩
 obtain⟨l⟩:=cs
 match l,hc with
 | [x0,x1,x2,x3,x4,x5],_=>
  rw[jB (jB (jB (jB (jB (jB h b0) b1) b2) b3) b4) b5];rfl
theorem bN{a b:E}(h:Bw w a)(k:Bw a b):Bw w b:=h.trans (k.mono h.size)
theorem Uw(hv:Ao is=true){o:Out}(h:Og is s o):Ef is s->∀ {ask nm s'},o=.look ask nm s'->∃s1,Ce is s1=.look ask nm s'/\s1.looks=s.looks/\Ef is s1/\∀ys r,Ci is ys s1 r->Ci is ys s r:=by
 induction h with
 | over h1=>intro _ c t n e;cases e
 | look h1=>intro hs c t n e;cases e;exact⟨_,h1,rfl,hs,λys r hr=>hr⟩
 | go h1 _ ih=>intro hs c t n e;obtain⟨k1,k2⟩:=Pq hv hs h1;obtain⟨s1,h2,h4,h5,h3⟩:=ih k1 e;exact⟨s1,h2,h4.trans k2,h5,λys r hr=>.go h1 (h3 ys r hr)⟩
def RQ(is:L I3)(ys:L R3)(s:St):Prop:=s.looks=ys.length/\∀zs r,Ci is (ys++zs) s r->Ci is (ys++zs) Mh r
def VAt(is:L I3)(ys:L R3)(B m:X)(cd:Z)(ov:Bool)(c:Int)(t:By)(ask:Bool)(nm:By)(st:Int)(w:E):Prop:=
 (ov=true/\ask=false/\nm=⟨#[]⟩/\∃n:X,st=n/\Ci is ys Mh (.over c t n))∨
 (ov=false/\c=0/\t=⟨#[]⟩/\∃s1 s',st=(s'.steps:Int)/\Ce is s1=.look ask nm s'/\RQ is ys s1/\Ef is s1/\Ef is s'/\Cc B w m s'.stack cd s'.pl s'.steps s'.looks)
theorem VAt.full{c:Int}{t:By}{ask:Bool}{nm:By}(h:VAt is ys B m cd ov c t ask nm st w):(ov=true/\∃n,Ci is ys Mh (.over c t n))\/(ov=false/\∃n,Ci is ys Mh (.wait ask nm n)):=by
 rcases h with⟨rfl,_,_,n,_,hf⟩|⟨rfl,_,_,s1,s',_,h1,h2,_⟩
 ·exact Or.inl ⟨rfl,n,hf⟩
 ·refine Or.inr ⟨rfl,s'.steps,?_⟩;have:=h2.2 [] (.wait ask nm s'.steps);rw[List.append_nil]at this;exact this (.wait h1 (by rw[h2.1];exact Nat.le_refl _))
theorem VAt.mono{c:Int}{t:By}{ask:Bool}{nm:By}(h:VAt is ys B m cd ov c t ask nm st w)(hM:∀ss pl pu lk,Cc B w m ss cd pl pu lk->Cc B w' m ss cd pl pu lk):VAt is ys B m cd ov c t ask nm st w':=by
 rcases h with h|⟨e1,e2,e3,s1,s',e4,h1,h2,h3,h4,h5⟩
 ·exact Or.inl h
 ·exact Or.inr ⟨e1,e2,e3,s1,s',e4,h1,h2,h3,h4,hM _ _ _ _ h5⟩
theorem run_vat(hv:Ao is=true)(h:Vj is Mh B m cd e w3):∃ov c t ask nm st,e=H (Bc ov c t ask nm st)/\VAt is [] B m cd ov c t ask nm st w3:=by
 rcases h with⟨c,t,n,hr,rfl⟩|⟨ask,nm,s',hr,rfl,hs,hM⟩
 ·exact⟨true,c,t,false,⟨#[]⟩,n,rfl,Or.inl ⟨rfl,rfl,rfl,n,rfl,Xt [] hr rfl⟩⟩
 ·obtain⟨s1,h1,h2,h3,h4⟩:=Uw hv hr (Uh is) rfl;exact⟨false,0,⟨#[]⟩,ask,nm,s'.steps,rfl,Or.inr ⟨rfl,rfl,rfl,s1,s',rfl,h1,⟨h2,λzs r hr=>h4 _ r hr⟩,h3,hs,hM⟩⟩
theorem rx_mid(ys zs:L R3)(y:R3):rx (ys++[y]++zs) ys.length=y:=by
 unfold rx
 rw[gG,List.append_assoc,List.getElem?_append_right (Nat.le_refl _)]
 simp
theorem ans_vat{ask:Bool}{nm:By}{y':R3}{s1 s':St}(hv:Ao is=true)(h1:Ce is s1=.look ask nm s')(hq:RQ is ys s1)(hy:y.text.size<=2000)(hyy:Eu ask nm y s'=Eu ask nm y' s')(fm:Ef is s1)(J7:Ef is s')(h:(∃c t n,Eu ask nm y s'=.over c t n/\e=H (Bc true c t false ⟨#[]⟩ n))\/(∃s'',Eu ask nm y s'=.go s''/\Vj is s'' B m cd e w3)):∃ov c t ask nm st,e=H (Bc ov c t ask nm st)/\VAt is (ys++[y']) B m cd ov c t ask nm st w3:=by
 obtain⟨q1,q2,q3,q4,q5,q6,q7,q8⟩:=Hz h1
 have hl:=(Eb hv).2
 have ur:∀zs:L R3,s1.looks<(ys++[y']++zs).length:=λzs=>by rw[hq.1];simp
 have hrx:∀zs:L R3,rx (ys++[y']++zs) s1.looks=y':=λzs=>by rw[hq.1];exact rx_mid ys zs y'
 have hF:∀zs r,Ci is (ys++[y']++zs) s1 r->Ci is (ys++[y']++zs) Mh r:=λzs r hr=>by
  have:=hq.2 ([y']++zs) r;rw[<- List.append_assoc]at this;exact this hr
 have nil:∀r,Ci is (ys++[y']++[]) Mh r->Ci is (ys++[y']) Mh r:=λr hr=>by rw[List.append_nil]at hr;exact hr
 rcases h with⟨c,t,n,ha,rfl⟩|⟨s'',ha,gy⟩
 ·refine⟨true,c,t,false,⟨#[]⟩,n,rfl,Or.inl ⟨rfl,rfl,rfl,n,rfl,nil _ (hF [] _ (.end h1 (ur []) ?_))⟩⟩;rw[hrx,<- hyy];exact ha
 ·have wi:s'.stack.length<50:=by rw[q7,Bk];have:=fm.len;omega
  have To:Ef is s''/\s''.looks=s'.looks:=by
   unfold Eu at ha
   split at ha
   ·cases ha;exact⟨Lb J7 hl qb wi qcw,rfl⟩
   ·split at ha
    ·cases ha
    ·split at ha
     ·cases ha
     ·cases ha;exact⟨Lb J7 hl qb wi hy,rfl⟩
  have hA:∀zs,Eu ask nm (rx (ys++[y']++zs) s1.looks) s'=.go s'':=λzs=>by rw[hrx,<- hyy];exact ha
  rcases gy with⟨c,t,n,hr,rfl⟩|⟨ji,nm',s3,hr,rfl,ou,hM⟩
  ·exact⟨true,c,t,false,⟨#[]⟩,n,rfl,Or.inl ⟨rfl,rfl,rfl,n,rfl,nil _ (hF [] _ (.ans h1 (ur []) (hA []) (Xt _ hr rfl)))⟩⟩
  ·obtain⟨s2,g1,g2,g3,g4⟩:=Uw hv hr To.1 rfl;exact⟨false,0,⟨#[]⟩,ji,nm',s3.steps,rfl,Or.inr ⟨rfl,rfl,rfl,s2,s3,rfl,g1,⟨by rw[g2,To.2,q1,hq.1];simp,λzs r hr=>hF zs r (.ans h1 (ur zs) (hA zs) (g4 _ r hr))⟩,g3,ou,hM⟩⟩
theorem Qap(hs:Ef is s)(h:1<=s.stack.length):(Bu s.stack).size<=2000:=by
 unfold Bu
 rw[gG,Jr qb]
 exact hs.size _ (List.getElem_mem _)
theorem decB_size{n:X}(h:n<=200):(Ep n).size<=2000:=by
 have:=Pd 2 n qb
 show(Lib.decDigits n).length<=2000
 omega
theorem step0_over{c:Int}{t:By}{n:X}(hv:Ao is=true)(hs:Ef is s)(h:Ce is s=.over c t n):t.size<=2000/\0<=c/\c<=5:=by
 have hd:=decB_size hs.pl
 by_cases hp:s.pl<is.length
 ·by_cases h2:s.steps=2000
  ·rw[Jx hp h2]at h;cases h;exact⟨qd,qd,qd⟩
  ·obtain⟨o,t',n',e,h3,h4,h5,h6,h7⟩:=Lj hv hp;rw[Ia hp h2 e]at h
   by_cases hf:s.stack.length<Aw o
   ·rw[Nt hf]at h;cases h;exact⟨hd,qd,qd⟩
   ·rcases(show o<=11\/(o=12\/o=13)\/o=14\/o=15 from qb)with ho|ho|ho|ho
    ·by_cases hb:Tr o t' n' s.stack
     ·rw[Ic hf ho hb]at h;cases h;exact⟨hd,qd,qd⟩
     ·rw[Rc hf ho hb]at h;cases h
    ·by_cases hn:Ar (Bu s.stack)
     ·by_cases hk:s.looks=200
      ·rw[Ie hf ho hn hk]at h;cases h;exact⟨qd,qd,qd⟩
      ·rw[Kc hf ho hn hk]at h;cases h
     ·rw[Lw hf ho hn]at h;cases h;exact⟨hd,qd,qd⟩
    ·(have h1:1<=s.stack.length:=by rw[ho]at hf;have:Aw 14=1:=rfl;omega);rw[Lk hf ho]at h;cases h;exact⟨Qap hs h1,qd,qd⟩
    ·(have h1:1<=s.stack.length:=by rw[ho]at hf;have:Aw 15=1:=rfl;omega);rw[Nu hf ho]at h;cases h;exact⟨Qap hs h1,qd,qd⟩
 ·rw[Lg hp]at h;cases h;exact⟨hd,qd,qd⟩
theorem Jq{s':St}{ask:Bool}{nm:By}(hv:Ao is=true)(hs:Ef is s)(h:Ce is s=.look ask nm s'):Ef is s'/\Ar nm:=by
 by_cases hp:s.pl<is.length
 ·by_cases h2:s.steps=2000
  ·rw[Jx hp h2]at h;cases h
  ·obtain⟨o,t',n',e,h3,h4,h5,h6,h7⟩:=Lj hv hp;rw[Ia hp h2 e]at h
   by_cases hf:s.stack.length<Aw o
   ·rw[Nt hf]at h;cases h
   ·rcases(show o<=11\/(o=12\/o=13)\/o=14\/o=15 from qb)with ho|ho|ho|ho
    ·by_cases hb:Tr o t' n' s.stack
     ·rw[Ic hf ho hb]at h;cases h
     ·rw[Rc hf ho hb]at h;cases h
    ·by_cases hn:Ar (Bu s.stack)
     ·by_cases hk:s.looks=200
      ·rw[Ie hf ho hn hk]at h;cases h
      ·rw[Kc hf ho hn hk]at h;cases h;exact⟨Tt hs h2 hk,hn⟩
     ·rw[Lw hf ho hn]at h;cases h
    ·rw[Lk hf ho]at h;cases h
    ·rw[Nu hf ho]at h;cases h
 ·rw[Lg hp]at h;cases h
theorem Ci.size(hv:Ao is=true)(tw:∀i,i<ys.length->(rx ys i).text.size<=2000)(h:Ci is ys s r):Ef is s->∀ {c t n},r=.over c t n->t.size<=2000/\0<=c/\c<=5:=by
 have hl:=(Eb hv).2
 induction h with
 | over h1=>intro hs c t n e;cases e;exact step0_over hv hs h1
 | go h1 _ ih=>intro hs c t n e;exact ih (Pq hv hs h1).1 e
 | wait h1 _=>intro hs c t n e;cases e
 | ans h1 k1 a1 _ ih=>
  intro hs c t n e;obtain⟨q1,q2,q3,q4,q5,q6,q7,q8⟩:=Hz h1;have J7:=(Jq hv hs h1).1
  rename_i s s' s'' _ _
  have wi:s'.stack.length<50:=by rw[q7,Bk];have:=hs.len;omega
  refine ih ?_ e;unfold Eu at a1
  split at a1
  ·cases a1;exact Lb J7 hl qb wi qcw
  ·split at a1
   ·cases a1
   ·split at a1
    ·cases a1
    ·cases a1;exact Lb J7 hl qb wi (tw _ k1)
 | «end» h1 k1 a1=>
  intro hs c t n e;cases e;have de:=(Jq hv hs h1).2;have jy:=de.2.1;unfold Eu at a1
  split at a1
  ·cases a1
  ·split at a1
   ·cases a1;exact⟨qb,qd,qd⟩
   ·split at a1
    ·cases a1;exact⟨qb,qd,qd⟩
    ·cases a1
structure Md where
 c:Int
 t:By
 ls:L G3
abbrev Ms:=L (ByteArray×Option Md)
open Classical in
noncomputable def lk (ms:Ms) (nm:By):Option (Option Md):=(ms.find? λe=>decide (e.1=nm)).map (·.2)
def Bj(c:Int)(t:By):By:=⟨#[UInt8.ofNat (48+c.toNat)]⟩++(⟨#[58]⟩:By)++t
def Xy(ss:L S2)(ts:L T2)(nm:By):Prop:=Eg (Am ss) nm\/Eg (Ak ts) nm
open Classical in
noncomputable def Ck (ss:L S2) (ts:L T2) (nm:By):Bool:=decide (Xy ss ts nm)
noncomputable def Wh (ss:L S2) (ts:L T2) (nm:By) (d:Md):R3:=if Ck ss ts nm then ⟨true,d.c,d.t⟩ else ⟨false,0,⟨#[]⟩⟩
theorem asc_inj{l:L By}(h:Fu l)(hi:i<l.length)(hj:j<l.length)(e:nx l i=nx l j):i=j:=by
 rcases Nat.lt_trichotomy i j with h1|h1|h1
 ·have:=h.pair h1 hj;rw[e,Et]at this;cases this
 ·exact h1
 ·have:=h.pair h1 hi;rw[e,Et]at this;cases this
theorem src_inj(h:Fu (Am ss))(hi:i<ss.length)(hj:j<ss.length)(e:(sx ss i).name=(sx ss j).name):i=j:=asc_inj h (by rw[Cb];exact hi) (by rw[Cb];exact hj) (by rw[Dy,Dy];exact e)
theorem Ts(h:Fu (Ak ts))(hi:i<ts.length)(hj:j<ts.length)(e:(tx ts i).name=(tx ts j).name):i=j:=asc_inj h (by rw[Bs];exact hi) (by rw[Bs];exact hj) (by rw[Dr,Dr];exact e)
theorem Hl(hi:i<ss.length):Eg (Am ss) (sx ss i).name:=⟨i,by rw[Cb];exact hi,Dy ss i⟩
theorem Iu(hi:i<ts.length):Eg (Ak ts) (tx ts i).name:=⟨i,by rw[Bs];exact hi,Dr ts i⟩
structure MdOk (ss:L S2) (ts:L T2) (nm:By) (d:Md):Prop where
 c0:0<=d.c
 c5:d.c<=5
 t2:d.t.size<=2000
 ls:d.ls.length<=200
 no:¬ Xy ss ts nm->d=⟨4,nm,[]⟩
structure SpV (ss:L S2) (ts:L T2):Prop where
 ascS:Fu (Am ss)
 ascT:Fu (Ak ts)
 dis:∀nm,Eg (Am ss) nm->¬ Eg (Ak ts) nm
 txt:∀i,i<ss.length->(sx ss i).text.size<=2000
 pr:∀i,i<ts.length->Ao (tx ts i).code=true
 nm:∀i,i<ts.length->Ar (tx ts i).name
structure Gj (is:L I3) (ys:L R3) (ls:L G3):Prop where
 pr:Ao is=true
 ok:∀i,i<ys.length->Km (rx ys i)=true
 eq:ls.length=ys.length
theorem Ci.looks(hv:Ao is=true)(tw:∀i,i<ys.length->(rx ys i).text.size<=2000)(h:Ci is ys s r):Ef is s->s.looks<=ys.length->∀ {ask nm n},r=.wait ask nm n->ys.length<200/\Ar nm:=by
 have hl:=(Eb hv).2
 induction h with
 | over h1=>intro _ _ c t n e;cases e
 | go h1 _ ih=>intro hs hk c t n e;obtain⟨k1,k2⟩:=Pq hv hs h1;exact ih k1 qb e
 | wait h1 k1=>
  intro hs hk c t n e;cases e;obtain⟨q1,q2,q3,q4,q5,q6,q7,q8⟩:=Hz h1;have:=hs.looks;exact⟨qb,(Jq hv hs h1).2⟩
 | ans h1 k1 a1 _ ih=>
  intro hs hk c t n e;obtain⟨q1,q2,q3,q4,q5,q6,q7,q8⟩:=Hz h1;have J7:=(Jq hv hs h1).1
  rename_i s s' s'' _ _
  have wi:s'.stack.length<50:=by rw[q7,Bk];have:=hs.len;omega
  have To:Ef is s''/\s''.looks=s'.looks:=by
   unfold Eu at a1
   split at a1
   ·cases a1;exact⟨Lb J7 hl qb wi qcw,rfl⟩
   ·split at a1
    ·cases a1
    ·split at a1
     ·cases a1
     ·cases a1;exact⟨Lb J7 hl qb wi (tw _ k1),rfl⟩
  exact ih To.1 qb e
 | «end» h1 k1 a1=>intro _ _ c t n e;cases e
theorem Uj(h:∀i,i<ys.length->Km (rx ys i)=true):∀i,i<ys.length->(rx ys i).text.size<=2000:=λi hi=>by
 have:=h i hi
 simp only[Km,Bool.and_eq_true,decide_eq_true_eq]at this
 exact this.1.1
theorem rx_snoc(h:∀i,i<ys.length->Km (rx ys i)=true)(hy:Km y=true):∀i,i<(ys++[y]).length->Km (rx (ys++[y]) i)=true:=by
 intro i hi
 rw[List.length_append,List.length_singleton]at hi
 rcases Nat.lt_or_ge i ys.length with h1|h1
 ·have e:rx (ys++[y]) i=rx ys i:=by
   unfold rx;rw[gG,gG,List.getElem?_append_left h1]
  rw[e];exact h i h1
 ·obtain rfl:i=ys.length:=qb;have:=rx_mid ys [] y;rw[List.append_nil]at this;rw[this];exact hy
theorem Gj.has(h:Gj is ys ls)(b:Bool)(g:G3):Gj is (ys++[⟨b,0,⟨#[]⟩⟩]) (ls++[g]):=⟨h.pr,rx_snoc h.ok (by cases b<;>decide),by simp[h.eq]⟩
theorem repP_ok{nm:By}{d:Md}(h:MdOk ss ts nm d):Km (Wh ss ts nm d)=true:=by
 unfold Wh
 split
 ·have h1:=h.c0;have h2:=h.c5;have h3:=h.t2;simp only[Km,Bool.and_eq_true,decide_eq_true_eq];omega
 ·decide
theorem Gj.asked(h:Gj is ys ls){nm:By}{d:Md}(hd:MdOk ss ts nm d)(g:G3):Gj is (ys++[Wh ss ts nm d]) (ls++[g]):=⟨h.pr,rx_snoc h.ok (repP_ok hd),by simp[h.eq]⟩
theorem Gj.over(h:Gj is ys ls){c:Int}{t:By}{n:X}(hf:Ci is ys Mh (.over c t n)):t.size<=2000/\0<=c/\c<=5:=Ci.size h.pr (Uj h.ok) hf (Uh is) rfl
theorem Gj.wait(h:Gj is ys ls){ask:Bool}{nm:By}{n:X}(hf:Ci is ys Mh (.wait ask nm n)):ys.length<200/\Ar nm:=Ci.looks h.pr (Uj h.ok) hf (Uh is) qbi rfl
end Go.Proofs.YtoakjccojifagaaGreatDoor
