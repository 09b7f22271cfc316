import Derived.Test.YtnflkpmmfpfhlaaGreatDoorTChkS
import Derived.Test.YtnflkpmmfpfhlaaGreatDoorTNLook
namespace Go.Proofs.YtnflkpmmfpfhlaaGreatDoor
open _root_.Go.Proofs.Tryz Go.RowKit
open Value renaming slice->J,string->S,bool->F
open Option renaming some->M,none->N
open Obj renaming cells->O
open Go renaming Value->Z,World->E
open Ending renaming returned->H
open _root_ renaming List->L,Nat->X
set_option linter.unusedVariables false
set_option maxHeartbeats 8000000
set_option maxRecDepth 100000
set_option linter.unusedSimpArgs false
variable {B m i j:X} {w w' w3:E} {is:L I3} {s:St} {ss:L S2} {cd:Z} {st:Int} {ys:L R3} {ov:Bool} {e:Ending} {y:R3} {r:Res} {ts:L T2} {ls:L G3}
section
def Ls(B:X)(w:E)(a:Option Addr)(is:L I3):Prop:=Cn w a is/\∀b off,a=M ⟨b,off,N⟩->b<B
theorem Ls.belowB{B:X}{w w':E}{a:Option Addr}{is:L I3}(h:Ls B w a is)(hb:Below B w w'):Ls B w' a is:=by
 refine⟨λi hi=>?_,h.2⟩
 obtain⟨b,off,ha,h1,h2,h3⟩:=h.1 i hi
 have hl:=h.2 b off ha
 exact⟨b,off,ha,(hb.cell (p:=⟨b,off+i*3,N⟩) hl).trans h1,(hb.cell (p:=⟨b,off+i*3+1,N⟩) hl).trans h2,(hb.cell (p:=⟨b,off+i*3+2,N⟩) hl).trans h3⟩
theorem Cl.steps{B:X}{w:E}{m:X}{ss:L By}{cd:Z}{pl st lk:Int}(h:Cl B w m ss cd pl st lk)(p:Int):Cl B (w.setCell ⟨m,3,N⟩ (I p)) m ss cd pl p lk:=by
 obtain⟨hB,v,hm,ho⟩:=h
 refine⟨hB,v,?_,?_⟩
 ·exact qdy
 ·have hne:=hm.ne' ho;refine⟨ho.1,?_⟩
  rcases ho.2 with h0|⟨g,cap,cur,hv,hg,hh,r⟩
  ·exact Or.inl h0
  ·refine Or.inr ⟨g,cap,cur,hv,hg,?_,r⟩;rw[Dm w ⟨m,3,N⟩ _ g qcs];exact hh
theorem Cl.all{B:X}{w:E}{m:X}{ss:L By}{cd:Z}{pl st lk:Int}(h:Cl B w m ss cd pl st lk):∃ao cp,w.cell? ⟨m,0,N⟩=M (J ao ss.length cp)/\w.cell? ⟨m,1,N⟩=M cd/\w.cell? ⟨m,2,N⟩=M (I pl)/\w.cell? ⟨m,3,N⟩=M (I st)/\w.cell? ⟨m,4,N⟩=M (I lk)/\(∀j,w.frozen? ⟨m,j,N⟩=false)/\m<w.heap.size/\B<=m/\Hp w m (J ao ss.length cp) cd pl st lk:=by
 obtain⟨hB,v,hm,ho⟩:=h
 obtain⟨ao,cp,rfl⟩:∃ao cp,v=J ao ss.length cp:=by
  rcases ho.2 with⟨hv,h0⟩|⟨g,cap,cur,hv,_⟩
  ·exact⟨N,0,by rw[hv,h0]⟩
  ·exact⟨_,_,hv⟩
 exact⟨ao,cp,qbf,qbf,qbf,qbf,qbf,λj=>fH hm j,hm.lt,hB,hm⟩
theorem Lo{is:L I3}(h:Av is=true){k:X}(hk:k<is.length):∃(o:X)(t:By)(n:X),ix is k=⟨o,t,n⟩/\1<=o/\o<=15/\t.size<=2000/\n<=2000/\((o=10\/o=11)->n<=200):=by
 simp only[Av,Bool.and_eq_true,decide_eq_true_eq]at h
 have hi:=h.2 k hk
 generalize ix is k=i at hi ⊢
 obtain⟨op,t,n⟩:=i
 simp only[Hk,Bool.and_eq_true,decide_eq_true_eq]at hi
 obtain⟨⟨⟨⟨h1,h2⟩,h3⟩,h4⟩,h5⟩:=hi
 obtain⟨o,rfl⟩:=Int.eq_ofNat_of_zero_le (show 0<=op from qg)
 obtain⟨n',rfl⟩:=Int.eq_ofNat_of_zero_le h4
 have hm:Kt (Er o)<=2000:=by unfold Kt;split<;>omega
 have hn:Pa (Er o)<=2000:=by unfold Pa;split<;>(try split)<;>omega
 refine⟨o,t,n',rfl,qg,qg,qg,qg,λho=>?_⟩
 have:Pa (Er o)=200:=by rcases ho with rfl|rfl<;>rfl
 omega
theorem Ef{is:L I3}(h:Av is=true):1<=is.length/\is.length<=200:=by
 simp only[Av,Bool.and_eq_true,decide_eq_true_eq]at h
 omega
theorem takes_eq(o:X)(h:o<=15):Lv.getD o 0=((Aw o:X):Int):=by
 exact qfg
theorem Lk{is:L I3}{s:St}(h:¬ s.pl<is.length):Cq is s=.over 2 (Fw s.pl) s.steps:=by unfold Cq;rw[if_pos qg]
theorem Jz{is:L I3}{s:St}(h:s.pl<is.length)(h2:s.steps=2000):Cq is s=.over 3 ⟨#[]⟩ s.steps:=by unfold Cq;rw[if_neg qg,if_pos h2]
theorem Ia{is:L I3}{s:St}{o:X}{t:By}{n:X}(h:s.pl<is.length)(h2:s.steps≠2000)(e:ix is s.pl=⟨o,t,n⟩):Cq is s=Lz ⟨o,t,n⟩ s:=by unfold Cq;rw[if_neg qg,if_neg h2,e]
section
variable {o:X} {t:By} {n:X} {s:St}
theorem Oa(h:s.stack.length<Aw o):Lz ⟨o,t,n⟩ s=.over 2 (Fw s.pl) (s.steps+1):=by
 simp only[Lz,Int.toNat_natCast];rw[if_pos h]
theorem Oc(h:¬ s.stack.length<Aw o)(ho:o=15):Lz ⟨o,t,n⟩ s=.over 0 (Cc s.stack) (s.steps+1):=by
 simp only[Lz,Int.toNat_natCast];rw[if_neg h,if_pos ho]
theorem Lp(h:¬ s.stack.length<Aw o)(ho:o=14):Lz ⟨o,t,n⟩ s=.over 1 (Cc s.stack) (s.steps+1):=by
 simp only[Lz,Int.toNat_natCast];rw[if_neg h,if_neg qg,if_pos ho]
theorem Ly(h:¬ s.stack.length<Aw o)(ho:o=12\/o=13)(hn:¬ Ao (Cc s.stack)):Lz ⟨o,t,n⟩ s=.over 2 (Fw s.pl) (s.steps+1):=by
 simp only[Lz,Int.toNat_natCast];rw[if_neg h,if_neg qg,if_neg qg,if_pos ho,if_pos hn]
theorem Ic(h:¬ s.stack.length<Aw o)(ho:o=12\/o=13)(hn:Ao (Cc s.stack))(hl:s.looks=200):Lz ⟨o,t,n⟩ s=.over 3 ⟨#[]⟩ (s.steps+1):=by
 simp only[Lz,Int.toNat_natCast];rw[if_neg h,if_neg qg,if_neg qg,if_pos ho,if_neg (λk=>k hn),if_pos hl]
theorem Kf(h:¬ s.stack.length<Aw o)(ho:o=12\/o=13)(hn:Ao (Cc s.stack))(hl:s.looks≠200):Lz ⟨o,t,n⟩ s=.look (o == 12) (Cc s.stack) ⟨s.pl,Bq s.stack 1,s.steps+1,s.looks+1⟩:=by
 have ht:Aw o=1:=by rcases ho with rfl|rfl<;>rfl
 simp only[Lz,Int.toNat_natCast];rw[if_neg h,if_neg qg,if_neg qg,if_pos ho,if_neg (λk=>k hn),if_neg hl,ht]
theorem Ib(h:¬ s.stack.length<Aw o)(ho:o<=11)(hb:Um o t n s.stack):Lz ⟨o,t,n⟩ s=.over 2 (Fw s.pl) (s.steps+1):=by
 simp only[Lz,Int.toNat_natCast];unfold Um at hb;rw[if_neg h,if_neg qg,if_neg qg,if_neg qg,if_pos hb]
theorem Rq(h:¬ s.stack.length<Aw o)(ho:o<=11)(hb:¬ Um o t n s.stack):Lz ⟨o,t,n⟩ s=.go ⟨Fs o n s.pl (Cc s.stack),Bq s.stack (Aw o)++Dd o t n (Cc s.stack) (Jp s.stack),s.steps+1,s.looks⟩:=by
 simp only[Lz,Int.toNat_natCast];unfold Um at hb;rw[if_neg h,if_neg qg,if_neg qg,if_neg qg,if_neg hb]
end
theorem go_ok{is:L I3}{s:St}{o:X}{t:By}{n:X}(hs:Ek is s)(hl:is.length<=200)(hp:s.pl<is.length)(cr:s.steps≠2000)(hn:(o=10\/o=11)->n<=200)(hb:¬ Um o t n s.stack):Ek is ⟨Fs o n s.pl (Cc s.stack),Bq s.stack (Aw o)++Dd o t n (Cc s.stack) (Jp s.stack),s.steps+1,s.looks⟩:=by
 unfold Um at hb
 have h1:=hs.steps
 refine⟨?_,?_,?_,?_,hs.looks⟩
 ·show Fs o n s.pl (Cc s.stack)<=200;unfold Fs;split
  ·exact hn qg
  ·split
   ·exact hn qg
   ·omega
 ·show(Bq s.stack (Aw o)++Dd o t n (Cc s.stack) (Jp s.stack)).length<=50;rw[List.length_append];have:¬ 50<(Bq s.stack (Aw o)).length+(Dd o t n (Cc s.stack) (Jp s.stack)).length:=λh=>hb (Or.inl h);omega
 ·intro x hx
  rcases List.mem_append.mp hx with hx|hx
  ·exact hs.size x (List.mem_of_mem_take hx)
  ·rcases Nat.lt_or_ge 2000 x.size with h|h
   ·exact absurd (Or.inr ⟨x,hx,h⟩) hb
   ·exact h
 ·show s.steps+1<=2000;omega
theorem Uh{is:L I3}{s:St}(hs:Ek is s)(cr:s.steps≠2000)(hl:s.looks≠200):Ek is ⟨s.pl,Bq s.stack 1,s.steps+1,s.looks+1⟩:=by
 have h1:=hs.steps
 have h2:=hs.looks
 have h3:=hs.len
 refine⟨hs.pl,?_,λx hx=>hs.size x (List.mem_of_mem_take hx),?_,?_⟩
 ·show(Bq s.stack 1).length<=50;rw[Bi];omega
 ·show s.steps+1<=2000;omega
 ·show s.looks+1<=200;omega
def zeroT:Array Z:=#[F false,I 0,ze,F false,ze,I 0]
def RunPost(is:L I3)(s:St)(B m:X)(cd:Z)(w:E)(e:Ending)(w':E):Prop:=
 KB B m w w'/\((∃c t n,Om is s (.over c t n)/\e=H (Bc true c t false ⟨#[]⟩ n))\/(∃ask nm s',Om is s (.look ask nm s')/\e=H (Bc false 0 ⟨#[]⟩ ask nm s'.steps)/\Ek is s'/\Cl B w' m s'.stack cd s'.pl s'.steps s'.looks))
theorem Qai(B m:X)(is:L I3)(a:Option Addr)(cap:X)(s0:St)(w:E)(hM:Cl B w m s0.stack (J a is.length cap) s0.pl s0.steps s0.looks)(hB:B<=w.heap.size)(bm:2<B)(d8:Ls B w a is)(hT:Mv w)(hP:Pg w)(hv:Av is=true)(hs0:Ek is s0):Calls prog 164 #[.pointer (p_ m)] w λe w'=>RunPost is s0 B m (J a is.length cap) w e w':=by
 have dm:=Ef hv
 have HV:=Ab hv
 have HC:=Ab d8
 have HT:=Ab hT
 have HP:=Ab hP
 have hm0:=hM.all
 obtain⟨_,_,_,_,_,_,_,_,Id,jz,_⟩:=hm0
 have HM0:Hd (Cl B (w.alloc (O zeroT 187)) m s0.stack (J a is.length cap) s0.pl s0.steps s0.looks):=hM.bl (aN _ _)
 have tz:Hd (KB B m w (w.alloc (O zeroT 187))):=KB.old (aN _ _) hB
 have yj:Hd ((w.alloc (O zeroT 187)).heap[w.heap.size]?=M (O zeroT 187 (0,0))):=Bf _ _
 have N6:=Ab hs0
 clear hv d8 hT hP hM hs0
 unfold zeroT at HM0 tz yj
 go_enter func164,ntmps164
 go_wp2
 go_loopg [] 2001 (λkx wr=>∃s:St,Hd (Ek is s)/\Hd (∀o,Om is s o->Om is s0 o)/\Hd (Cl B wr m s.stack (J a is.length cap) s.pl s.steps s.looks)/\Hd (KB B m w wr)/\Hd (wr.heap[w.heap.size]?=M (O #[F false,I 0,ze,F false,ze,I 0] 187 (0,0)))/\2001-s.steps<=kx)
 case atStart=>exact⟨s0,N6.o,λo h=>h,HM0.o,tz.o,yj.o,qg⟩
 case round=>
  clear HM0 tz yj N6;obtain⟨s,HS,HR,HM,HK,HB,M4⟩:=hrel;obtain⟨ao,cp,m0,m1,m2,m3,m4,mf,zq,_,hmach⟩:=HM.o.all;have HMACH:Hd (Hp wr.drew m (J ao s.stack.length cp) (J a is.length cap) s.pl s.steps s.looks):=hmach;have E0:=HS.o.pl;have cr:=HS.o.steps;have nr:=HS.o.looks;clear hmach
  by_cases d7:s.pl<is.length
  ·have hplI:(s.pl:Int)<(is.length:Int):=qg
   by_cases fx:s.steps=2000
   ·have hst3:((s.steps:Int) == 2000)=true:=qj;have di:Hd (Cq is s=.over 3 ⟨#[]⟩ s.steps):=Jz d7 fx;have HKd:Hd (KB B m w wr.drew):=HK.o.drew;clear fx;go_wp2_with fail;go_region;go_wp2_with fail;refine(Kd m (J ao s.stack.length cp) _ s.pl s.steps s.looks 3 ⟨#[]⟩ _ HMACH.o).mono ?_;rintro e w2 ⟨rfl,af⟩;have hKB:KB B m w w2:=HKd.o.trans (KB.old af (Nat.le_trans hB (Nat.le_trans HK.o.size (Nat.le_refl _))));have zc:Hd (KB B m w w2):=hKB;have ba:w2.heap[w.heap.size]?=M (O #[F false,I 0,ze,F false,ze,I 0] 187 (0,0)):=(by rw[af.block _ (Ag HB.o)];exact HB.o);obtain⟨k0,k1,k2,k3,k4,k5⟩:=Zc ba;have f0:=fZ ba;clear ba af hKB m0 m1 m2 m3 m4 mf;unfold Bc;go_wp2;exact bR (v:=Bc true 3 ⟨#[]⟩ false ⟨#[]⟩ s.steps) qbx rfl ⟨((((((zc.o).setN 0 hB _).setN 1 hB _).setN 2 hB _).setN 3 hB _).setN 4 hB _).setN 5 hB _,Or.inl ⟨3,⟨#[]⟩,s.steps,HR.o _ (.over di.o),rfl⟩⟩
   ·have hst3:((s.steps:Int) == 2000)=false:=qj;obtain⟨o,t,n,ei,i8,ky,ht,hn,hn2⟩:=Lo HV.o d7;obtain⟨b,off,rfl,d1,d2,d3⟩:=(HC.o.belowB HK.o.bl).1 s.pl d7;have gy:=(HC.o).2 b off rfl;rw[ei]at d1 d2 d3;have EI:=Ab ei;obtain⟨t1,t2,t3⟩:=(HT.o.belowB HK.o.bl qg) o qg;have F2:b≠m:=qg;have h0m:0≠m:=qg;clear ei t1 t2;obtain⟨W1,A1⟩:=Aj (wr.setCell ⟨m,3,N⟩ (I ((s.steps:Int)+1)));(have A9:Hd (Cl B W1 m s.stack (J (M ⟨b,off,N⟩) is.length cap) s.pl ((s.steps:Int)+1) s.looks):=by rw[<- A1];exact HM.o.steps _);(have fb:Hd (KB B m w W1):=by rw[<- A1];exact HK.o.setM 3 jz _);(have d6:Hd (W1.heap[w.heap.size]?=M (O #[F false,I 0,ze,F false,ze,I 0] 187 (0,0))):=by rw[<- A1,Dm wr ⟨m,3,N⟩ _ _ qj];exact HB.o);(have hW1l:W1.heap.size=wr.heap.size:=by rw[<- A1];simp[go_sem]);obtain⟨n0,np,g0,g1,g2,g3,g4,gf,gml,_,gmach⟩:=A9.o.all;have ju:=alK W1;obtain⟨b',bz,eb,e1,e2,e3⟩:=(HC.o.belowB fb.o.bl).1 s.pl d7;simp only[Option.some.injEq,Addr.mk.injEq,and_true]at eb;obtain⟨rfl,rfl⟩:=eb;rw[EI.o]at e1 e2 e3;obtain⟨_,_,e4⟩:=(HT.o.belowB fb.o.bl qg) o qg;rw[takes_eq o ky]at e4;have a1:=λx=>ju _ _ x e1;have a2:=λx=>ju _ _ x e2;have a3:=λx=>ju _ _ x e3;have a4:=λx=>ju _ _ x e4;have a5:=λx=>ju _ _ x g0;have a6:=λx=>ju _ _ x g2;clear ju;go_wp2;go_region;go_wp2;clear A1 m0 m1 m2 m3 m4 mf d1 d2 d3 t3;go_region;go_wp2;go_region;obtain⟨W2,eW2⟩:=Aj ((W1.alloc (O #[I o,S t,I n] 174)).drew.drew.drew);(have hbb:Bw W1 W2:=by rw[<- eW2];exact(aN _ _).drew.drew.drew);have lz:=Ab (A9.o.bl hbb);have ft:=Ab (fb.o.trans (KB.old hbb (Nat.le_trans hB fb.o.size)))
    have dy:Hd (W2.heap[w.heap.size]?=M (O #[F false,I 0,ze,F false,ze,I 0] 187 (0,0))):=by
     rw[hbb.block _ (by rw[hW1l];exact Ag HB.o)];exact d6.o
    have HX:Hd (W2.heap[wr.heap.size]?=M (O #[I o,S t,I n] 174 (0,0))):=by
     rw[<- eW2,<- hW1l];exact Bf _ _
    obtain⟨x0,x1,x2⟩:=ck3 HX.o;have bg:=Nat.le_trans hB ft.o.size;have uq:=Ab (HP.o.belowB ft.o.bl bm);obtain⟨q0,qp,_,_,_,_,_,_,_,_,gmach2⟩:=lz.o.all;have HMA:=Ab gmach2;rw[eW2];clear gmach2 eW2 hbb a1 a2 a3 a4 a5 a6 e1 e2 e3 e4 g0 g1 g2 g3 g4 gf gml gmach A9 fb HB HMACH HM HK;have X5:=Ab (Ia d7 fx EI.o)
    by_cases fk:s.stack.length<Aw o
    ·have htkI:(s.stack.length:Int)<(Aw o:Int):=qg;have di:=Ab (X5.o.trans (Oa fk));go_wp2_with fail;refine(Ny m _ _ s.pl _ s.looks _ HMA.o uq.o qg qg).mono ?_;rintro e w2 ⟨rfl,af⟩;have zc:=Ab (ft.o.trans (KB.old af bg));have ba:w2.heap[w.heap.size]?=M (O #[F false,I 0,ze,F false,ze,I 0] 187 (0,0)):=(by rw[af.block _ (Ag dy.o)];exact dy.o);exact qis
    ·have htkI:¬ (s.stack.length:Int)<(Aw o:Int):=qg;have E5:=HS.o.len
     rcases(show o<=11\/o=12\/o=13\/o=14\/o=15 from qg)with ho|rfl|rfl|rfl|rfl
     ·have d12:((o:Int) == 12)=false:=qj;have d13:((o:Int) == 13)=false:=qj;have d14:((o:Int) == 14)=false:=qj;have d15:((o:Int) == 15)=false:=qj;go_wp2_with fail;refine(work_any B m s.stack _ s.pl _ s.looks t n _ o lz.o bg E0 hn E5 HS.o.size ht i8 ho qg).mono ?_;rintro e w3 ⟨gu,⟨rfl,uk,jy⟩|⟨rfl,uk,ss',jy⟩⟩
      ·have di:Hd (Cq is s=.go ⟨Fs o n s.pl (Cc s.stack),Bq s.stack (Aw o)++Dd o t n (Cc s.stack) (Jp s.stack),s.steps+1,s.looks⟩):=X5.o.trans (Rq fk ho uk);have G5:=Ab jy;have HBD:=Ab uk;have tu:=Ab gu;clear jy uk gu;go_wp2_with fail
       go_roundg (2001-(s.steps+1))
       case rel=>exact⟨⟨Fs o n s.pl (Cc s.stack),Bq s.stack (Aw o)++Dd o t n (Cc s.stack) (Jp s.stack),s.steps+1,s.looks⟩,go_ok HS.o dm.2 d7 fx hn2 HBD.o,λo' h=>HR.o o' (.go di.o h),G5.o,ft.o.trans tu.o,tu.o.keep _ _ 187 qh qg dy.o,qi⟩
       case measure=>omega
      ·have di:Hd (Cq is s=.over 2 (Fw s.pl) (s.steps+1)):=X5.o.trans (Ib fk ho uk);obtain⟨z0,zp,_,_,_,_,_,_,_,_,gm3⟩:=jy.all;have HG3:=Ab gm3;have tu:=Ab (ft.o.trans gu);have ia:Hd (w3.heap[w.heap.size]?=M (O #[F false,I 0,ze,F false,ze,I 0] 187 (0,0))):=gu.keep _ _ 187 qh qg dy.o;have HP3:=Ab (HP.o.belowB tu.o.bl bm);clear jy uk gu gm3;go_wp2_with fail;refine(Ny m _ _ s.pl _ s.looks _ HG3.o HP3.o qg qg).mono ?_;rintro e w2 ⟨rfl,af⟩;have zc:=Ab (tu.o.trans (KB.old af (Nat.le_trans hB tu.o.size)));have ba:w2.heap[w.heap.size]?=M (O #[F false,I 0,ze,F false,ze,I 0] 187 (0,0)):=qhb;exact qis
     ·(have zk:1<=s.stack.length:=by have:Aw 12=1:=rfl;omega);have fg:=Ka zk;have nj:=Bi s.stack 1;have hx1:=HS.o.size _ (Hh zk);have wg:Hd (Cl B W2 m (Bq s.stack 1++[Cc s.stack]) (J (M ⟨b,off,N⟩) is.length cap) s.pl ((s.steps:Int)+1) s.looks):=qev;clear fg
      by_cases cz:Ao (Cc s.stack)
      ·by_cases M0:s.looks=200
       ·have di:Hd (Cq is s=.over 3 ⟨#[]⟩ (s.steps+1)):=X5.o.trans (Ic fk qg cz M0);go_wp2_with fail;refine(Vo B m _ _ _ s.pl _ s.looks true _ wg.o bg qg hx1 uq.o bm qg qg cz qg).mono ?_;exact qij
       ·have di:Hd (Cq is s=.look true (Cc s.stack) ⟨s.pl,Bq s.stack 1,s.steps+1,s.looks+1⟩):=X5.o.trans (Kf fk qg cz M0);go_wp2_with fail;refine(Yt B m _ _ _ s.pl _ s.looks true _ wg.o bg qg hx1 cz qg qg).mono ?_;rintro e w2 ⟨rfl,af,hM5⟩;have zc:=Ab (ft.o.trans af);have S5:=Ab hM5;have HBK:Hd (w2.heap[w.heap.size]?=M (O #[F false,I 0,ze,F false,ze,I 0] 187 (0,0))):=af.keep _ _ 187 qh qg dy.o;clear hM5;have ba:=HBK.o;obtain⟨k0,k1,k2,k3,k4,k5⟩:=Zc ba;have f0:=fZ ba;clear ba x0 x1 x2;unfold Bc;go_wp2;exact bR (v:=Bc false 0 ⟨#[]⟩ true (Cc s.stack) ((s.steps:Int)+1)) qbx rfl ⟨((((((zc.o).setN 0 hB _).setN 1 hB _).setN 2 hB _).setN 3 hB _).setN 4 hB _).setN 5 hB _,Or.inr ⟨true,Cc s.stack,⟨s.pl,Bq s.stack 1,s.steps+1,s.looks+1⟩,HR.o _ (.look di.o),rfl,Uh HS.o fx M0,(Cl.turn (Cl.turn (Cl.turn (Cl.turn (Cl.turn (Cl.turn ⟨S5.o,_,HBK.o⟩ 0 _) 1 _) 2 _) 3 _) 4 _) 5 _).1⟩⟩
      ·have di:Hd (Cq is s=.over 2 (Fw s.pl) (s.steps+1)):=X5.o.trans (Ly fk qg cz);go_wp2_with fail;refine(look_bad B m _ _ _ s.pl _ s.looks true _ wg.o bg qg hx1 uq.o bm qg qg cz).mono ?_;exact qii
     ·(have zk:1<=s.stack.length:=by have:Aw 13=1:=rfl;omega);have fg:=Ka zk;have nj:=Bi s.stack 1;have hx1:=HS.o.size _ (Hh zk);have wg:Hd (Cl B W2 m (Bq s.stack 1++[Cc s.stack]) (J (M ⟨b,off,N⟩) is.length cap) s.pl ((s.steps:Int)+1) s.looks):=qev;clear fg
      by_cases cz:Ao (Cc s.stack)
      ·by_cases M0:s.looks=200
       ·have di:Hd (Cq is s=.over 3 ⟨#[]⟩ (s.steps+1)):=X5.o.trans (Ic fk qg cz M0);go_wp2_with fail;refine(Vo B m _ _ _ s.pl _ s.looks false _ wg.o bg qg hx1 uq.o bm qg qg cz qg).mono ?_;exact qij
       ·have di:Hd (Cq is s=.look false (Cc s.stack) ⟨s.pl,Bq s.stack 1,s.steps+1,s.looks+1⟩):=X5.o.trans (Kf fk qg cz M0);go_wp2_with fail;refine(Yt B m _ _ _ s.pl _ s.looks false _ wg.o bg qg hx1 cz qg qg).mono ?_;rintro e w2 ⟨rfl,af,hM5⟩;have zc:=Ab (ft.o.trans af);have S5:=Ab hM5;have HBK:Hd (w2.heap[w.heap.size]?=M (O #[F false,I 0,ze,F false,ze,I 0] 187 (0,0))):=af.keep _ _ 187 qh qg dy.o;clear hM5;have ba:=HBK.o;obtain⟨k0,k1,k2,k3,k4,k5⟩:=Zc ba;have f0:=fZ ba;clear ba x0 x1 x2;unfold Bc;go_wp2;exact bR (v:=Bc false 0 ⟨#[]⟩ false (Cc s.stack) ((s.steps:Int)+1)) qbx rfl ⟨((((((zc.o).setN 0 hB _).setN 1 hB _).setN 2 hB _).setN 3 hB _).setN 4 hB _).setN 5 hB _,Or.inr ⟨false,Cc s.stack,⟨s.pl,Bq s.stack 1,s.steps+1,s.looks+1⟩,HR.o _ (.look di.o),rfl,Uh HS.o fx M0,(Cl.turn (Cl.turn (Cl.turn (Cl.turn (Cl.turn (Cl.turn ⟨S5.o,_,HBK.o⟩ 0 _) 1 _) 2 _) 3 _) 4 _) 5 _).1⟩⟩
      ·have di:Hd (Cq is s=.over 2 (Fw s.pl) (s.steps+1)):=X5.o.trans (Ly fk qg cz);go_wp2_with fail;refine(look_bad B m _ _ _ s.pl _ s.looks false _ wg.o bg qg hx1 uq.o bm qg qg cz).mono ?_;exact qii
     ·(have zk:1<=s.stack.length:=by have:Aw 14=1:=rfl;omega);have fg:=Ka zk;have nj:=Bi s.stack 1;have wg:Hd (Cl B W2 m (Bq s.stack 1++[Cc s.stack]) (J (M ⟨b,off,N⟩) is.length cap) s.pl ((s.steps:Int)+1) s.looks):=qev;clear fg;have di:Hd (Cq is s=.over 1 (Cc s.stack) (s.steps+1)):=X5.o.trans (Lp fk rfl);go_wp2_with fail;refine(Cm B m _ _ _ s.pl _ s.looks _ wg.o bg qg).mono ?_;rintro e w3 ⟨rfl,gu,jy,jg⟩;obtain⟨z0,zp,_,_,_,_,_,_,_,_,gm3⟩:=jy.all;have HG3:=Ab gm3;have tu:=Ab (ft.o.trans gu);have ia:Hd (w3.heap[w.heap.size]?=M (O #[F false,I 0,ze,F false,ze,I 0] 187 (0,0))):=gu.keep _ _ 187 qh qg dy.o;clear jy gu gm3 jg;go_wp2_with fail;refine(Kd m _ _ s.pl _ s.looks 1 (Cc s.stack) _ HG3.o).mono ?_;rintro e w2 ⟨rfl,af⟩;have zc:=Ab (tu.o.trans (KB.old af (Nat.le_trans hB tu.o.size)));have ba:w2.heap[w.heap.size]?=M (O #[F false,I 0,ze,F false,ze,I 0] 187 (0,0)):=qhb;obtain⟨k0,k1,k2,k3,k4,k5⟩:=Zc ba;have f0:=fZ ba;clear ba x0 x1 x2;unfold Bc;go_wp2;exact bR (v:=Bc true 1 (Cc s.stack) false ⟨#[]⟩ ((s.steps:Int)+1)) qbx rfl ⟨((((((zc.o).setN 0 hB _).setN 1 hB _).setN 2 hB _).setN 3 hB _).setN 4 hB _).setN 5 hB _,Or.inl ⟨1,(Cc s.stack),s.steps+1,HR.o _ (.over di.o),rfl⟩⟩
     ·(have zk:1<=s.stack.length:=by have:Aw 15=1:=rfl;omega);have fg:=Ka zk;have nj:=Bi s.stack 1;have wg:Hd (Cl B W2 m (Bq s.stack 1++[Cc s.stack]) (J (M ⟨b,off,N⟩) is.length cap) s.pl ((s.steps:Int)+1) s.looks):=qev;clear fg;have di:Hd (Cq is s=.over 0 (Cc s.stack) (s.steps+1)):=X5.o.trans (Oc fk rfl);go_wp2_with fail;refine(Cm B m _ _ _ s.pl _ s.looks _ wg.o bg qg).mono ?_;rintro e w3 ⟨rfl,gu,jy,jg⟩;obtain⟨z0,zp,_,_,_,_,_,_,_,_,gm3⟩:=jy.all;have HG3:=Ab gm3;have tu:=Ab (ft.o.trans gu);have ia:Hd (w3.heap[w.heap.size]?=M (O #[F false,I 0,ze,F false,ze,I 0] 187 (0,0))):=gu.keep _ _ 187 qh qg dy.o;clear jy gu gm3 jg;go_wp2_with fail;refine(Kd m _ _ s.pl _ s.looks 0 (Cc s.stack) _ HG3.o).mono ?_;rintro e w2 ⟨rfl,af⟩;have zc:=Ab (tu.o.trans (KB.old af (Nat.le_trans hB tu.o.size)));have ba:w2.heap[w.heap.size]?=M (O #[F false,I 0,ze,F false,ze,I 0] 187 (0,0)):=qhb;obtain⟨k0,k1,k2,k3,k4,k5⟩:=Zc ba;have f0:=fZ ba;clear ba x0 x1 x2;unfold Bc;go_wp2;exact bR (v:=Bc true 0 (Cc s.stack) false ⟨#[]⟩ ((s.steps:Int)+1)) qbx rfl ⟨((((((zc.o).setN 0 hB _).setN 1 hB _).setN 2 hB _).setN 3 hB _).setN 4 hB _).setN 5 hB _,Or.inl ⟨0,(Cc s.stack),s.steps+1,HR.o _ (.over di.o),rfl⟩⟩
  ·have hplI:¬ (s.pl:Int)<(is.length:Int):=qg;have di:Hd (Cq is s=.over 2 (Fw s.pl) s.steps):=Lk d7;have HPd:Hd (Pg wr.drew):=(HP.o.belowB HK.o.drew.bl bm);have HKd:Hd (KB B m w wr.drew):=HK.o.drew;go_wp2_with fail;go_region;go_wp2_with fail;refine(Ny m (J ao s.stack.length cp) _ s.pl s.steps s.looks _ HMACH.o HPd.o qg qg).mono ?_;rintro e w2 ⟨rfl,af⟩;have hKB:KB B m w w2:=HKd.o.trans (KB.old af (Nat.le_trans hB (Nat.le_trans HK.o.size (Nat.le_refl _))));have zc:Hd (KB B m w w2):=hKB;have ba:w2.heap[w.heap.size]?=M (O #[F false,I 0,ze,F false,ze,I 0] 187 (0,0)):=(by rw[af.block _ (Ag HB.o)];exact HB.o);obtain⟨k0,k1,k2,k3,k4,k5⟩:=Zc ba;have f0:=fZ ba;clear ba af hKB m0 m1 m2 m3 m4 mf;unfold Bc;go_wp2;exact bR (v:=Bc true 2 (Fw s.pl) false ⟨#[]⟩ s.steps) qgn rfl ⟨((((((zc.o).setN 0 hB _).setN 1 hB _).setN 2 hB _).setN 3 hB _).setN 4 hB _).setN 5 hB _,Or.inl ⟨2,Fw s.pl,s.steps,HR.o _ (.over di.o),rfl⟩⟩
end
theorem KB.setB{b:X}(h:KB B m w w')(j:X)(hb:w.heap.size<=b)(hB:B<=b)(v:Z):KB B m w (w'.setCell ⟨b,j,N⟩ v):=⟨h.bl.setCell (p:=⟨b,j,N⟩) hB _,λb' cs T h1 h2 h3=>by rw[Dm w' ⟨b,j,N⟩ _ b' (by have:=Ag h3;simp;omega)];exact h.keep b' cs T h1 h2 h3,λhm b' cs T h1 h2 h3=>⟨by rw[Dm w' ⟨b,j,N⟩ _ b' (by have:=Ag h3;simp;omega)];exact(h.own hm b' cs T h1 h2 h3).1,λu hu=>(h.own hm b' cs T h1 h2 h3).2 u (by rw[World.cell?_setCell_far _ _ _ _ qj]at hu;exact hu)⟩⟩
def Wh(is:L I3)(s:St)(B m:X)(cd:Z)(e:Ending)(w':E):Prop:=
 (∃c t n,Om is s (.over c t n)/\e=H (Bc true c t false ⟨#[]⟩ n))\/(∃ask nm s',Om is s (.look ask nm s')/\e=H (Bc false 0 ⟨#[]⟩ ask nm s'.steps)/\Ek is s'/\Cl B w' m s'.stack cd s'.pl s'.steps s'.looks)
def AnsPost(is:L I3)(ask:Bool)(nm:By)(y:R3)(s:St)(B m:X)(cd:Z)(w:E)(e:Ending)(w':E):Prop:=
 KB B m w w'/\((∃c t n,Fe ask nm y s=.over c t n/\e=H (Bc true c t false ⟨#[]⟩ n))\/(∃s'',Fe ask nm y s=.go s''/\Wh is s'' B m cd e w'))
theorem Lh(hs:Ek is s)(hl:is.length<=200)(hp:s.pl<is.length)(xk:s.stack.length<50){x:By}(hx:x.size<=2000):Ek is ⟨s.pl+1,s.stack++[x],s.steps,s.looks⟩:=by
 refine⟨?_,?_,?_,hs.steps,hs.looks⟩
 ·show s.pl+1<=200;omega
 ·show(s.stack++[x]).length<=50;rw[List.length_append,List.length_singleton];omega
 ·intro z hz
  rcases List.mem_append.mp hz with hz|hz
  ·exact hs.size z hz
  ·obtain rfl:z=x:=by simpa using hz
   exact hx
theorem answer_any(B m:X)(is:L I3)(a:Option Addr)(cap:X)(ask:Bool)(nm:By)(y:R3)(s:St)(w:E)(hM:Cl B w m s.stack (J a is.length cap) s.pl s.steps s.looks)(hB:B<=w.heap.size)(bm:2<B)(d8:Ls B w a is)(hT:Mv w)(hP:Pg w)(hv:Av is=true)(hs:Ek is s)(d7:s.pl<is.length)(xk:s.stack.length<50)(hy:y.text.size<=2000):Calls prog 166 #[.pointer (p_ m),Bc false 0 ⟨#[]⟩ ask nm s.steps,.agg #[F y.has,I y.code,S y.text]] w λe w'=>AnsPost is ask nm y s B m (J a is.length cap) w e w':=by
 have dm:=Ef hv
 have E0:=hs.pl
 have HV:=Ab hv
 have HC:=Ab d8
 have HT:=Ab hT
 have HP:=Ab hP
 have HS:=Ab hs
 obtain⟨_,_,_,_,_,_,_,_,Id,jz,_⟩:=hM.all
 have ak:Bw w (((w.alloc (O #[F false,I 0,ze,F ask,S nm,I s.steps] 187)).alloc (O #[F y.has,I y.code,S y.text] 191)).alloc (O #[F false,I 0,ze,F false,ze,I 0] 187)):=((aN _ _).alloc qi _).alloc qj _
 obtain⟨W,eW⟩:=Aj ((((w.alloc (O #[F false,I 0,ze,F ask,S nm,I s.steps] 187)).alloc (O #[F y.has,I y.code,S y.text] 191)).alloc (O #[F false,I 0,ze,F false,ze,I 0] 187)))
 rw[eW]at ak
 have A9:=Ab (hM.bl ak)
 have fb:Hd (KB B m w W):=KB.old ak hB
 have ja:Hd (W.heap[w.heap.size+1+1]?=M (O #[F false,I 0,ze,F false,ze,I 0] 187 (0,0))):=by
  rw[<- eW];have h:=Bf ((w.alloc (O #[F false,I 0,ze,F ask,S nm,I s.steps] 187)).alloc (O #[F y.has,I y.code,S y.text] 191)) (O #[F false,I 0,ze,F false,ze,I 0] 187);rw[show((w.alloc (O #[F false,I 0,ze,F ask,S nm,I s.steps] 187)).alloc (O #[F y.has,I y.code,S y.text] 191)).heap.size=w.heap.size+1+1 from qi]at h;exact h
 have hB1':=Nat.le_trans hB ak.size
 have uy:w.heap.size<=w.heap.size+1+1:=qg
 have uz:B<=w.heap.size+1+1:=qg
 have r0:W.cell? ⟨w.heap.size,3,N⟩=M (F ask):=qas
 have r1:W.cell? ⟨w.heap.size,4,N⟩=M (S nm):=qas
 have r2:W.cell? ⟨w.heap.size+1,0,N⟩=M (F y.has):=qas
 have r3:W.cell? ⟨w.heap.size+1,1,N⟩=M (I y.code):=qas
 have r4:W.cell? ⟨w.heap.size+1,2,N⟩=M (S y.text):=qas
 have hfl:(Cz y.has).size<=2000:=qcy
 clear hv d8 hT hP hs hM ak
 unfold Bc
 cases ask
 ·go_enter func166,ntmps166
  go_wp2_with (go_at_call 168;refine(Rn _ _).mono ?_;rintro e w9 ⟨rfl,rfl⟩)
  clear eW;refine(Gu B m s.stack _ s.pl s.steps s.looks (Cz y.has) _ A9.o hB1' hfl xk).mono ?_;rintro e w1 ⟨rfl,ag,ff⟩;have HMp:Hd (Cl B (w1.setCell ⟨m,2,N⟩ (I ((s.pl:Int)+1))) m (s.stack++[Cz y.has]) (J a is.length cap) ((s.pl:Int)+1) s.steps s.looks):=ff.place _;obtain⟨c2,f2,_,_⟩:=ff.cell2;have HKp:Hd (KB B m w (w1.setCell ⟨m,2,N⟩ (I ((s.pl:Int)+1)))):=(fb.o.trans ag).setM 2 jz _
  have HRp:Hd ((w1.setCell ⟨m,2,N⟩ (I ((s.pl:Int)+1))).heap[w.heap.size+1+1]?=M (O #[F false,I 0,ze,F false,ze,I 0] 187 (0,0))):=by
   exact qlv
  clear ff ag A9 fb ja r0 r1 r2 r3 r4;go_wp2_with fail;refine(Qai B m is a cap ⟨s.pl+1,s.stack++[Cz y.has],s.steps,s.looks⟩ _ HMp.o (Nat.le_trans hB HKp.o.size) bm (HC.o.belowB HKp.o.bl) (HT.o.belowB HKp.o.bl qg) (HP.o.belowB HKp.o.bl bm) HV.o (Lh HS.o dm.2 d7 xk hfl)).mono ?_;rintro e w2 ⟨ib,gv⟩;have ft:=Ab (HKp.o.trans ib);have pj:Hd (w2.heap[w.heap.size+1+1]?=M (O #[F false,I 0,ze,F false,ze,I 0] 187 (0,0))):=ib.keep _ _ 187 qh qg HRp.o;have HG:Hd (Fe false nm y s=.go ⟨s.pl+1,s.stack++[Cz y.has],s.steps,s.looks⟩):=show Fe false nm y s=.go ⟨s.pl+1,s.stack++[Cz y.has],s.steps,s.looks⟩ from by simp[Fe]
  clear c2 f2 ib
  rcases gv with⟨c,t,n,hru,rfl⟩|⟨jp,nm',s',hru,rfl,hso,kj⟩
  ·have nh:Hd (Om is ⟨s.pl+1,s.stack++[Cz y.has],s.steps,s.looks⟩ (.over c t n)):=hru;exact qin
  ·have nh:Hd (Om is ⟨s.pl+1,s.stack++[Cz y.has],s.steps,s.looks⟩ (.look jp nm' s')):=hru;exact qig
 ·by_cases hh:y.has=true
  ·have HY1:Hd (y.has=true):=hh;rw[hh]at r2 eW;rw[hh]
   by_cases hc:y.code=0
   ·have HY2:Hd (y.code=0):=hc;rw[hc]at r3 eW;rw[hc];go_enter func166,ntmps166;go_wp2_with fail;clear eW;refine(Gu B m s.stack _ s.pl s.steps s.looks (y.text) _ A9.o hB1' hy xk).mono ?_;rintro e w1 ⟨rfl,ag,ff⟩;have HMp:Hd (Cl B (w1.setCell ⟨m,2,N⟩ (I ((s.pl:Int)+1))) m (s.stack++[y.text]) (J a is.length cap) ((s.pl:Int)+1) s.steps s.looks):=ff.place _;obtain⟨c2,f2,_,_⟩:=ff.cell2;have HKp:Hd (KB B m w (w1.setCell ⟨m,2,N⟩ (I ((s.pl:Int)+1)))):=(fb.o.trans ag).setM 2 jz _
    have HRp:Hd ((w1.setCell ⟨m,2,N⟩ (I ((s.pl:Int)+1))).heap[w.heap.size+1+1]?=M (O #[F false,I 0,ze,F false,ze,I 0] 187 (0,0))):=by
     exact qlv
    clear ff ag A9 fb ja r0 r1 r2 r3 r4;go_wp2_with fail;refine(Qai B m is a cap ⟨s.pl+1,s.stack++[y.text],s.steps,s.looks⟩ _ HMp.o (Nat.le_trans hB HKp.o.size) bm (HC.o.belowB HKp.o.bl) (HT.o.belowB HKp.o.bl qg) (HP.o.belowB HKp.o.bl bm) HV.o (Lh HS.o dm.2 d7 xk hy)).mono ?_;rintro e w2 ⟨ib,gv⟩;have ft:=Ab (HKp.o.trans ib);have pj:Hd (w2.heap[w.heap.size+1+1]?=M (O #[F false,I 0,ze,F false,ze,I 0] 187 (0,0))):=ib.keep _ _ 187 qh qg HRp.o;(have HG:Hd (Fe true nm y s=.go ⟨s.pl+1,s.stack++[y.text],s.steps,s.looks⟩):=show Fe true nm y s=.go ⟨s.pl+1,s.stack++[y.text],s.steps,s.looks⟩ from by simp[Fe,HY1.o,HY2.o]);clear c2 f2 ib
    rcases gv with⟨c,t,n,hru,rfl⟩|⟨jp,nm',s',hru,rfl,hso,kj⟩
    ·have nh:Hd (Om is ⟨s.pl+1,s.stack++[y.text],s.steps,s.looks⟩ (.over c t n)):=hru;exact qin
    ·have nh:Hd (Om is ⟨s.pl+1,s.stack++[y.text],s.steps,s.looks⟩ (.look jp nm' s')):=hru;exact qig
   ·have hcb:(y.code == 0)=false:=qch;(have HA:Hd (Fe true nm y s=.over 5 nm s.steps):=show Fe true nm y s=.over 5 nm s.steps from by simp[Fe,HY1.o,hc]);obtain⟨z0,zp,_,_,_,_,_,_,_,_,gm⟩:=A9.o.all;have HG:=Ab gm;clear gm;go_enter func166,ntmps166;go_wp2_with fail;clear eW;refine(Kd m _ _ s.pl s.steps s.looks 5 nm _ HG.o).mono ?_;rintro e w2 ⟨rfl,af⟩;have ft:=Ab (fb.o.trans (KB.old af hB1'));have ba:w2.heap[w.heap.size+1+1]?=M (O #[F false,I 0,ze,F false,ze,I 0] 187 (0,0)):=(by rw[af.block _ (Ag ja.o)];exact ja.o);obtain⟨k0,k1,k2,k3,k4,k5⟩:=Zc ba;have f0:=fZ ba;clear ba r0 r1 r2 r3 r4;unfold Bc;go_wp2;exact bR (v:=Bc true 5 nm false ⟨#[]⟩ s.steps) qef rfl ⟨((((((ft.o).setB 0 uy uz _).setB 1 uy uz _).setB 2 uy uz _).setB 3 uy uz _).setB 4 uy uz _).setB 5 uy uz _,Or.inl ⟨5,nm,s.steps,HA.o,rfl⟩⟩
  ·have hh':y.has=false:=by simpa using hh
   rw[hh']at r2 eW;rw[hh'];have HA:Hd (Fe true nm y s=.over 4 nm s.steps):=show Fe true nm y s=.over 4 nm s.steps from by simp[Fe,hh']
   obtain⟨z0,zp,_,_,_,_,_,_,_,_,gm⟩:=A9.o.all;have HG:=Ab gm;clear gm;go_enter func166,ntmps166;go_wp2_with fail;clear eW;refine(Kd m _ _ s.pl s.steps s.looks 4 nm _ HG.o).mono ?_;rintro e w2 ⟨rfl,af⟩;have ft:=Ab (fb.o.trans (KB.old af hB1'));have ba:w2.heap[w.heap.size+1+1]?=M (O #[F false,I 0,ze,F false,ze,I 0] 187 (0,0)):=(by rw[af.block _ (Ag ja.o)];exact ja.o);obtain⟨k0,k1,k2,k3,k4,k5⟩:=Zc ba;have f0:=fZ ba;clear ba r0 r1 r2 r3 r4;unfold Bc;go_wp2;exact bR (v:=Bc true 4 nm false ⟨#[]⟩ s.steps) qef rfl ⟨((((((ft.o).setB 0 uy uz _).setB 1 uy uz _).setB 2 uy uz _).setB 3 uy uz _).setB 4 uy uz _).setB 5 uy uz _,Or.inl ⟨4,nm,s.steps,HA.o,rfl⟩⟩
theorem Yz(ys:L R3){o:Out}(h:Om is s o):∀ {c t n},o=.over c t n->Ck is ys s (.over c t n):=by
 induction h with
 | over h1=>intro c t n e;cases e;exact .over h1
 | look h1=>intro c t n e;cases e
 | go h1 _ ih=>intro c t n e;exact .go h1 (ih e)
theorem Qc{s':St}(hv:Av is=true)(hs:Ek is s)(h:Cq is s=.go s'):Ek is s'/\s'.looks=s.looks:=by
 have hl:=Ef hv
 by_cases hp:s.pl<is.length
 ·by_cases h2:s.steps=2000
  ·rw[Jz hp h2]at h;cases h
  ·obtain⟨o,t,n,e,h3,h4,h5,h6,h7⟩:=Lo hv hp;rw[Ia hp h2 e]at h
   by_cases hf:s.stack.length<Aw o
   ·rw[Oa hf]at h;cases h
   ·rcases(show o<=11\/(o=12\/o=13)\/o=14\/o=15 from qg)with ho|ho|ho|ho
    ·by_cases hb:Um o t n s.stack
     ·rw[Ib hf ho hb]at h;cases h
     ·rw[Rq hf ho hb]at h;cases h;exact⟨go_ok hs hl.2 hp h2 h7 hb,rfl⟩
    ·exact qkc
    ·rw[Lp hf ho]at h;cases h
    ·rw[Oc hf ho]at h;cases h
 ·rw[Lk hp]at h;cases h
def Mx:St:=⟨0,[],0,0⟩
theorem Uz(is:L I3):Ek is Mx:=⟨qbo,qbo,qbo,qbo,qbo⟩
def resT:Res->Z
 | .over c t n=>Bc true c t false ⟨#[]⟩ n
 | .wait ask nm n=>Bc false 0 ⟨#[]⟩ ask nm n
theorem Cl.alloc{ss:L By}{pl lk:Int}(h:Cl B w m ss cd pl st lk)(o:Obj):Cl B (w.alloc o) m ss cd pl st lk:=h.bl (aN _ _)
theorem storeT{T:X}{cs:Array Z}(hc:cs.size=6)(h:w.heap[T]?=M (O cs 187 (0,0)))(b0 b1 b2 b3 b4 b5:Z):((((((w.setCell ⟨T,0,N⟩ b0).setCell ⟨T,1,N⟩ b1).setCell ⟨T,2,N⟩ b2).setCell ⟨T,3,N⟩ b3).setCell ⟨T,4,N⟩ b4).setCell ⟨T,5,N⟩ b5).heap[T]?=M (O #[b0,b1,b2,b3,b4,b5] 187 (0,0))∧
 ∀B m ss cd pl st lk,Cl B w m ss cd pl st lk->Cl B ((((((w.setCell ⟨T,0,N⟩ b0).setCell ⟨T,1,N⟩ b1).setCell ⟨T,2,N⟩ b2).setCell ⟨T,3,N⟩ b3).setCell ⟨T,4,N⟩ b4).setCell ⟨T,5,N⟩ b5) m ss cd pl st lk:=by
 refine⟨?_,λB m ss cd pl st lk hM=>(Cl.turn (Cl.turn (Cl.turn (Cl.turn (Cl.turn (Cl.turn ⟨hM,_,h⟩ 0 _) 1 _) 2 _) 3 _) 4 _) 5 _).1⟩
 obtain⟨l⟩:=cs
 match l,hc with
 | [x0,x1,x2,x3,x4,x5],_=>
  rw[jB (jB (jB (jB (jB (jB h b0) b1) b2) b3) b4) b5];rfl
theorem bN{a b:E}(h:Bw w a)(k:Bw a b):Bw w b:=h.trans (k.mono h.size)
theorem Vv(hv:Av is=true){o:Out}(h:Om is s o):Ek is s->∀ {ask nm s'},o=.look ask nm s'->∃s1,Cq is s1=.look ask nm s'/\s1.looks=s.looks/\Ek is s1/\∀ys r,Ck is ys s1 r->Ck is ys s r:=by
 induction h with
 | over h1=>intro _ c t n e;cases e
 | look h1=>intro hs c t n e;cases e;exact⟨_,h1,rfl,hs,λys r hr=>hr⟩
 | go h1 _ ih=>intro hs c t n e;obtain⟨k1,k2⟩:=Qc hv hs h1;obtain⟨s1,h2,h4,h5,h3⟩:=ih k1 e;exact⟨s1,h2,h4.trans k2,h5,λys r hr=>.go h1 (h3 ys r hr)⟩
def RQ(is:L I3)(ys:L R3)(s:St):Prop:=s.looks=ys.length/\∀zs r,Ck is (ys++zs) s r->Ck is (ys++zs) Mx r
def VAt(is:L I3)(ys:L R3)(B m:X)(cd:Z)(ov:Bool)(c:Int)(t:By)(ask:Bool)(nm:By)(st:Int)(w:E):Prop:=
 (ov=true/\ask=false/\nm=⟨#[]⟩/\∃n:X,st=n/\Ck is ys Mx (.over c t n))∨
 (ov=false/\c=0/\t=⟨#[]⟩/\∃s1 s',st=(s'.steps:Int)/\Cq is s1=.look ask nm s'/\RQ is ys s1/\Ek is s1/\Ek is s'/\Cl B w m s'.stack cd s'.pl s'.steps s'.looks)
theorem VAt.full{c:Int}{t:By}{ask:Bool}{nm:By}(h:VAt is ys B m cd ov c t ask nm st w):(ov=true/\∃n,Ck is ys Mx (.over c t n))\/(ov=false/\∃n,Ck is ys Mx (.wait ask nm n)):=by
 rcases h with⟨rfl,_,_,n,_,hf⟩|⟨rfl,_,_,s1,s',_,h1,h2,_⟩
 ·exact Or.inl ⟨rfl,n,hf⟩
 ·refine Or.inr ⟨rfl,s'.steps,?_⟩;have:=h2.2 [] (.wait ask nm s'.steps);rw[List.append_nil]at this;exact this (.wait h1 (by rw[h2.1];exact Nat.le_refl _))
theorem VAt.mono{c:Int}{t:By}{ask:Bool}{nm:By}(h:VAt is ys B m cd ov c t ask nm st w)(hM:∀ss pl ri lk,Cl B w m ss cd pl ri lk->Cl B w' m ss cd pl ri lk):VAt is ys B m cd ov c t ask nm st w':=by
 rcases h with h|⟨e1,e2,e3,s1,s',e4,h1,h2,h3,h4,h5⟩
 ·exact Or.inl h
 ·exact Or.inr ⟨e1,e2,e3,s1,s',e4,h1,h2,h3,h4,hM _ _ _ _ h5⟩
theorem run_vat(hv:Av is=true)(h:Wh is Mx B m cd e w3):∃ov c t ask nm st,e=H (Bc ov c t ask nm st)/\VAt is [] B m cd ov c t ask nm st w3:=by
 rcases h with⟨c,t,n,hr,rfl⟩|⟨ask,nm,s',hr,rfl,hs,hM⟩
 ·exact⟨true,c,t,false,⟨#[]⟩,n,rfl,Or.inl ⟨rfl,rfl,rfl,n,rfl,Yz [] hr rfl⟩⟩
 ·obtain⟨s1,h1,h2,h3,h4⟩:=Vv hv hr (Uz is) rfl;exact⟨false,0,⟨#[]⟩,ask,nm,s'.steps,rfl,Or.inr ⟨rfl,rfl,rfl,s1,s',rfl,h1,⟨h2,λzs r hr=>h4 _ r hr⟩,h3,hs,hM⟩⟩
theorem rx_mid(ys zs:L R3)(y:R3):rx (ys++[y]++zs) ys.length=y:=by
 unfold rx
 rw[gG,List.append_assoc,List.getElem?_append_right (Nat.le_refl _)]
 simp
theorem ans_vat{ask:Bool}{nm:By}{y':R3}{s1 s':St}(hv:Av is=true)(h1:Cq is s1=.look ask nm s')(hq:RQ is ys s1)(hy:y.text.size<=2000)(hyy:Fe ask nm y s'=Fe ask nm y' s')(fg:Ek is s1)(L5:Ek is s')(h:(∃c t n,Fe ask nm y s'=.over c t n/\e=H (Bc true c t false ⟨#[]⟩ n))\/(∃s'',Fe ask nm y s'=.go s''/\Wh is s'' B m cd e w3)):∃ov c t ask nm st,e=H (Bc ov c t ask nm st)/\VAt is (ys++[y']) B m cd ov c t ask nm st w3:=by
 obtain⟨q1,q2,q3,q4,q5,q6,q7,q8⟩:=Hz h1
 have hl:=(Ef hv).2
 have nr:∀zs:L R3,s1.looks<(ys++[y']++zs).length:=λzs=>by rw[hq.1];simp
 have hrx:∀zs:L R3,rx (ys++[y']++zs) s1.looks=y':=λzs=>by rw[hq.1];exact rx_mid ys zs y'
 have hF:∀zs r,Ck is (ys++[y']++zs) s1 r->Ck is (ys++[y']++zs) Mx r:=λzs r hr=>by
  have:=hq.2 ([y']++zs) r;rw[<- List.append_assoc]at this;exact this hr
 have nil:∀r,Ck is (ys++[y']++[]) Mx r->Ck is (ys++[y']) Mx r:=λr hr=>by rw[List.append_nil]at hr;exact hr
 rcases h with⟨c,t,n,ha,rfl⟩|⟨s'',ha,gv⟩
 ·refine⟨true,c,t,false,⟨#[]⟩,n,rfl,Or.inl ⟨rfl,rfl,rfl,n,rfl,nil _ (hF [] _ (.end h1 (nr []) ?_))⟩⟩;rw[hrx,<- hyy];exact ha
 ·have xk:s'.stack.length<50:=by rw[q7,Bi];have:=fg.len;omega
  have hso:Ek is s''/\s''.looks=s'.looks:=by
   unfold Fe at ha
   split at ha
   ·cases ha;exact⟨Lh L5 hl qg xk qcy,rfl⟩
   ·split at ha
    ·cases ha
    ·split at ha
     ·cases ha
     ·cases ha;exact⟨Lh L5 hl qg xk hy,rfl⟩
  have hA:∀zs,Fe ask nm (rx (ys++[y']++zs) s1.looks) s'=.go s'':=λzs=>by rw[hrx,<- hyy];exact ha
  rcases gv with⟨c,t,n,hr,rfl⟩|⟨jp,nm',s3,hr,rfl,o6,hM⟩
  ·exact⟨true,c,t,false,⟨#[]⟩,n,rfl,Or.inl ⟨rfl,rfl,rfl,n,rfl,nil _ (hF [] _ (.ans h1 (nr []) (hA []) (Yz _ hr rfl)))⟩⟩
  ·obtain⟨s2,g1,g2,g3,g4⟩:=Vv hv hr hso.1 rfl;exact⟨false,0,⟨#[]⟩,jp,nm',s3.steps,rfl,Or.inr ⟨rfl,rfl,rfl,s2,s3,rfl,g1,⟨by rw[g2,hso.2,q1,hq.1];simp,λzs r hr=>hF zs r (.ans h1 (nr zs) (hA zs) (g4 _ r hr))⟩,g3,o6,hM⟩⟩
theorem top_size(hs:Ek is s)(h:1<=s.stack.length):(Cc s.stack).size<=2000:=by
 unfold Cc
 rw[gG,Hq qg]
 exact hs.size _ (List.getElem_mem _)
theorem decB_size{n:X}(h:n<=200):(Fw n).size<=2000:=by
 have:=Pp 2 n qg
 show(Lib.decDigits n).length<=2000
 omega
theorem step0_over{c:Int}{t:By}{n:X}(hv:Av is=true)(hs:Ek is s)(h:Cq is s=.over c t n):t.size<=2000/\0<=c/\c<=5:=by
 have hd:=decB_size hs.pl
 by_cases hp:s.pl<is.length
 ·by_cases h2:s.steps=2000
  ·rw[Jz hp h2]at h;cases h;exact⟨qh,qh,qh⟩
  ·obtain⟨o,t',n',e,h3,h4,h5,h6,h7⟩:=Lo hv hp;rw[Ia hp h2 e]at h
   by_cases hf:s.stack.length<Aw o
   ·rw[Oa hf]at h;cases h;exact⟨hd,qh,qh⟩
   ·rcases(show o<=11\/(o=12\/o=13)\/o=14\/o=15 from qg)with ho|ho|ho|ho
    ·by_cases hb:Um o t' n' s.stack
     ·rw[Ib hf ho hb]at h;cases h;exact⟨hd,qh,qh⟩
     ·rw[Rq hf ho hb]at h;cases h
    ·by_cases hn:Ao (Cc s.stack)
     ·by_cases hk:s.looks=200
      ·rw[Ic hf ho hn hk]at h;cases h;exact⟨qh,qh,qh⟩
      ·rw[Kf hf ho hn hk]at h;cases h
     ·rw[Ly hf ho hn]at h;cases h;exact⟨hd,qh,qh⟩
    ·(have h1:1<=s.stack.length:=by rw[ho]at hf;have:Aw 14=1:=rfl;omega);rw[Lp hf ho]at h;cases h;exact⟨top_size hs h1,qh,qh⟩
    ·(have h1:1<=s.stack.length:=by rw[ho]at hf;have:Aw 15=1:=rfl;omega);rw[Oc hf ho]at h;cases h;exact⟨top_size hs h1,qh,qh⟩
 ·rw[Lk hp]at h;cases h;exact⟨hd,qh,qh⟩
theorem Jq{s':St}{ask:Bool}{nm:By}(hv:Av is=true)(hs:Ek is s)(h:Cq is s=.look ask nm s'):Ek is s'/\Ao nm:=by
 by_cases hp:s.pl<is.length
 ·by_cases h2:s.steps=2000
  ·rw[Jz hp h2]at h;cases h
  ·obtain⟨o,t',n',e,h3,h4,h5,h6,h7⟩:=Lo hv hp;rw[Ia hp h2 e]at h
   by_cases hf:s.stack.length<Aw o
   ·rw[Oa hf]at h;cases h
   ·rcases(show o<=11\/(o=12\/o=13)\/o=14\/o=15 from qg)with ho|ho|ho|ho
    ·by_cases hb:Um o t' n' s.stack
     ·rw[Ib hf ho hb]at h;cases h
     ·rw[Rq hf ho hb]at h;cases h
    ·by_cases hn:Ao (Cc s.stack)
     ·by_cases hk:s.looks=200
      ·rw[Ic hf ho hn hk]at h;cases h
      ·rw[Kf hf ho hn hk]at h;cases h;exact⟨Uh hs h2 hk,hn⟩
     ·rw[Ly hf ho hn]at h;cases h
    ·rw[Lp hf ho]at h;cases h
    ·rw[Oc hf ho]at h;cases h
 ·rw[Lk hp]at h;cases h
theorem Ck.size(hv:Av is=true)(rm:∀i,i<ys.length->(rx ys i).text.size<=2000)(h:Ck is ys s r):Ek is s->∀ {c t n},r=.over c t n->t.size<=2000/\0<=c/\c<=5:=by
 have hl:=(Ef hv).2
 induction h with
 | over h1=>intro hs c t n e;cases e;exact step0_over hv hs h1
 | go h1 _ ih=>intro hs c t n e;exact ih (Qc hv hs h1).1 e
 | wait h1 _=>intro hs c t n e;cases e
 | ans h1 k1 a1 _ ih=>
  intro hs c t n e;obtain⟨q1,q2,q3,q4,q5,q6,q7,q8⟩:=Hz h1;have L5:=(Jq hv hs h1).1
  rename_i s s' s'' _ _
  have xk:s'.stack.length<50:=by rw[q7,Bi];have:=hs.len;omega
  refine ih ?_ e;unfold Fe at a1
  split at a1
  ·cases a1;exact Lh L5 hl qg xk qcy
  ·split at a1
   ·cases a1
   ·split at a1
    ·cases a1
    ·cases a1;exact Lh L5 hl qg xk (rm _ k1)
 | «end» h1 k1 a1=>
  intro hs c t n e;cases e;have cz:=(Jq hv hs h1).2;have jv:=cz.2.1;unfold Fe at a1
  split at a1
  ·cases a1
  ·split at a1
   ·cases a1;exact⟨qg,qh,qh⟩
   ·split at a1
    ·cases a1;exact⟨qg,qh,qh⟩
    ·cases a1
structure Md where
 c:Int
 t:By
 ls:L G3
abbrev Ms:=L (ByteArray×Option Md)
open Classical in
noncomputable def lk (ms:Ms) (nm:By):Option (Option Md):=(ms.find? λe=>decide (e.1=nm)).map (·.2)
def Bp(c:Int)(t:By):By:=⟨#[UInt8.ofNat (48+c.toNat)]⟩++(⟨#[58]⟩:By)++t
def Ze(ss:L S2)(ts:L T2)(nm:By):Prop:=El (Au ss) nm\/El (Aq ts) nm
open Classical in
noncomputable def Cj (ss:L S2) (ts:L T2) (nm:By):Bool:=decide (Ze ss ts nm)
noncomputable def Xf (ss:L S2) (ts:L T2) (nm:By) (d:Md):R3:=if Cj ss ts nm then ⟨true,d.c,d.t⟩ else ⟨false,0,⟨#[]⟩⟩
theorem asc_inj{l:L By}(h:Hf l)(hi:i<l.length)(hj:j<l.length)(e:nx l i=nx l j):i=j:=by
 rcases Nat.lt_trichotomy i j with h1|h1|h1
 ·have:=h.pair h1 hj;rw[e,Fc]at this;cases this
 ·exact h1
 ·have:=h.pair h1 hi;rw[e,Fc]at this;cases this
theorem src_inj(h:Hf (Au ss))(hi:i<ss.length)(hj:j<ss.length)(e:(sx ss i).name=(sx ss j).name):i=j:=asc_inj h (by rw[Cd];exact hi) (by rw[Cd];exact hj) (by rw[Ed,Ed];exact e)
theorem Uf(h:Hf (Aq ts))(hi:i<ts.length)(hj:j<ts.length)(e:(tx ts i).name=(tx ts j).name):i=j:=asc_inj h (by rw[Ca];exact hi) (by rw[Ca];exact hj) (by rw[Dt,Dt];exact e)
theorem Hl(hi:i<ss.length):El (Au ss) (sx ss i).name:=⟨i,by rw[Cd];exact hi,Ed ss i⟩
theorem Ir(hi:i<ts.length):El (Aq ts) (tx ts i).name:=⟨i,by rw[Ca];exact hi,Dt ts i⟩
structure MdOk (ss:L S2) (ts:L T2) (nm:By) (d:Md):Prop where
 c0:0<=d.c
 c5:d.c<=5
 t2:d.t.size<=2000
 ls:d.ls.length<=200
 no:¬ Ze ss ts nm->d=⟨4,nm,[]⟩
structure Xv (ss:L S2) (ts:L T2):Prop where
 ascS:Hf (Au ss)
 ascT:Hf (Aq ts)
 dis:∀nm,El (Au ss) nm->¬ El (Aq ts) nm
 txt:∀i,i<ss.length->(sx ss i).text.size<=2000
 pr:∀i,i<ts.length->Av (tx ts i).code=true
 nm:∀i,i<ts.length->Ao (tx ts i).name
structure Gq (is:L I3) (ys:L R3) (ls:L G3):Prop where
 pr:Av is=true
 ok:∀i,i<ys.length->Ll (rx ys i)=true
 eq:ls.length=ys.length
theorem Ck.looks(hv:Av is=true)(rm:∀i,i<ys.length->(rx ys i).text.size<=2000)(h:Ck is ys s r):Ek is s->s.looks<=ys.length->∀ {ask nm n},r=.wait ask nm n->ys.length<200/\Ao nm:=by
 have hl:=(Ef hv).2
 induction h with
 | over h1=>intro _ _ c t n e;cases e
 | go h1 _ ih=>intro hs hk c t n e;obtain⟨k1,k2⟩:=Qc hv hs h1;exact ih k1 qg e
 | wait h1 k1=>
  intro hs hk c t n e;cases e;obtain⟨q1,q2,q3,q4,q5,q6,q7,q8⟩:=Hz h1;have:=hs.looks;exact⟨qg,(Jq hv hs h1).2⟩
 | ans h1 k1 a1 _ ih=>
  intro hs hk c t n e;obtain⟨q1,q2,q3,q4,q5,q6,q7,q8⟩:=Hz h1;have L5:=(Jq hv hs h1).1
  rename_i s s' s'' _ _
  have xk:s'.stack.length<50:=by rw[q7,Bi];have:=hs.len;omega
  have hso:Ek is s''/\s''.looks=s'.looks:=by
   unfold Fe at a1
   split at a1
   ·cases a1;exact⟨Lh L5 hl qg xk qcy,rfl⟩
   ·split at a1
    ·cases a1
    ·split at a1
     ·cases a1
     ·cases a1;exact⟨Lh L5 hl qg xk (rm _ k1),rfl⟩
  exact ih hso.1 qg e
 | «end» h1 k1 a1=>intro _ _ c t n e;cases e
theorem Vb(h:∀i,i<ys.length->Ll (rx ys i)=true):∀i,i<ys.length->(rx ys i).text.size<=2000:=λi hi=>by
 have:=h i hi
 simp only[Ll,Bool.and_eq_true,decide_eq_true_eq]at this
 exact this.1.1
theorem rx_snoc(h:∀i,i<ys.length->Ll (rx ys i)=true)(hy:Ll y=true):∀i,i<(ys++[y]).length->Ll (rx (ys++[y]) i)=true:=by
 intro i hi
 rw[List.length_append,List.length_singleton]at hi
 rcases Nat.lt_or_ge i ys.length with h1|h1
 ·have e:rx (ys++[y]) i=rx ys i:=by
   unfold rx;rw[gG,gG,List.getElem?_append_left h1]
  rw[e];exact h i h1
 ·obtain rfl:i=ys.length:=qg;have:=rx_mid ys [] y;rw[List.append_nil]at this;rw[this];exact hy
theorem Gq.has(h:Gq is ys ls)(b:Bool)(g:G3):Gq is (ys++[⟨b,0,⟨#[]⟩⟩]) (ls++[g]):=⟨h.pr,rx_snoc h.ok (by cases b<;>decide),by simp[h.eq]⟩
theorem repP_ok{nm:By}{d:Md}(h:MdOk ss ts nm d):Ll (Xf ss ts nm d)=true:=by
 unfold Xf
 split
 ·have h1:=h.c0;have h2:=h.c5;have h3:=h.t2;simp only[Ll,Bool.and_eq_true,decide_eq_true_eq];omega
 ·decide
theorem Gq.asked(h:Gq is ys ls){nm:By}{d:Md}(hd:MdOk ss ts nm d)(g:G3):Gq is (ys++[Xf ss ts nm d]) (ls++[g]):=⟨h.pr,rx_snoc h.ok (repP_ok hd),by simp[h.eq]⟩
theorem Gq.over(h:Gq is ys ls){c:Int}{t:By}{n:X}(hf:Ck is ys Mx (.over c t n)):t.size<=2000/\0<=c/\c<=5:=Ck.size h.pr (Vb h.ok) hf (Uz is) rfl
theorem Gq.wait(h:Gq is ys ls){ask:Bool}{nm:By}{n:X}(hf:Ck is ys Mx (.wait ask nm n)):ys.length<200/\Ao nm:=Ck.looks h.pr (Vb h.ok) hf (Uz is) qbo rfl
end Go.Proofs.YtnflkpmmfpfhlaaGreatDoor
