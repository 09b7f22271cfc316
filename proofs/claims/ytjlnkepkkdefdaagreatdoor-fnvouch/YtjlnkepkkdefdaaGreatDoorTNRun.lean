import Derived.Test.YtjlnkepkkdefdaaGreatDoorTNLook
import Derived.Deep.LoopGhost
namespace Go.Proofs.YtjlnkepkkdefdaaGreatDoor
open Go.RowKit
set_option linter.unusedVariables false
set_option maxHeartbeats 8000000
set_option maxRecDepth 100000
set_option linter.unusedSimpArgs false
section
def Ni (B:Nat) (w:World) (a:Option Addr) (is:List I3):Prop:=Dr w a is/\∀ b off,a=some ⟨b,off,none⟩->b<B
theorem Ni.belowB {B:Nat} {w w':World} {a:Option Addr} {is:List I3} (h:Ni B w a is) (hb:Below B w w'):Ni B w' a is:=by
 refine⟨fun i hi=>?_,h.2⟩
 obtain⟨b,off,ha,h1,h2,h3⟩:=h.1 i hi
 have hl:=h.2 b off ha
 exact⟨b,off,ha,(hb.cell (p:=⟨b,off+i*3,none⟩) hl).trans h1,(hb.cell (p:=⟨b,off+i*3+1,none⟩) hl).trans h2,(hb.cell (p:=⟨b,off+i*3+2,none⟩) hl).trans h3⟩
theorem Bx.steps {B:Nat} {w:World} {m:Nat} {ss:List ByteArray} {cd:Value} {pl st lk:Int} (h:Bx B w m ss cd pl st lk) (p:Int):Bx B (w.setCell ⟨m,3,none⟩ (.int .i64 p)) m ss cd pl p lk:=by
 obtain⟨hB,v,hm,ho⟩:=h
 refine⟨hB,v,?_,?_⟩
 ·unfold Fd at *;rw[jB hm];rfl
 ·have hne:=hm.ne' ho;refine⟨ho.1,?_⟩
  rcases ho.2 with h0|⟨g,cap,cur,hv,hg,hh,r⟩
  ·exact Or.inl h0
  ·refine Or.inr ⟨g,cap,cur,hv,hg,?_,r⟩;rw[hC w ⟨m,3,none⟩ _ g (by rintro e;apply hne;rw[hv];simp[Value.ownBlock,e])];exact hh
theorem Bx.all {B:Nat} {w:World} {m:Nat} {ss:List ByteArray} {cd:Value} {pl st lk:Int} (h:Bx B w m ss cd pl st lk):∃ ao cp,w.cell? ⟨m,0,none⟩=some (.slice ao ss.length cp)/\w.cell? ⟨m,1,none⟩=some cd/\w.cell? ⟨m,2,none⟩=some (.int .i64 pl)/\w.cell? ⟨m,3,none⟩=some (.int .i64 st)/\w.cell? ⟨m,4,none⟩=some (.int .i64 lk)/\(∀ j,w.frozen? ⟨m,j,none⟩=false)/\m<w.heap.size/\B<=m/\Fd w m (.slice ao ss.length cp) cd pl st lk:=by
 obtain⟨hB,v,hm,ho⟩:=h
 obtain⟨ao,cp,rfl⟩:∃ ao cp,v=.slice ao ss.length cp:=by
  rcases ho.2 with ⟨hv,h0⟩|⟨g,cap,cur,hv,_⟩
  ·exact⟨none,0,by rw[hv,h0]⟩
  ·exact⟨_,_,hv⟩
 exact⟨ao,cp,by rw[cH hm];rfl,by rw[cH hm];rfl,by rw[cH hm];rfl,by rw[cH hm];rfl,by rw[cH hm];rfl,fun j=>fH hm j,hm.lt,hB,hm⟩
theorem Kn {is:List I3} (h:Ah is=true) {k:Nat} (hk:k<is.length):∃(o:Nat) (t:ByteArray) (n:Nat),ix is k=⟨o,t,n⟩/\1<=o/\o<=15/\t.size<=2000/\n<=2000/\((o=10\/o=11)->n<=200):=by
 simp only[Ah,Bool.and_eq_true,decide_eq_true_eq] at h
 have hi:=h.2 k hk
 generalize ix is k=i at hi ⊢
 obtain⟨op,t,n⟩:=i
 simp only[Gu,Bool.and_eq_true,decide_eq_true_eq] at hi
 obtain⟨⟨⟨⟨h1,h2⟩,h3⟩,h4⟩,h5⟩:=hi
 obtain⟨o,rfl⟩:=Int.eq_ofNat_of_zero_le (show 0<=op by omega)
 obtain⟨n',rfl⟩:=Int.eq_ofNat_of_zero_le h4
 have hm:Lj (Ga o)<=2000:=by unfold Lj;split<;>omega
 have hn:Nc (Ga o)<=2000:=by unfold Nc;split<;>(try split)<;>omega
 refine⟨o,t,n',rfl,by omega,by omega,by omega,by omega,fun ho=>?_⟩
 have:Nc (Ga o)=200:=by rcases ho with rfl|rfl<;>rfl
 omega
theorem Ed {is:List I3} (h:Ah is=true):1<=is.length/\is.length<=200:=by
 simp only[Ah,Bool.and_eq_true,decide_eq_true_eq] at h
 omega
theorem Xf (o:Nat) (h:o<=15):Fo.getD o 0=((An o:Nat):Int):=by
 rcases (show o=0\/o=1\/o=2\/o=3\/o=4\/o=5\/o=6\/o=7\/o=8\/o=9\/o=10\/o=11\/o=12\/o=13\/o=14\/o=15 from by omega) with rfl|rfl|rfl|rfl|rfl|rfl|rfl|rfl|rfl|rfl|rfl|rfl|rfl|rfl|rfl|rfl<;>rfl
theorem Kk {is:List I3} {s:St} (h:¬ s.pl<is.length):Bk is s=.over 2 (Dx s.pl) s.steps:=by unfold Bk;rw[if_pos (by omega)]
theorem Je {is:List I3} {s:St} (h:s.pl<is.length) (h2:s.steps=2000):Bk is s=.over 3 ⟨#[]⟩ s.steps:=by unfold Bk;rw[if_neg (by omega),if_pos h2]
theorem Fj {is:List I3} {s:St} {o:Nat} {t:ByteArray} {n:Nat} (h:s.pl<is.length) (h2:s.steps≠2000) (e:ix is s.pl=⟨o,t,n⟩):Bk is s=Iu ⟨o,t,n⟩ s:=by unfold Bk;rw[if_neg (by omega),if_neg h2,e]
section
variable {o:Nat} {t:ByteArray} {n:Nat} {s:St}
theorem Mq (h:s.stack.length<An o):Iu ⟨o,t,n⟩ s=.over 2 (Dx s.pl) (s.steps+1):=by
 simp only[Iu,Int.toNat_natCast];rw[if_pos h]
theorem La (h:¬ s.stack.length<An o) (ho:o=15):Iu ⟨o,t,n⟩ s=.over 0 (Bq s.stack) (s.steps+1):=by
 simp only[Iu,Int.toNat_natCast];rw[if_neg h,if_pos ho]
theorem Ko (h:¬ s.stack.length<An o) (ho:o=14):Iu ⟨o,t,n⟩ s=.over 1 (Bq s.stack) (s.steps+1):=by
 simp only[Iu,Int.toNat_natCast];rw[if_neg h,if_neg (by omega),if_pos ho]
theorem Jy (h:¬ s.stack.length<An o) (ho:o=12\/o=13) (hn:¬ Aq (Bq s.stack)):Iu ⟨o,t,n⟩ s=.over 2 (Dx s.pl) (s.steps+1):=by
 simp only[Iu,Int.toNat_natCast];rw[if_neg h,if_neg (by omega),if_neg (by omega),if_pos ho,if_pos hn]
theorem Gs (h:¬ s.stack.length<An o) (ho:o=12\/o=13) (hn:Aq (Bq s.stack)) (hl:s.looks=200):Iu ⟨o,t,n⟩ s=.over 3 ⟨#[]⟩ (s.steps+1):=by
 simp only[Iu,Int.toNat_natCast];rw[if_neg h,if_neg (by omega),if_neg (by omega),if_pos ho,if_neg (fun k=>k hn),if_pos hl]
theorem He (h:¬ s.stack.length<An o) (ho:o=12\/o=13) (hn:Aq (Bq s.stack)) (hl:s.looks≠200):Iu ⟨o,t,n⟩ s=.look (o == 12) (Bq s.stack) ⟨s.pl,Be s.stack 1,s.steps+1,s.looks+1⟩:=by
 have ht:An o=1:=by rcases ho with rfl|rfl<;>rfl
 simp only[Iu,Int.toNat_natCast];rw[if_neg h,if_neg (by omega),if_neg (by omega),if_pos ho,if_neg (fun k=>k hn),if_neg hl,ht]
theorem Hp (h:¬ s.stack.length<An o) (ho:o<=11) (hb:Pp o t n s.stack):Iu ⟨o,t,n⟩ s=.over 2 (Dx s.pl) (s.steps+1):=by
 simp only[Iu,Int.toNat_natCast];unfold Pp at hb;rw[if_neg h,if_neg (by omega),if_neg (by omega),if_neg (by omega),if_pos hb]
theorem Ma (h:¬ s.stack.length<An o) (ho:o<=11) (hb:¬ Pp o t n s.stack):Iu ⟨o,t,n⟩ s=.go ⟨Eu o n s.pl (Bq s.stack),Be s.stack (An o)++Cl o t n (Bq s.stack) (Ij s.stack),s.steps+1,s.looks⟩:=by
 simp only[Iu,Int.toNat_natCast];unfold Pp at hb;rw[if_neg h,if_neg (by omega),if_neg (by omega),if_neg (by omega),if_neg hb]
end
theorem go_ok {is:List I3} {s:St} {o:Nat} {t:ByteArray} {n:Nat} (hs:Ec is s) (hl:is.length<=200) (hp:s.pl<is.length) (hst:s.steps≠2000) (hn:(o=10\/o=11)->n<=200) (hb:¬ Pp o t n s.stack):Ec is ⟨Eu o n s.pl (Bq s.stack),Be s.stack (An o)++Cl o t n (Bq s.stack) (Ij s.stack),s.steps+1,s.looks⟩:=by
 unfold Pp at hb
 have h1:=hs.steps
 refine⟨?_,?_,?_,?_,hs.looks⟩
 ·show Eu o n s.pl (Bq s.stack)<=200;unfold Eu;split
  ·exact hn (by omega)
  ·split
   ·exact hn (by omega)
   ·omega
 ·show (Be s.stack (An o)++Cl o t n (Bq s.stack) (Ij s.stack)).length<=50;rw[List.length_append];have:¬ 50<(Be s.stack (An o)).length+(Cl o t n (Bq s.stack) (Ij s.stack)).length:=fun h=>hb (Or.inl h);omega
 ·intro x hx
  rcases List.mem_append.mp hx with hx|hx
  ·exact hs.size x (List.mem_of_mem_take hx)
  ·rcases Nat.lt_or_ge 2000 x.size with h|h
   ·exact absurd (Or.inr ⟨x,hx,h⟩) hb
   ·exact h
 ·show s.steps+1<=2000;omega
theorem Ri {is:List I3} {s:St} (hs:Ec is s) (hst:s.steps≠2000) (hl:s.looks≠200):Ec is ⟨s.pl,Be s.stack 1,s.steps+1,s.looks+1⟩:=by
 have h1:=hs.steps
 have h2:=hs.looks
 have h3:=hs.len
 refine⟨hs.pl,?_,fun x hx=>hs.size x (List.mem_of_mem_take hx),?_,?_⟩
 ·show (Be s.stack 1).length<=50;rw[Bi];omega
 ·show s.steps+1<=2000;omega
 ·show s.looks+1<=200;omega
def Wp:Array Value:=#[.bool false,.int .i64 0,.string ⟨#[]⟩,.bool false,.string ⟨#[]⟩,.int .i64 0]
def RunPost (is:List I3) (s:St) (B m:Nat) (cd:Value) (w:World) (e:Ending) (w':World):Prop:=
 KB B m w w'/\((∃ c t n,My is s (.over c t n)/\e=.returned (Ao true c t false ⟨#[]⟩ n))\/(∃ ask nm s',My is s (.look ask nm s')/\e=.returned (Ao false 0 ⟨#[]⟩ ask nm s'.steps)/\Ec is s'/\Bx B w' m s'.stack cd s'.pl s'.steps s'.looks))
theorem Vw (B m:Nat) (is:List I3) (a:Option Addr) (cap:Nat) (s0:St) (w:World) (hM:Bx B w m s0.stack (.slice a is.length cap) s0.pl s0.steps s0.looks) (hB:B<=w.heap.size) (hB1:1<B) (hcode:Ni B w a is) (hT:Jr w) (hP:Ld w) (hv:Ah is=true) (hs0:Ec is s0) :
  Calls Tryz.prog 88 #[.pointer (some ⟨m,0,none⟩)] w fun e w'=>RunPost is s0 B m (.slice a is.length cap) w e w':=by
 have hlen:=Ed hv
 have HV:Hd (Ah is=true):=hv
 have HC:Hd (Ni B w a is):=hcode
 have HT:Hd (Jr w):=hT
 have HP:Hd (Ld w):=hP
 have hm0:=hM.all
 obtain⟨_,_,_,_,_,_,_,_,hmw,hBm,_⟩:=hm0
 have HM0:Hd (Bx B (w.alloc (.cells Wp 115)) m s0.stack (.slice a is.length cap) s0.pl s0.steps s0.looks):=hM.bl (aN _ _)
 have HK0:Hd (KB B m w (w.alloc (.cells Wp 115))):=KB.old (aN _ _) hB
 have HR0:Hd ((w.alloc (.cells Wp 115)).heap[w.heap.size]?=some (.cells Wp 115 (0,0))):=Aj _ _
 have HS0:Hd (Ec is s0):=hs0
 clear hv hcode hT hP hM hs0
 unfold Wp at HM0 HK0 HR0
 go_enter Tryz.func88,Tryz.ntmps88
 go_wp2
 go_loopg [] 2001 (fun kx wr=>∃ s:St,Hd (Ec is s)/\Hd (∀ o,My is s o->My is s0 o)/\Hd (Bx B wr m s.stack (.slice a is.length cap) s.pl s.steps s.looks)/\Hd (KB B m w wr)/\Hd (wr.heap[w.heap.size]?=some (.cells #[.bool false,.int .i64 0,.string ⟨#[]⟩,.bool false,.string ⟨#[]⟩,.int .i64 0] 115 (0,0)))/\2001-s.steps<=kx)
 case atStart=>exact⟨s0,HS0.o,fun o h=>h,HM0.o,HK0.o,HR0.o,by omega⟩
 case round=>
  clear HM0 HK0 HR0 HS0;obtain⟨s,HS,HR,HM,HK,HB,hkx⟩:=hrel;obtain⟨ao,cp,m0,m1,m2,m3,m4,mf,hml,_,hmach⟩:=HM.o.all;have HMACH:Hd (Fd wr.drew m (.slice ao s.stack.length cp) (.slice a is.length cap) s.pl s.steps s.looks):=hmach;have hp200:=HS.o.pl;have hst:=HS.o.steps;have hlk:=HS.o.looks;clear hmach
  by_cases hpl:s.pl<is.length
  ·have hplI:(s.pl:Int)<(is.length:Int):=by omega
   by_cases hst2:s.steps=2000
   ·(have hst3:((s.steps:Int) == 2000)=true:=by simp;omega);have HST:Hd (Bk is s=.over 3 ⟨#[]⟩ s.steps):=Je hpl hst2;have HKd:Hd (KB B m w wr.drew):=HK.o.drew;clear hst2;go_wp2_with fail;go_region;go_wp2_with fail;refine(Jg m (.slice ao s.stack.length cp) _ s.pl s.steps s.looks 3 ⟨#[]⟩ _ HMACH.o).mono ?_;rintro e w2 ⟨rfl,hb2⟩;have hKB:KB B m w w2:=HKd.o.trans (KB.old hb2 (Nat.le_trans hB (Nat.le_trans HK.o.size (Nat.le_refl _))));have HKB:Hd (KB B m w w2):=hKB;have hblk:w2.heap[w.heap.size]?=some (.cells #[.bool false,.int .i64 0,.string ⟨#[]⟩,.bool false,.string ⟨#[]⟩,.int .i64 0] 115 (0,0)):=(by rw[hb2.block _ (Af HB.o)];exact HB.o);have k0:=cH hblk 0;have k1:=cH hblk 1;have k2:=cH hblk 2;have k3:=cH hblk 3;have k4:=cH hblk 4;have k5:=cH hblk 5;simp only[gA,gB,gC] at k0 k1 k2 k3 k4 k5;have f0:∀ j,w2.frozen? ⟨w.heap.size,j,none⟩=false:=fun j=>fH hblk j;clear hblk hb2 hKB m0 m1 m2 m3 m4 mf;unfold Ao;go_wp2;exact bR (v:=Ao true 3 ⟨#[]⟩ false ⟨#[]⟩ s.steps) (by simp[results,Tryz.results88,go_sem,Ao,k0,k1,k2,k3,k4,k5]) rfl ⟨((((((HKB.o).setN 0 hB _).setN 1 hB _).setN 2 hB _).setN 3 hB _).setN 4 hB _).setN 5 hB _,Or.inl ⟨3,⟨#[]⟩,s.steps,HR.o _ (.over HST.o),rfl⟩⟩
   ·(have hst3:((s.steps:Int) == 2000)=false:=by simp;omega);obtain⟨o,t,n,ei,ho1,ho2,ht,hn,hn2⟩:=Kn HV.o hpl;obtain⟨b,off,rfl,d1,d2,d3⟩:=(HC.o.belowB HK.o.bl).1 s.pl hpl;have hbB:=(HC.o).2 b off rfl;rw[ei] at d1 d2 d3;have EI:Hd (ix is s.pl=⟨o,t,n⟩):=ei;obtain⟨t1,t2,t3⟩:=(HT.o.belowB HK.o.bl (by omega)) o (by omega);(have hbm:b≠m:=by omega);(have h0m:0≠m:=by omega);clear ei t1 t2;obtain⟨W1,eW1⟩:∃ W1,wr.setCell ⟨m,3,none⟩ (.int .i64 ((s.steps:Int)+1))=W1:=⟨_,rfl⟩;(have HM1:Hd (Bx B W1 m s.stack (.slice (some ⟨b,off,none⟩) is.length cap) s.pl ((s.steps:Int)+1) s.looks):=by rw[<- eW1];exact HM.o.steps _);(have HK1:Hd (KB B m w W1):=by rw[<- eW1];exact HK.o.setM 3 hBm _);(have HB1:Hd (W1.heap[w.heap.size]?=some (.cells #[.bool false,.int .i64 0,.string ⟨#[]⟩,.bool false,.string ⟨#[]⟩,.int .i64 0] 115 (0,0))):=by rw[<- eW1,hC wr ⟨m,3,none⟩ _ _ (by simp;omega)];exact HB.o);(have hW1l:W1.heap.size=wr.heap.size:=by rw[<- eW1];simp[go_sem]);obtain⟨n0,np,g0,g1,g2,g3,g4,gf,gml,_,gmach⟩:=HM1.o.all;have hal:=alK W1;obtain⟨b',off',eb,e1,e2,e3⟩:=(HC.o.belowB HK1.o.bl).1 s.pl hpl;simp only[Option.some.injEq,Addr.mk.injEq,and_true] at eb;obtain⟨rfl,rfl⟩:=eb;rw[EI.o] at e1 e2 e3;obtain⟨_,_,e4⟩:=(HT.o.belowB HK1.o.bl (by omega)) o (by omega);rw[Xf o ho2] at e4;have a1:=fun x=>hal _ _ x e1;have a2:=fun x=>hal _ _ x e2;have a3:=fun x=>hal _ _ x e3;have a4:=fun x=>hal _ _ x e4;have a5:=fun x=>hal _ _ x g0;have a6:=fun x=>hal _ _ x g2;clear hal;go_wp2;go_region;go_wp2;clear eW1 m0 m1 m2 m3 m4 mf d1 d2 d3 t3;go_region;go_wp2;go_region;obtain⟨W2,eW2⟩:∃ W2,(W1.alloc (.cells #[.int .i64 o,.string t,.int .i64 n] 106)).drew.drew.drew=W2:=⟨_,rfl⟩;(have hbb:Below W1.heap.size W1 W2:=by rw[<- eW2];exact(aN _ _).drew.drew.drew);have HM2:Hd (Bx B W2 m s.stack (.slice (some ⟨b,off,none⟩) is.length cap) s.pl ((s.steps:Int)+1) s.looks):=HM1.o.bl hbb;have HK2:Hd (KB B m w W2):=HK1.o.trans (KB.old hbb (Nat.le_trans hB HK1.o.size))
    have HB2:Hd (W2.heap[w.heap.size]?=some (.cells #[.bool false,.int .i64 0,.string ⟨#[]⟩,.bool false,.string ⟨#[]⟩,.int .i64 0] 115 (0,0))):=by
     rw[hbb.block _ (by rw[hW1l];exact Af HB.o)];exact HB1.o
    have HX:Hd (W2.heap[wr.heap.size]?=some (.cells #[.int .i64 o,.string t,.int .i64 n] 106 (0,0))):=by
     rw[<- eW2,<- hW1l];exact Aj _ _
    (have x0:W2.cell? ⟨wr.heap.size,0,none⟩=some (.int .i64 o):=by rw[cH HX.o];rfl);(have x1:W2.cell? ⟨wr.heap.size,1,none⟩=some (.string t):=by rw[cH HX.o];rfl);(have x2:W2.cell? ⟨wr.heap.size,2,none⟩=some (.int .i64 n):=by rw[cH HX.o];rfl);have hB2:B<=W2.heap.size:=Nat.le_trans hB HK2.o.size;have HP2:Hd (Ld W2):=HP.o.belowB HK2.o.bl hB1;obtain⟨q0,qp,_,_,_,_,_,_,_,_,gmach2⟩:=HM2.o.all;have HMA:Hd (Fd W2 m (.slice q0 s.stack.length qp) (.slice (some ⟨b,off,none⟩) is.length cap) s.pl ((s.steps:Int)+1) s.looks):=gmach2;rw[eW2];clear gmach2 eW2 hbb a1 a2 a3 a4 a5 a6 e1 e2 e3 e4 g0 g1 g2 g3 g4 gf gml gmach HM1 HK1 HB HMACH HM HK;have HSI:Hd (Bk is s=Iu ⟨o,t,n⟩ s):=Fj hpl hst2 EI.o
    by_cases htk:s.stack.length<An o
    ·(have htkI:(s.stack.length:Int)<(An o:Int):=by omega);have HST:Hd (Bk is s=.over 2 (Dx s.pl) (s.steps+1)):=HSI.o.trans (Mq htk);go_wp2_with fail;refine(Mm m _ _ s.pl _ s.looks _ HMA.o HP2.o (by omega) (by omega)).mono ?_;rintro e w2 ⟨rfl,hb2⟩;have HKB:Hd (KB B m w w2):=HK2.o.trans (KB.old hb2 hB2);have hblk:w2.heap[w.heap.size]?=some (.cells #[.bool false,.int .i64 0,.string ⟨#[]⟩,.bool false,.string ⟨#[]⟩,.int .i64 0] 115 (0,0)):=(by rw[hb2.block _ (Af HB2.o)];exact HB2.o);have k0:=cH hblk 0;have k1:=cH hblk 1;have k2:=cH hblk 2;have k3:=cH hblk 3;have k4:=cH hblk 4;have k5:=cH hblk 5;simp only[gA,gB,gC] at k0 k1 k2 k3 k4 k5;have f0:∀ j,w2.frozen? ⟨w.heap.size,j,none⟩=false:=fun j=>fH hblk j;clear hblk x0 x1 x2;unfold Ao;go_wp2;exact bR (v:=Ao true 2 (Dx s.pl) false ⟨#[]⟩ ((s.steps:Int)+1)) (by simp[results,Tryz.results88,go_sem,Ao,Dx,k0,k1,k2,k3,k4,k5]) rfl ⟨((((((HKB.o).setN 0 hB _).setN 1 hB _).setN 2 hB _).setN 3 hB _).setN 4 hB _).setN 5 hB _,Or.inl ⟨2,(Dx s.pl),s.steps+1,HR.o _ (.over HST.o),rfl⟩⟩
    ·(have htkI:¬ (s.stack.length:Int)<(An o:Int):=by omega);have hln:=HS.o.len
     rcases (show o<=11\/o=12\/o=13\/o=14\/o=15 by omega) with ho|rfl|rfl|rfl|rfl
     ·(have d12:((o:Int) == 12)=false:=by simp;omega);(have d13:((o:Int) == 13)=false:=by simp;omega);(have d14:((o:Int) == 14)=false:=by simp;omega);(have d15:((o:Int) == 15)=false:=by simp;omega);go_wp2_with fail;refine(work_any B m s.stack _ s.pl _ s.looks t n _ o HM2.o hB2 hp200 hn hln HS.o.size ht ho1 ho (by omega)).mono ?_;rintro e w3 ⟨hk3,⟨rfl,hbad,hM3⟩|⟨rfl,hbad,ss',hM3⟩⟩
      ·have HST:Hd (Bk is s=.go ⟨Eu o n s.pl (Bq s.stack),Be s.stack (An o)++Cl o t n (Bq s.stack) (Ij s.stack),s.steps+1,s.looks⟩):=HSI.o.trans (Ma htk ho hbad);have HM3:Hd (Bx B w3 m (Be s.stack (An o)++Cl o t n (Bq s.stack) (Ij s.stack)) (.slice (some ⟨b,off,none⟩) is.length cap) (Eu o n s.pl (Bq s.stack):Nat) ((s.steps:Int)+1) s.looks):=hM3;have HBD:Hd (¬ Pp o t n s.stack):=hbad;have HK3:Hd (KB B m W2 w3):=hk3;clear hM3 hbad hk3;go_wp2_with fail
       go_roundg (2001-(s.steps+1))
       case rel=>exact⟨⟨Eu o n s.pl (Bq s.stack),Be s.stack (An o)++Cl o t n (Bq s.stack) (Ij s.stack),s.steps+1,s.looks⟩,go_ok HS.o hlen.2 hpl hst2 hn2 HBD.o,fun o' h=>HR.o o' (.go HST.o h),HM3.o,HK2.o.trans HK3.o,HK3.o.keep _ _ 115 (by decide) (by omega) HB2.o,by simp⟩
       case measure=>omega
      ·have HST:Hd (Bk is s=.over 2 (Dx s.pl) (s.steps+1)):=HSI.o.trans (Hp htk ho hbad);obtain⟨z0,zp,_,_,_,_,_,_,_,_,gm3⟩:=hM3.all;have HG3:Hd (Fd w3 m _ _ s.pl ((s.steps:Int)+1) s.looks):=gm3;have HK3:Hd (KB B m w w3):=HK2.o.trans hk3;have HB3:Hd (w3.heap[w.heap.size]?=some (.cells #[.bool false,.int .i64 0,.string ⟨#[]⟩,.bool false,.string ⟨#[]⟩,.int .i64 0] 115 (0,0))):=hk3.keep _ _ 115 (by decide) (by omega) HB2.o;have HP3:Hd (Ld w3):=HP.o.belowB HK3.o.bl hB1;clear hM3 hbad hk3 gm3;go_wp2_with fail;refine(Mm m _ _ s.pl _ s.looks _ HG3.o HP3.o (by omega) (by omega)).mono ?_;rintro e w2 ⟨rfl,hb2⟩;have HKB:Hd (KB B m w w2):=HK3.o.trans (KB.old hb2 (Nat.le_trans hB HK3.o.size));have hblk:w2.heap[w.heap.size]?=some (.cells #[.bool false,.int .i64 0,.string ⟨#[]⟩,.bool false,.string ⟨#[]⟩,.int .i64 0] 115 (0,0)):=(by rw[hb2.block _ (Af HB3.o)];exact HB3.o);have k0:=cH hblk 0;have k1:=cH hblk 1;have k2:=cH hblk 2;have k3:=cH hblk 3;have k4:=cH hblk 4;have k5:=cH hblk 5;simp only[gA,gB,gC] at k0 k1 k2 k3 k4 k5;have f0:∀ j,w2.frozen? ⟨w.heap.size,j,none⟩=false:=fun j=>fH hblk j;clear hblk x0 x1 x2;unfold Ao;go_wp2;exact bR (v:=Ao true 2 (Dx s.pl) false ⟨#[]⟩ ((s.steps:Int)+1)) (by simp[results,Tryz.results88,go_sem,Ao,Dx,k0,k1,k2,k3,k4,k5]) rfl ⟨((((((HKB.o).setN 0 hB _).setN 1 hB _).setN 2 hB _).setN 3 hB _).setN 4 hB _).setN 5 hB _,Or.inl ⟨2,(Dx s.pl),s.steps+1,HR.o _ (.over HST.o),rfl⟩⟩
     ·(have htk1:1<=s.stack.length:=by have:An 12=1:=rfl;omega);have hs1:=Jf htk1;have hr1:=Bi s.stack 1;have hx1:=HS.o.size _ (Hc htk1);(have HM2':Hd (Bx B W2 m (Be s.stack 1++[Bq s.stack]) (.slice (some ⟨b,off,none⟩) is.length cap) s.pl ((s.steps:Int)+1) s.looks):=by rw[<- hs1];exact HM2.o);clear hs1
      by_cases hnm:Aq (Bq s.stack)
      ·by_cases hlk2:s.looks=200
       ·have HST:Hd (Bk is s=.over 3 ⟨#[]⟩ (s.steps+1)):=HSI.o.trans (Gs htk (by omega) hnm hlk2);go_wp2_with fail;refine(Se B m _ _ _ s.pl _ s.looks true _ HM2'.o hB2 (by omega) hx1 HP2.o hB1 (by omega) (by omega) hnm (by omega)).mono ?_;rintro e w2 ⟨rfl,hb2⟩;have HKB:Hd (KB B m w w2):=HK2.o.trans hb2;have hblk:w2.heap[w.heap.size]?=some (.cells #[.bool false,.int .i64 0,.string ⟨#[]⟩,.bool false,.string ⟨#[]⟩,.int .i64 0] 115 (0,0)):=(hb2.keep _ _ 115 (by decide) (by omega) HB2.o);have k0:=cH hblk 0;have k1:=cH hblk 1;have k2:=cH hblk 2;have k3:=cH hblk 3;have k4:=cH hblk 4;have k5:=cH hblk 5;simp only[gA,gB,gC] at k0 k1 k2 k3 k4 k5;have f0:∀ j,w2.frozen? ⟨w.heap.size,j,none⟩=false:=fun j=>fH hblk j;clear hblk x0 x1 x2;unfold Ao;go_wp2;exact bR (v:=Ao true 3 ⟨#[]⟩ false ⟨#[]⟩ ((s.steps:Int)+1)) (by simp[results,Tryz.results88,go_sem,Ao,k0,k1,k2,k3,k4,k5]) rfl ⟨((((((HKB.o).setN 0 hB _).setN 1 hB _).setN 2 hB _).setN 3 hB _).setN 4 hB _).setN 5 hB _,Or.inl ⟨3,⟨#[]⟩,s.steps+1,HR.o _ (.over HST.o),rfl⟩⟩
       ·have HST:Hd (Bk is s=.look true (Bq s.stack) ⟨s.pl,Be s.stack 1,s.steps+1,s.looks+1⟩):=HSI.o.trans (He htk (by omega) hnm hlk2);go_wp2_with fail;refine(Ux B m _ _ _ s.pl _ s.looks true _ HM2'.o hB2 (by omega) hx1 hnm (by omega) (by omega)).mono ?_;rintro e w2 ⟨rfl,hb2,hM5⟩;have HKB:Hd (KB B m w w2):=HK2.o.trans hb2;have HM5:Hd (Bx B w2 m (Be s.stack 1) (.slice (some ⟨b,off,none⟩) is.length cap) s.pl ((s.steps:Int)+1) ((s.looks:Int)+1)):=hM5;have HBK:Hd (w2.heap[w.heap.size]?=some (.cells #[.bool false,.int .i64 0,.string ⟨#[]⟩,.bool false,.string ⟨#[]⟩,.int .i64 0] 115 (0,0))):=hb2.keep _ _ 115 (by decide) (by omega) HB2.o;clear hM5;have hblk:w2.heap[w.heap.size]?=some (.cells #[.bool false,.int .i64 0,.string ⟨#[]⟩,.bool false,.string ⟨#[]⟩,.int .i64 0] 115 (0,0)):=HBK.o;have k0:=cH hblk 0;have k1:=cH hblk 1;have k2:=cH hblk 2;have k3:=cH hblk 3;have k4:=cH hblk 4;have k5:=cH hblk 5;simp only[gA,gB,gC] at k0 k1 k2 k3 k4 k5;have f0:∀ j,w2.frozen? ⟨w.heap.size,j,none⟩=false:=fun j=>fH hblk j;clear hblk x0 x1 x2;unfold Ao;go_wp2;exact bR (v:=Ao false 0 ⟨#[]⟩ true (Bq s.stack) ((s.steps:Int)+1)) (by simp[results,Tryz.results88,go_sem,Ao,k0,k1,k2,k3,k4,k5]) rfl ⟨((((((HKB.o).setN 0 hB _).setN 1 hB _).setN 2 hB _).setN 3 hB _).setN 4 hB _).setN 5 hB _,Or.inr ⟨true,Bq s.stack,⟨s.pl,Be s.stack 1,s.steps+1,s.looks+1⟩,HR.o _ (.look HST.o),rfl,Ri HS.o hst2 hlk2,(Bx.turn (Bx.turn (Bx.turn (Bx.turn (Bx.turn (Bx.turn ⟨HM5.o,_,HBK.o⟩ 0 _) 1 _) 2 _) 3 _) 4 _) 5 _).1⟩⟩
      ·have HST:Hd (Bk is s=.over 2 (Dx s.pl) (s.steps+1)):=HSI.o.trans (Jy htk (by omega) hnm);go_wp2_with fail;refine(Yq B m _ _ _ s.pl _ s.looks true _ HM2'.o hB2 (by omega) hx1 HP2.o hB1 (by omega) (by omega) hnm).mono ?_;rintro e w2 ⟨rfl,hb2⟩;have HKB:Hd (KB B m w w2):=HK2.o.trans hb2;have hblk:w2.heap[w.heap.size]?=some (.cells #[.bool false,.int .i64 0,.string ⟨#[]⟩,.bool false,.string ⟨#[]⟩,.int .i64 0] 115 (0,0)):=(hb2.keep _ _ 115 (by decide) (by omega) HB2.o);have k0:=cH hblk 0;have k1:=cH hblk 1;have k2:=cH hblk 2;have k3:=cH hblk 3;have k4:=cH hblk 4;have k5:=cH hblk 5;simp only[gA,gB,gC] at k0 k1 k2 k3 k4 k5;have f0:∀ j,w2.frozen? ⟨w.heap.size,j,none⟩=false:=fun j=>fH hblk j;clear hblk x0 x1 x2;unfold Ao;go_wp2;exact bR (v:=Ao true 2 (Dx s.pl) false ⟨#[]⟩ ((s.steps:Int)+1)) (by simp[results,Tryz.results88,go_sem,Ao,Dx,k0,k1,k2,k3,k4,k5]) rfl ⟨((((((HKB.o).setN 0 hB _).setN 1 hB _).setN 2 hB _).setN 3 hB _).setN 4 hB _).setN 5 hB _,Or.inl ⟨2,(Dx s.pl),s.steps+1,HR.o _ (.over HST.o),rfl⟩⟩
     ·(have htk1:1<=s.stack.length:=by have:An 13=1:=rfl;omega);have hs1:=Jf htk1;have hr1:=Bi s.stack 1;have hx1:=HS.o.size _ (Hc htk1);(have HM2':Hd (Bx B W2 m (Be s.stack 1++[Bq s.stack]) (.slice (some ⟨b,off,none⟩) is.length cap) s.pl ((s.steps:Int)+1) s.looks):=by rw[<- hs1];exact HM2.o);clear hs1
      by_cases hnm:Aq (Bq s.stack)
      ·by_cases hlk2:s.looks=200
       ·have HST:Hd (Bk is s=.over 3 ⟨#[]⟩ (s.steps+1)):=HSI.o.trans (Gs htk (by omega) hnm hlk2);go_wp2_with fail;refine(Se B m _ _ _ s.pl _ s.looks false _ HM2'.o hB2 (by omega) hx1 HP2.o hB1 (by omega) (by omega) hnm (by omega)).mono ?_;rintro e w2 ⟨rfl,hb2⟩;have HKB:Hd (KB B m w w2):=HK2.o.trans hb2;have hblk:w2.heap[w.heap.size]?=some (.cells #[.bool false,.int .i64 0,.string ⟨#[]⟩,.bool false,.string ⟨#[]⟩,.int .i64 0] 115 (0,0)):=(hb2.keep _ _ 115 (by decide) (by omega) HB2.o);have k0:=cH hblk 0;have k1:=cH hblk 1;have k2:=cH hblk 2;have k3:=cH hblk 3;have k4:=cH hblk 4;have k5:=cH hblk 5;simp only[gA,gB,gC] at k0 k1 k2 k3 k4 k5;have f0:∀ j,w2.frozen? ⟨w.heap.size,j,none⟩=false:=fun j=>fH hblk j;clear hblk x0 x1 x2;unfold Ao;go_wp2;exact bR (v:=Ao true 3 ⟨#[]⟩ false ⟨#[]⟩ ((s.steps:Int)+1)) (by simp[results,Tryz.results88,go_sem,Ao,k0,k1,k2,k3,k4,k5]) rfl ⟨((((((HKB.o).setN 0 hB _).setN 1 hB _).setN 2 hB _).setN 3 hB _).setN 4 hB _).setN 5 hB _,Or.inl ⟨3,⟨#[]⟩,s.steps+1,HR.o _ (.over HST.o),rfl⟩⟩
       ·have HST:Hd (Bk is s=.look false (Bq s.stack) ⟨s.pl,Be s.stack 1,s.steps+1,s.looks+1⟩):=HSI.o.trans (He htk (by omega) hnm hlk2);go_wp2_with fail;refine(Ux B m _ _ _ s.pl _ s.looks false _ HM2'.o hB2 (by omega) hx1 hnm (by omega) (by omega)).mono ?_;rintro e w2 ⟨rfl,hb2,hM5⟩;have HKB:Hd (KB B m w w2):=HK2.o.trans hb2;have HM5:Hd (Bx B w2 m (Be s.stack 1) (.slice (some ⟨b,off,none⟩) is.length cap) s.pl ((s.steps:Int)+1) ((s.looks:Int)+1)):=hM5;have HBK:Hd (w2.heap[w.heap.size]?=some (.cells #[.bool false,.int .i64 0,.string ⟨#[]⟩,.bool false,.string ⟨#[]⟩,.int .i64 0] 115 (0,0))):=hb2.keep _ _ 115 (by decide) (by omega) HB2.o;clear hM5;have hblk:w2.heap[w.heap.size]?=some (.cells #[.bool false,.int .i64 0,.string ⟨#[]⟩,.bool false,.string ⟨#[]⟩,.int .i64 0] 115 (0,0)):=HBK.o;have k0:=cH hblk 0;have k1:=cH hblk 1;have k2:=cH hblk 2;have k3:=cH hblk 3;have k4:=cH hblk 4;have k5:=cH hblk 5;simp only[gA,gB,gC] at k0 k1 k2 k3 k4 k5;have f0:∀ j,w2.frozen? ⟨w.heap.size,j,none⟩=false:=fun j=>fH hblk j;clear hblk x0 x1 x2;unfold Ao;go_wp2;exact bR (v:=Ao false 0 ⟨#[]⟩ false (Bq s.stack) ((s.steps:Int)+1)) (by simp[results,Tryz.results88,go_sem,Ao,k0,k1,k2,k3,k4,k5]) rfl ⟨((((((HKB.o).setN 0 hB _).setN 1 hB _).setN 2 hB _).setN 3 hB _).setN 4 hB _).setN 5 hB _,Or.inr ⟨false,Bq s.stack,⟨s.pl,Be s.stack 1,s.steps+1,s.looks+1⟩,HR.o _ (.look HST.o),rfl,Ri HS.o hst2 hlk2,(Bx.turn (Bx.turn (Bx.turn (Bx.turn (Bx.turn (Bx.turn ⟨HM5.o,_,HBK.o⟩ 0 _) 1 _) 2 _) 3 _) 4 _) 5 _).1⟩⟩
      ·have HST:Hd (Bk is s=.over 2 (Dx s.pl) (s.steps+1)):=HSI.o.trans (Jy htk (by omega) hnm);go_wp2_with fail;refine(Yq B m _ _ _ s.pl _ s.looks false _ HM2'.o hB2 (by omega) hx1 HP2.o hB1 (by omega) (by omega) hnm).mono ?_;rintro e w2 ⟨rfl,hb2⟩;have HKB:Hd (KB B m w w2):=HK2.o.trans hb2;have hblk:w2.heap[w.heap.size]?=some (.cells #[.bool false,.int .i64 0,.string ⟨#[]⟩,.bool false,.string ⟨#[]⟩,.int .i64 0] 115 (0,0)):=(hb2.keep _ _ 115 (by decide) (by omega) HB2.o);have k0:=cH hblk 0;have k1:=cH hblk 1;have k2:=cH hblk 2;have k3:=cH hblk 3;have k4:=cH hblk 4;have k5:=cH hblk 5;simp only[gA,gB,gC] at k0 k1 k2 k3 k4 k5;have f0:∀ j,w2.frozen? ⟨w.heap.size,j,none⟩=false:=fun j=>fH hblk j;clear hblk x0 x1 x2;unfold Ao;go_wp2;exact bR (v:=Ao true 2 (Dx s.pl) false ⟨#[]⟩ ((s.steps:Int)+1)) (by simp[results,Tryz.results88,go_sem,Ao,Dx,k0,k1,k2,k3,k4,k5]) rfl ⟨((((((HKB.o).setN 0 hB _).setN 1 hB _).setN 2 hB _).setN 3 hB _).setN 4 hB _).setN 5 hB _,Or.inl ⟨2,(Dx s.pl),s.steps+1,HR.o _ (.over HST.o),rfl⟩⟩
     ·(have htk1:1<=s.stack.length:=by have:An 14=1:=rfl;omega);have hs1:=Jf htk1;have hr1:=Bi s.stack 1;(have HM2':Hd (Bx B W2 m (Be s.stack 1++[Bq s.stack]) (.slice (some ⟨b,off,none⟩) is.length cap) s.pl ((s.steps:Int)+1) s.looks):=by rw[<- hs1];exact HM2.o);clear hs1;have HST:Hd (Bk is s=.over 1 (Bq s.stack) (s.steps+1)):=HSI.o.trans (Ko htk rfl);go_wp2_with fail;refine(Cd B m _ _ _ s.pl _ s.looks _ HM2'.o hB2 (by omega)).mono ?_;rintro e w3 ⟨rfl,hk3,hM3,hkk⟩;obtain⟨z0,zp,_,_,_,_,_,_,_,_,gm3⟩:=hM3.all;have HG3:Hd (Fd w3 m _ _ s.pl ((s.steps:Int)+1) s.looks):=gm3;have HK3:Hd (KB B m w w3):=HK2.o.trans hk3;have HB3:Hd (w3.heap[w.heap.size]?=some (.cells #[.bool false,.int .i64 0,.string ⟨#[]⟩,.bool false,.string ⟨#[]⟩,.int .i64 0] 115 (0,0))):=hk3.keep _ _ 115 (by decide) (by omega) HB2.o;clear hM3 hk3 gm3 hkk;go_wp2_with fail;refine(Jg m _ _ s.pl _ s.looks 1 (Bq s.stack) _ HG3.o).mono ?_;rintro e w2 ⟨rfl,hb2⟩;have HKB:Hd (KB B m w w2):=HK3.o.trans (KB.old hb2 (Nat.le_trans hB HK3.o.size));have hblk:w2.heap[w.heap.size]?=some (.cells #[.bool false,.int .i64 0,.string ⟨#[]⟩,.bool false,.string ⟨#[]⟩,.int .i64 0] 115 (0,0)):=(by rw[hb2.block _ (Af HB3.o)];exact HB3.o);have k0:=cH hblk 0;have k1:=cH hblk 1;have k2:=cH hblk 2;have k3:=cH hblk 3;have k4:=cH hblk 4;have k5:=cH hblk 5;simp only[gA,gB,gC] at k0 k1 k2 k3 k4 k5;have f0:∀ j,w2.frozen? ⟨w.heap.size,j,none⟩=false:=fun j=>fH hblk j;clear hblk x0 x1 x2;unfold Ao;go_wp2;exact bR (v:=Ao true 1 (Bq s.stack) false ⟨#[]⟩ ((s.steps:Int)+1)) (by simp[results,Tryz.results88,go_sem,Ao,k0,k1,k2,k3,k4,k5]) rfl ⟨((((((HKB.o).setN 0 hB _).setN 1 hB _).setN 2 hB _).setN 3 hB _).setN 4 hB _).setN 5 hB _,Or.inl ⟨1,(Bq s.stack),s.steps+1,HR.o _ (.over HST.o),rfl⟩⟩
     ·(have htk1:1<=s.stack.length:=by have:An 15=1:=rfl;omega);have hs1:=Jf htk1;have hr1:=Bi s.stack 1;(have HM2':Hd (Bx B W2 m (Be s.stack 1++[Bq s.stack]) (.slice (some ⟨b,off,none⟩) is.length cap) s.pl ((s.steps:Int)+1) s.looks):=by rw[<- hs1];exact HM2.o);clear hs1;have HST:Hd (Bk is s=.over 0 (Bq s.stack) (s.steps+1)):=HSI.o.trans (La htk rfl);go_wp2_with fail;refine(Cd B m _ _ _ s.pl _ s.looks _ HM2'.o hB2 (by omega)).mono ?_;rintro e w3 ⟨rfl,hk3,hM3,hkk⟩;obtain⟨z0,zp,_,_,_,_,_,_,_,_,gm3⟩:=hM3.all;have HG3:Hd (Fd w3 m _ _ s.pl ((s.steps:Int)+1) s.looks):=gm3;have HK3:Hd (KB B m w w3):=HK2.o.trans hk3;have HB3:Hd (w3.heap[w.heap.size]?=some (.cells #[.bool false,.int .i64 0,.string ⟨#[]⟩,.bool false,.string ⟨#[]⟩,.int .i64 0] 115 (0,0))):=hk3.keep _ _ 115 (by decide) (by omega) HB2.o;clear hM3 hk3 gm3 hkk;go_wp2_with fail;refine(Jg m _ _ s.pl _ s.looks 0 (Bq s.stack) _ HG3.o).mono ?_;rintro e w2 ⟨rfl,hb2⟩;have HKB:Hd (KB B m w w2):=HK3.o.trans (KB.old hb2 (Nat.le_trans hB HK3.o.size));have hblk:w2.heap[w.heap.size]?=some (.cells #[.bool false,.int .i64 0,.string ⟨#[]⟩,.bool false,.string ⟨#[]⟩,.int .i64 0] 115 (0,0)):=(by rw[hb2.block _ (Af HB3.o)];exact HB3.o);have k0:=cH hblk 0;have k1:=cH hblk 1;have k2:=cH hblk 2;have k3:=cH hblk 3;have k4:=cH hblk 4;have k5:=cH hblk 5;simp only[gA,gB,gC] at k0 k1 k2 k3 k4 k5;have f0:∀ j,w2.frozen? ⟨w.heap.size,j,none⟩=false:=fun j=>fH hblk j;clear hblk x0 x1 x2;unfold Ao;go_wp2;exact bR (v:=Ao true 0 (Bq s.stack) false ⟨#[]⟩ ((s.steps:Int)+1)) (by simp[results,Tryz.results88,go_sem,Ao,k0,k1,k2,k3,k4,k5]) rfl ⟨((((((HKB.o).setN 0 hB _).setN 1 hB _).setN 2 hB _).setN 3 hB _).setN 4 hB _).setN 5 hB _,Or.inl ⟨0,(Bq s.stack),s.steps+1,HR.o _ (.over HST.o),rfl⟩⟩
  ·have hplI:¬ (s.pl:Int)<(is.length:Int):=by omega
   have HST:Hd (Bk is s=.over 2 (Dx s.pl) s.steps):=Kk hpl;have HPd:Hd (Ld wr.drew):=(HP.o.belowB HK.o.drew.bl hB1);have HKd:Hd (KB B m w wr.drew):=HK.o.drew;go_wp2_with fail;go_region;go_wp2_with fail;refine(Mm m (.slice ao s.stack.length cp) _ s.pl s.steps s.looks _ HMACH.o HPd.o (by omega) (by omega)).mono ?_;rintro e w2 ⟨rfl,hb2⟩;have hKB:KB B m w w2:=HKd.o.trans (KB.old hb2 (Nat.le_trans hB (Nat.le_trans HK.o.size (Nat.le_refl _))));have HKB:Hd (KB B m w w2):=hKB;have hblk:w2.heap[w.heap.size]?=some (.cells #[.bool false,.int .i64 0,.string ⟨#[]⟩,.bool false,.string ⟨#[]⟩,.int .i64 0] 115 (0,0)):=(by rw[hb2.block _ (Af HB.o)];exact HB.o);have k0:=cH hblk 0;have k1:=cH hblk 1;have k2:=cH hblk 2;have k3:=cH hblk 3;have k4:=cH hblk 4;have k5:=cH hblk 5;simp only[gA,gB,gC] at k0 k1 k2 k3 k4 k5;have f0:∀ j,w2.frozen? ⟨w.heap.size,j,none⟩=false:=fun j=>fH hblk j;clear hblk hb2 hKB m0 m1 m2 m3 m4 mf;unfold Ao;go_wp2;exact bR (v:=Ao true 2 (Dx s.pl) false ⟨#[]⟩ s.steps) (by simp[results,Tryz.results88,go_sem,Ao,Dx,k0,k1,k2,k3,k4,k5]) rfl ⟨((((((HKB.o).setN 0 hB _).setN 1 hB _).setN 2 hB _).setN 3 hB _).setN 4 hB _).setN 5 hB _,Or.inl ⟨2,Dx s.pl,s.steps,HR.o _ (.over HST.o),rfl⟩⟩
end
end Go.Proofs.YtjlnkepkkdefdaaGreatDoor
