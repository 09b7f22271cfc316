import Derived.Test.YtoihflimijabjaaGreatDoorUnB
namespace Go.Proofs.YtoihflimijabjaaGreatDoor
open Value renaming slice->J,string->S,agg->G,tuple->Y
open Option renaming some->M,none->N
open Obj renaming cells->O
open _root_ renaming List->L
set_option maxHeartbeats 16000000
set_option maxRecDepth 100000
open _root_.Go.Proofs.Tryz Go.RowKit Go.Deep
set_option linter.unusedVariables false
set_option linter.unusedSimpArgs false
variable {AM AB:L S2} {k r:Nat} {s:S2}
def Sn(AM:L S2)(s:S2)(r k:Nat)(AB:L S2)(d:Bool):Prop:=(k<=r/\AB=AM.take k/\d=false)\/(r<k/\AB=AM.take r++[s]++(AM.take k).drop r/\d=true)
theorem Qw(h:k<AM.length):AM.take (k+1)=AM.take k++[sx AM k]:=by rw[List.take_succ_eq_append_getElem h,Ol h]
theorem Sn.len{d:Bool}(h:Sn AM s r k AB d)(hk:k<=AM.length):AB.length<=k+1:=by
 exact qky
theorem Sn.before(h:Sn AM s r k AB false)(hk:k<AM.length)(hr:k<r):Sn AM s r (k+1) (AB++[sx AM k]) false:=by
 rcases h with⟨h1,rfl,_⟩|⟨_,_,h⟩
 ·exact Or.inl ⟨qg,(Qw hk).symm,rfl⟩
 ·cases h
theorem Sn.here(h:Sn AM s r r AB false)(hk:r<AM.length):Sn AM s r (r+1) (AB++[s]++[sx AM r]) true:=by
 rcases h with⟨h1,rfl,_⟩|⟨_,_,h⟩
 ·refine Or.inr ⟨qg,?_,rfl⟩;rw[Qw hk,List.drop_append_of_le_length qag,List.drop_of_length_le qag,List.nil_append]
 ·cases h
theorem Sn.past(h:Sn AM s r k AB true)(hk:k<AM.length):Sn AM s r (k+1) (AB++[sx AM k]) true:=by
 rcases h with⟨_,_,h⟩|⟨h1,rfl,_⟩
 ·cases h
 ·refine Or.inr ⟨qg,?_,rfl⟩;rw[Qw hk,List.drop_append_of_le_length qag,List.append_assoc (AM.take r++[s])]
theorem Sn.done(h:Sn AM s r AM.length AB true):AB=Ll AM s r:=by
 exact qkl
theorem Sn.last(h:Sn AM s r AM.length AB false)(hr:r<=AM.length):AB++[s]=Ll AM s r:=by
 rcases h with⟨h1,rfl,_⟩|⟨_,_,h⟩
 ·obtain rfl:r=AM.length:=qg;unfold Ll;rw[List.drop_of_length_le (Nat.le_refl _),List.append_nil]
 ·cases h
theorem Jt(AB:L S2)(s:S2):Eb AB++[S s.name,S s.text]=Eb (AB++[s]):=by rw[Jf,Wj]
theorem Ze(sa ta:Option Addr)(c1 c2:Nat)(ss:L S2)(ts:L T2)(t x:By)(w:World)(h:Ku w sa ss ta ts)(nf:Hi ss ts)(ht:t.size<=9223372036854775807)(hx:x.size<=9223372036854775807):Calls prog 76 #[G #[J sa ss.length c1,J ta ts.length c2],S t,S x] w λe w'=>Bw w w'/\Ug w.heap.size w' e ss ts t x (decide (x.size<=2000)):=by
 obtain⟨ok,eok⟩:=Aj (decide (x.size<=2000))
 have cm:decide ((2000:Int)<(x.size:Int))=!ok:=by rw[<- eok,<- decide_not,decide_eq_decide];omega
 rw[eok]
 clear eok
 obtain⟨i0,hi,bm,bg,bi⟩:=info_parts Tryz.info103b
 have ba:Bw w ((w.alloc (O #[J sa ss.length c1,J ta ts.length c2] 44)).alloc (O #[nS,nS] 44)):=(aN _ _).alloc qi _
 have p0:((w.alloc (O #[J sa ss.length c1,J ta ts.length c2] 44)).alloc (O #[nS,nS] 44)).cell? ⟨w.heap.size,0,N⟩=M (J sa ss.length c1):=qr
 have p1:((w.alloc (O #[J sa ss.length c1,J ta ts.length c2] 44)).alloc (O #[nS,nS] 44)).cell? ⟨w.heap.size,1,N⟩=M (J ta ts.length c2):=qr
 have kb:((w.alloc (O #[J sa ss.length c1,J ta ts.length c2] 44)).alloc (O #[nS,nS] 44)).heap[w.heap.size+1]?=M (O #[nS,nS] 44 (0,0)):=by
  exact qim
 have hR:w.heap.size<=w.heap.size+1:=qg
 go_enter func76,ntmps76
 go_wp2_with fail
 refine(Fm sa ta c1 c2 ss ts _ (h.bl ba) nf).mono ?_
 rintro e w1 ⟨ah,rfl⟩
 have db:=bt ba ah
 replace p0:=Aa ah p0
 replace p1:=Aa ah p1
 have S3:w1.heap[w.heap.size+1]?=M (O #[nS,nS] 44 (0,0)):=by rw[ah.block _ (An kb)];exact kb
 obtain⟨r0,r1⟩:=ck2 S3
 have fr:=fZ S3
 have KB1:Hd (w1.heap[w.heap.size+1]?=M (O #[nS,nS] 44 (0,0))):=S3
 clear ba ah kb S3
 by_cases hc:Gp ss ts=0
 ·have HC:Hd (Sp ss ts):=Vs hc;rw[hc]
  by_cases hn:Ay t
  ·have gy:=Cr hn;cases ok
   ·have HD:Hd (Cq ss ts t false=2):=Rh hc (λk=>by cases k.2);exact qib
   ·go_wp2_with (go_at_call 59;refine(Bb t _ ht).mono ?_;rintro e w9 ⟨rfl,rfl⟩;rw[gy])
    refine(Hg sa ta c1 c2 ss ts t _ (h.rs.bl db) (h.rt.bl db) (zo HC.o.len) (zo HC.o.len) HC.o.codes).mono ?_;rintro e w5 ⟨cw,v1,v2,rfl,o1,o2⟩;have mj:=bt db cw;(have R9:w5.heap[w.heap.size+1]?=M (O #[nS,nS] 44 (0,0)):=by rw[cw.block _ (An KB1.o)];exact KB1.o);have hz:w.heap.size+1<w1.heap.size:=An KB1.o;have hz5:w1.heap.size<=w5.heap.size:=cw.size;obtain⟨a1,q1,rfl,rs1⟩:=o1.sl;obtain⟨a2,q2,rfl,_⟩:=o2.sl;obtain⟨w6,e6⟩:=Aj (w5.alloc (O #[J a1 (Bl t ss).length q1,J a2 (Bj t ts).length q2] 44));have cj:Bw w5 w6:=qfc;have wm:=bt mj cj;have kb6:w6.heap[w.heap.size+1]?=M (O #[nS,nS] 44 (0,0)):=Ac R9 cj;have F7:Hd (w6.heap[w.heap.size+1]?=M (O #[nS,nS] 44 (0,0))):=kb6;(have B8:Hd (w6.heap[w5.heap.size]?=M (O #[J a1 (Bl t ss).length q1,J a2 (Bj t ts).length q2] 44 (0,0))):=by show _=_;rw[<- e6];exact Am _ _);have hs6:w5.heap.size<w6.heap.size:=An B8.o;have HRS:Hd (Hz w6 a1 (Bl t ss)):=rs1.bl cj;obtain⟨s0,s1⟩:=ck2 kb6;have fs:=fZ kb6;obtain⟨x0,x1⟩:=Bg B8.o;have oq:Hd (Ec w6 w1.heap.size w5.heap.size (J a2 (Bj t ts).length q2) (Bj t ts)):=o2.bl cj;have HDY:Hd (¬ 200<=(Bl t ss).length+(Bj t ts).length->Cq ss ts t true=0):=roomC0 hc ⟨hn,rfl⟩;have HDN:Hd (200<=(Bl t ss).length+(Bj t ts).length->Cq ss ts t true=3):=Zi hc ⟨hn,rfl⟩;(have o6:(Bl t ss).length<=200:=by have h1:=Nw t ss;have h2:=HC.o.len;omega);(have xq:(Bj t ts).length<=200:=by have h1:=Nv t ts;have h2:=HC.o.len;omega);have HAS:Hd (Fg (Av (Bl t ss))):=ascS t HC.o.a1;clear o1 o2 R9 kb6 cw cj p0 p1 r0 r1 fr hc hn mj rs1 KB1
    by_cases hf:200<=(Bl t ss).length+(Bj t ts).length
    ·have HD:Hd (Cq ss ts t true=3):=HDN.o hf;have jj:decide ((200:Int)<=((Bl t ss).length:Int)+((Bj t ts).length:Int))=true:=qj;generalize (Bl t ss).length=n1 at *;generalize (Bj t ts).length=n2 at *;go_wp2_with fail;exact bR (v:=Y #[G #[nS,nS],I 3]) (by simp[results,results76,go_sem,s0,s1]) rfl ⟨(wm.setCell (p:=⟨w.heap.size+1,0,N⟩) hR _).setCell (p:=⟨w.heap.size+1,1,N⟩) hR _,Ug.no HD.o qh⟩
    ·have HD:Hd (Cq ss ts t true=0):=HDY.o hf;have jj:decide ((200:Int)<=((Bl t ss).length:Int)+((Bj t ts).length:Int))=false:=qj;obtain⟨r,lh⟩:=Ko HAS.o t;(have D0:r<=(Bl t ss).length:=by have:=lh.le;rw[Bo]at this;exact this);have HAT:Hd (AtR (Av (Bl t ss)) t r):=lh
     have iu:Hd (∀k,k<r->Op.bytesLess (sx (Bl t ss) k).name.toList t.toList=true):=λk hk=>by
      have h1:=lh.lo k hk;rw[Dk]at h1;exact h1
     have jr:Hd (∀k,r<=k->k<(Bl t ss).length->Op.bytesLess (sx (Bl t ss) k).name.toList t.toList=false/\((sx (Bl t ss) k).name.toList == t.toList)=false):=λk fh sw=>by
      have h1:=lh.hi k fh (by rw[Bo];exact sw);rw[Dk]at h1;refine⟨h1,?_⟩;rw[beq_eq_false_iff_ne];intro e;rw[ByteArray.toList_eq,ByteArray.toList_eq]at e;exact fltS_ne t ss sw (WideShapes.bytes_inj e)
     have HPY:Hd (psS ss ts t x true=Ll (Bl t ss) ⟨t,x⟩ r/\psT ss ts t true=Bj t ts):=Zp HD.o lh;clear lh;generalize Bl t ss=AM at *;obtain⟨w7,e7⟩:=Aj (w6.alloc (O #[] 110));have bv:Bw w6 w7:=by rw[<- e7];exact aN _ _
     have HO7:Hd (w7.ownsRow w6.heap.size 110 2 (J (p_ w6.heap.size) 0 0) 0 []):=by
      show World.ownsRow _ _ _ _ _ _ _;rw[<- e7];exact World.ownsRow_lit (base:=w6.heap.size) (e:=110) (size:=2) w6 #[] 0 (Nat.le_refl _) qn qi
     go_wp2_with fail;clear e7 jj x0 x1 s0 s1 fs;have I2:Hd (Bw w6 w7):=bv;clear bv
     go_loopw [9,10,11] (λlv dn i wr=>∃(k:Nat)(AB:L S2)(g cp:Nat)(d:Bool),k<=AM.length/\lv=J (p_ g) AB.length cp/\dn=.bool d/\i=I k/\Hd (wr.ownsRow w6.heap.size 110 2 (J (p_ g) AB.length cp) AB.length (Eb AB))/\Hd (Sn AM ⟨t,x⟩ r k AB d)/\Bw w6 wr) (λ_ _ i _=>AM.length-(intOf i).toNat)
     case atStart=>exact⟨0,[],_,0,false,Nat.zero_le _,rfl,rfl,rfl,HO7.o,(Or.inl ⟨Nat.zero_le _,rfl,rfl⟩:Sn AM ⟨t,x⟩ r 0 [] false),I2.o⟩
     case round=>
      obtain⟨k,AB,g,cp,d,hk,rfl,rfl,rfl,HO,HM,bu⟩:=hrel;clear HO7 I2;have we:w6.heap.size<=wr.heap.size:=bu.size;obtain⟨z0,z1⟩:=Bg (Ac B8.o bu);have hml:=HM.o.len hk
      by_cases au:k<AM.length
      ·obtain⟨b,off,rfl,y1,y2⟩:=HRS.o k au;have di:b<w6.heap.size:=World.block_lt_of_cell? _ _ y1;have d1:=Aa bu y1;have d2:=Aa bu y2;have gi:(k:Int)<(AM.length:Int):=qg;have fe:(0:Int)<=(k:Int):=qg;(have zp:Hd (∀hr:k<r,d=false->Sn AM ⟨t,x⟩ r (k+1) (AB++[sx AM k]) false):=λhr hd=>by subst hd;exact HM.o.before au hr);(have t8:Hd (∀hr:k=r,d=false->Sn AM ⟨t,x⟩ r (k+1) (AB++[⟨t,x⟩]++[sx AM k]) true):=λhr hd=>by subst hd;subst hr;exact HM.o.here au);have ou:Hd (d=true->Sn AM ⟨t,x⟩ r (k+1) (AB++[sx AM k]) true):=λhd=>by subst hd;exact HM.o.past au
       have HRK:Hd (d=false->k<=r):=λhd=>by
        exact qli
       have ve:Hd (k<r->Op.bytesLess (sx AM k).name.toList t.toList=true):=iu.o k;have ww:Hd (r<=k->Op.bytesLess (sx AM k).name.toList t.toList=false/\((sx AM k).name.toList == t.toList)=false):=λh=>jr.o k h au;obtain⟨s,es⟩:=Aj (sx AM k);rw[es]at d1 d2 zp t8 ou ve ww;clear es y1 y2 HM;obtain⟨wA,eA⟩:=Aj (wr.alloc (O #[S s.name,S s.text] 110));(have ce:Bw wr wA:=by rw[<- eA];exact aN _ _);have B9:Hd (wA.ownsRow w6.heap.size 110 2 (J (p_ g) AB.length cp) AB.length (Eb AB)):=Ae HO.o ce;have t9:Hd (wA.heap[wr.heap.size]?=M (O #[S s.name,S s.text] 110 (0,0))):=qfp;have HBA:Hd (Bw w6 wA):=bu.trans (ce.mono we);have hsA:wr.heap.size<wA.heap.size:=An t9.o;cases d
       ·rcases Nat.lt_or_ge k r with A3|A3
        ·have hv:=ve.o A3;have M5:Hd (Sn AM ⟨t,x⟩ r (k+1) (AB++[s]) false):=zp.o A3 rfl;clear ve ww zp t8 ou ce
         go_wp2_with (first|(at_builtin;refine wpList_append_own _ rfl (.tmp 63) (.tmp 69) 41 rfl w6.heap.size 110 i0 (G #[ze,ze]) 2 32 underlying41 hi bm bg bi rfl qh _ _ _ rfl B9.o ⟨wr.heap.size,0,N⟩ 1 1 [S s.name,S s.text] rfl rfl (World.news_of_block (cs:=#[S s.name,S s.text]) (t:=110) (fr:=(0,0)) t9.o) (by intro u hu;simp at hu;rcases hu with rfl|rfl<;>rfl) qn qg qg ?_;intro v' w2 af ae bn;clear bn;obtain⟨g',cp',rfl⟩:=Db af qg;rw[Jt]at af;have zq:Hd (w2.ownsRow w6.heap.size 110 2 (J (p_ g') (AB++[s]).length cp') (AB++[s]).length (Eb (AB++[s]))):=(by show World.ownsRow _ _ _ _ _ _ _;rw[List.length_append];exact af);have ke:Hd (Bw w6 w2):=HBA.o.grown ae qg (λm hm=>(B9.o.lt m hm).1);clear ae af))
         clear eA;exact⟨⟨k+1,AB++[s],g',cp',false,qg,qch,rfl,qp,zq.o,M5.o,ke.o⟩,Yj⟩
        ·have J7:k=r:=zo (HRK.o rfl);obtain⟨hv,hv2⟩:=ww.o A3;have M5:Hd (Sn AM ⟨t,x⟩ r (k+1) (AB++[⟨t,x⟩]++[s]) true):=t8.o J7 rfl;clear eA;obtain⟨wC,eC⟩:=Aj (wr.alloc (O #[S t,S x] 110));(have ur:Bw wr wC:=by rw[<- eC];exact aN _ _);have t7:Hd (wC.ownsRow w6.heap.size 110 2 (J (p_ g) AB.length cp) AB.length (Eb AB)):=Ae HO.o ur;have HNC:Hd (wC.heap[wr.heap.size]?=M (O #[S t,S x] 110 (0,0))):=qdj;have R7:Hd (Bw w6 wC):=bu.trans (ur.mono we);have hsC:wr.heap.size<wC.heap.size:=An HNC.o;clear ve ww zp t8 ou ce ur B9 t9 HBA hsA wA J7;have HZ:Hd (wr.cell? ⟨w5.heap.size,0,N⟩=M (J (M ⟨b,off,N⟩) AM.length q1)/\wr.cell? ⟨b,off+k*2,N⟩=M (S s.name)/\wr.cell? ⟨b,off+k*2+1,N⟩=M (S s.text)):=⟨z0,d1,d2⟩
         go_wp2_with (first|(at_builtin;refine wpList_append_own _ rfl (.tmp 57) (.tmp 61) 41 rfl w6.heap.size 110 i0 (G #[ze,ze]) 2 32 underlying41 hi bm bg bi rfl qh _ _ _ rfl t7.o ⟨wr.heap.size,0,N⟩ 1 1 [S t,S x] rfl rfl (World.news_of_block (cs:=#[S t,S x]) (t:=110) (fr:=(0,0)) HNC.o) (by intro u hu;simp at hu;rcases hu with rfl|rfl<;>rfl) qn qg qg ?_;intro v' w2 af ae bn;clear bn;obtain⟨g',cp',rfl⟩:=Db af qg;rw[Jt AB ⟨t,x⟩]at af;have KC:∀(p:Addr)(u:Value),p.block<w6.heap.size->wr.cell? p=M u->w2.cell? p=M u:=(λp u hp tw=>by have A6:=tw;rw[<- World.cell?_alloc_lt _ (O #[S t,S x] 110) _ (World.block_lt_of_cell? _ _ tw)]at A6;rw[eC]at A6;rw[ae.cell_far p (World.block_lt_of_cell? _ _ A6) (λe=>by have:=(t7.o.lt _ e.symm).1;omega)];exact A6);have m0:=KC _ _ (by show w5.heap.size<w6.heap.size;omega) HZ.o.1;have m1:=KC _ _ (by show b<w6.heap.size;omega) HZ.o.2.1;have m2:=KC _ _ (by show b<w6.heap.size;omega) HZ.o.2.2;have ke:Hd (Bw w6 w2):=R7.o.grown ae qg (λm hm=>(t7.o.lt m hm).1);have fl:w6.heap.size<=w2.heap.size:=ke.o.size;clear eC;obtain⟨wE,eE⟩:=Aj (w2.alloc (O #[S s.name,S s.text] 110));have hbE:Bw w2 wE:=(by rw[<- eE];exact aN _ _);have HOE:Hd (wE.ownsRow w6.heap.size 110 2 (J (p_ g') (AB.length+1) cp') (AB.length+1) (Eb (AB++[⟨t,x⟩]))):=Ae af hbE;have F6:Hd (wE.heap[w2.heap.size]?=M (O #[S s.name,S s.text] 110 (0,0))):=(by show _=_;rw[<- eE];exact Am _ _);have HBE:Hd (Bw w6 wE):=ke.o.trans (hbE.mono fl);have hsE:w2.heap.size<wE.heap.size:=An F6.o;clear ae af KC hbE)|(at_builtin;refine wpList_append_own _ rfl (.tmp 63) (.tmp 69) 41 rfl w6.heap.size 110 i0 (G #[ze,ze]) 2 32 underlying41 hi bm bg bi rfl qh _ _ _ rfl HOE.o ⟨w2.heap.size,0,N⟩ 1 1 [S s.name,S s.text] rfl rfl (World.news_of_block (cs:=#[S s.name,S s.text]) (t:=110) (fr:=(0,0)) F6.o) (by intro u hu;simp at hu;rcases hu with rfl|rfl<;>rfl) qn qg qg ?_;intro v3 w3 jh pu hnil3;clear hnil3 eE;obtain⟨g3,cp3,rfl⟩:=Db jh qg;rw[Jt]at jh;have X8:Hd (w3.ownsRow w6.heap.size 110 2 (J (p_ g3) (AB.length+1+1) cp3) (AB.length+1+1) (Eb (AB++[⟨t,x⟩]++[s]))):=jh;have Ge:Hd (Bw w6 w3):=HBE.o.grown pu qg (λm hm=>(HOE.o.lt m hm).1);clear pu jh))
         have D2:(AB++[(⟨t,x⟩:S2)]++[s]).length=AB.length+1+1:=qi;exact⟨⟨k+1,AB++[(⟨t,x⟩:S2)]++[s],g3,cp3,true,qg,by rw[D2],rfl,qp,(by show World.ownsRow _ _ _ _ _ _ _;rw[D2];exact X8.o),M5.o,Ge.o⟩,Yj⟩
       ·have M5:Hd (Sn AM ⟨t,x⟩ r (k+1) (AB++[s]) true):=ou.o rfl;clear ve ww zp t8 ou ce
        go_wp2_with (first|(at_builtin;refine wpList_append_own _ rfl (.tmp 63) (.tmp 69) 41 rfl w6.heap.size 110 i0 (G #[ze,ze]) 2 32 underlying41 hi bm bg bi rfl qh _ _ _ rfl B9.o ⟨wr.heap.size,0,N⟩ 1 1 [S s.name,S s.text] rfl rfl (World.news_of_block (cs:=#[S s.name,S s.text]) (t:=110) (fr:=(0,0)) t9.o) (by intro u hu;simp at hu;rcases hu with rfl|rfl<;>rfl) qn qg qg ?_;intro v' w2 af ae bn;clear bn;obtain⟨g',cp',rfl⟩:=Db af qg;rw[Jt]at af;have zq:Hd (w2.ownsRow w6.heap.size 110 2 (J (p_ g') (AB++[s]).length cp') (AB++[s]).length (Eb (AB++[s]))):=(by show World.ownsRow _ _ _ _ _ _ _;rw[List.length_append];exact af);have ke:Hd (Bw w6 w2):=HBA.o.grown ae qg (λm hm=>(B9.o.lt m hm).1);clear ae af))
        clear eA;exact⟨⟨k+1,AB++[s],g',cp',true,qg,qch,rfl,qp,zq.o,M5.o,ke.o⟩,Yj⟩
      ·have ek:k=AM.length:=qg;subst ek;(have HRI:Hd (d=true->AB=Ll AM ⟨t,x⟩ r):=λhd=>by subst hd;exact HM.o.done);(have HRL:Hd (d=false->AB++[⟨t,x⟩]=Ll AM ⟨t,x⟩ r):=λhd=>by subst hd;exact HM.o.last D0);have kr:=Ac F7.o bu;have kp:=Ac B8.o bu;clear HM;cases d
       ·obtain⟨wC,eC⟩:=Aj (wr.alloc (O #[S t,S x] 110));(have ur:Bw wr wC:=by rw[<- eC];exact aN _ _);have t7:Hd (wC.ownsRow w6.heap.size 110 2 (J (p_ g) AB.length cp) AB.length (Eb AB)):=Ae HO.o ur;have HNC:Hd (wC.heap[wr.heap.size]?=M (O #[S t,S x] 110 (0,0))):=qdj;have R7:Hd (Bw w6 wC):=bu.trans (ur.mono we);have hsC:wr.heap.size<wC.heap.size:=An HNC.o;have L5:Hd (AB++[⟨t,x⟩]=Ll AM ⟨t,x⟩ r):=HRL.o rfl;(have HLE:Hd (AB.length+1=(Ll AM ⟨t,x⟩ r).length):=by show _=_;rw[<- L5.o];simp);clear ur HRI HRL kr kp
        go_wp2_with (first|(at_builtin;refine wpList_append_own _ rfl (.tmp 73) (.tmp 77) 41 rfl w6.heap.size 110 i0 (G #[ze,ze]) 2 32 underlying41 hi bm bg bi rfl qh _ _ _ rfl t7.o ⟨wr.heap.size,0,N⟩ 1 1 [S t,S x] rfl rfl (World.news_of_block (cs:=#[S t,S x]) (t:=110) (fr:=(0,0)) HNC.o) (by intro u hu;simp at hu;rcases hu with rfl|rfl<;>rfl) qn qg qg ?_;intro v' w2 af ae bn;clear bn;obtain⟨g',cp',rfl⟩:=Db af qg;rw[Jt AB ⟨t,x⟩,L5.o]at af;have ir:Hd (Bw w6 w2):=R7.o.grown ae qg (λm hm=>(t7.o.lt m hm).1);have zq:Hd (w2.ownsRow w6.heap.size 110 2 (J (p_ g') (AB.length+1) cp') (AB.length+1) (Eb (Ll AM ⟨t,x⟩ r))):=af;have kr:=Ac F7.o ir.o;have kp:=Ac B8.o ir.o;have u0:=(Bg kr).1;have u1:=(Bg kr).2;have v0:=(Bg kp).1;have v1:=(Bg kp).2;have uf:∀j,w2.frozen? ⟨w.heap.size+1,j,N⟩=false:=(λj=>fH kr j);have vf:∀j,w2.frozen? ⟨w5.heap.size,j,N⟩=false:=(λj=>fH kp j);have bo:Bw w w2:=wm.trans (ir.o.mono qg);have L1:Hd (Ai w2 w5.heap.size 44):=⟨_,kp⟩;have ju:Hd (Ai w2 (w.heap.size+1) 44):=⟨_,kr⟩;have HO2r:Hd (Ec w2 w1.heap.size w5.heap.size (J a2 (Bj t ts).length q2) (Bj t ts)):=oq.o.bl ir.o;have fl:w6.heap.size<=w2.heap.size:=ir.o.size;clear ae af kr kp eC))
        refine bR (v:=Y #[G #[J (p_ g') (AB.length+1) cp',J a2 (Bj t ts).length q2],I 0]) (by simp[results,results76,go_sem,u0,u1]) rfl ⟨((bo.setCell (p:=⟨w5.heap.size,0,N⟩) qj _).setCell (p:=⟨w.heap.size+1,0,N⟩) hR _).setCell (p:=⟨w.heap.size+1,1,N⟩) hR _,_,_,by rw[HD.o],?_,?_⟩
        ·rw[HPY.o.1];refine Dm.setT (Dm.setT (Dm.setT ?_ L1.o _) (ju.o.set _) _) ((ju.o.set _).set _) _;refine Dm.ofV ?_;rw[<- HLE.o];exact⟨Al zq.o qg,λb eb=>by have:=(zq.o.lt b eb).2;simp;omega⟩
        ·exact qjl
       ·have L5:Hd (AB=Ll AM ⟨t,x⟩ r):=HRI.o rfl;(have HLE:Hd (AB.length=(Ll AM ⟨t,x⟩ r).length):=by show _=_;rw[<- L5.o]);have u0:=(Bg kr).1;have u1:=(Bg kr).2;have uf:=fZ kr;have vf:=fZ kp;have bo:Bw w wr:=wm.trans (bu.mono qg);have L1:Hd (Ai wr w5.heap.size 44):=⟨_,kp⟩;have ju:Hd (Ai wr (w.heap.size+1) 44):=⟨_,kr⟩;have HO2r:Hd (Ec wr w1.heap.size w5.heap.size (J a2 (Bj t ts).length q2) (Bj t ts)):=oq.o.bl bu;clear HRI HRL kr kp;go_wp2_with fail;refine bR (v:=Y #[G #[J (p_ g) AB.length cp,J a2 (Bj t ts).length q2],I 0]) (by simp[results,results76,go_sem,u0,u1]) rfl ⟨((bo.setCell (p:=⟨w5.heap.size,0,N⟩) qj _).setCell (p:=⟨w.heap.size+1,0,N⟩) hR _).setCell (p:=⟨w.heap.size+1,1,N⟩) hR _,_,_,by rw[HD.o],?_,?_⟩
        ·rw[HPY.o.1];refine Dm.setT (Dm.setT (Dm.setT ?_ L1.o _) (ju.o.set _) _) ((ju.o.set _).set _) _;rw[<- L5.o];exact Dm.ofV ⟨Al HO.o qg,λb eb=>by have:=(HO.o.lt b eb).2;simp;omega⟩
        ·exact qjl
  ·have gy:=Cg hn;have HD:Hd (Cq ss ts t ok=2):=Rh hc (λk=>hn k.1);exact qib
 ·have mh:(Gp ss ts != 0)=true:=qbj;have HD:Hd (Cq ss ts t ok=1):=Zj hc;clear hc;generalize Gp ss ts=q at *;go_wp2_with fail;exact bR (v:=Y #[G #[nS,nS],I 1]) (by simp[results,results76,go_sem,r0,r1]) rfl ⟨(db.setCell (p:=⟨w.heap.size+1,0,N⟩) hR _).setCell (p:=⟨w.heap.size+1,1,N⟩) hR _,Ug.no HD.o qh⟩
end Go.Proofs.YtoihflimijabjaaGreatDoor
