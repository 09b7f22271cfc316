import Derived.Test.YtoihflimijabjaaGreatDoorUnB
namespace Go.Proofs.YtoihflimijabjaaGreatDoor
open Value renaming slice->J,string->S,agg->G,tuple->Y
open Option renaming some->M,none->N
open Obj renaming cells->O
open Go renaming World->E
open _root_ renaming List->L,Nat->X
set_option maxHeartbeats 16000000
set_option maxRecDepth 100000
open _root_.Go.Proofs.Tryz Go.RowKit Go.Deep
set_option linter.unusedVariables false
set_option linter.unusedSimpArgs false
variable {a s:TC} {b hi r k g cp:X} {l AM AB:L TC} {v:Value} {ss:L S2} {ts:L T2} {is:L I3} {w6 w8 wr:E}
def Iw(l:L TC)(s:TC)(r:X):L TC:=l.take r++[s]++l.drop r
def Vm(l:L T2)(s:T2)(r:X):L T2:=l.take r++[s]++l.drop r
theorem Xo(l:L TC)(s:TC)(r:X):(Iw l s r).map (·.t)=Vm (l.map (·.t)) s.t r:=by simp[Iw,Vm,List.map_take,List.map_drop]
theorem Xl(l:L T2)(s:T2)(r:X)(h:r<=l.length):(Vm l s r).length=l.length+1:=by simp[Vm];omega
theorem ApC.symm{b:TC}(h:ApC a b):ApC b a:=λk e1 e2=>h k e2 e1
theorem Fv.bl{w w':E}{lo:X}(h:Fv w lo hi l)(hb:Bw w w'):Fv w' lo hi l:=
 ⟨λa ha=>by obtain⟨ys,h1,h2⟩:=h.code a ha;exact⟨ys,h1.bl hb,h2⟩,h.apart⟩
theorem Fv.setT{w:E}{lo j:X}(h:Fv w lo hi l)(ht:Ai w b 44)(u:Value):Fv (w.setCell ⟨b,j,N⟩ u) lo hi l:=
 ⟨λa ha=>by obtain⟨ys,k1,k2⟩:=h.code a ha;exact⟨ys,⟨Ak k1.own ht qh u,k1.top⟩,k2⟩,h.apart⟩
theorem Fv.wide{w:E}{lo lo' hi':X}(h:Fv w lo hi l)(h1:lo'<=lo)(h2:hi<=hi'):Fv w lo' hi' l:=
 ⟨λa ha=>by obtain⟨ys,k1,k2⟩:=h.code a ha;exact⟨ys,k1.wide h1 h2,k2⟩,h.apart⟩
theorem Fv.slice{w:E}{lo:X}(h:Fv w lo hi l)(ha:a∈l):∃va vc,a.c=J va a.t.code.length vc:=by
 obtain⟨ys,k1,_⟩:=h.code a ha
 exact Qay k1
theorem Fv.ins{w:E}{lo:X}(h:Fv w lo hi l)(s:TC)(r:X){ys:L Value}(hs:Ck w lo hi 103 3 s.c s.t.code.length ys)(hf:Cf s.t.code s.t.code.length ys)(ha:∀a∈l,ApC a s):Fv w lo hi (Iw l s r):=by
 have hmem:∀a,a∈Iw l s r->a=s\/a∈l:=λa hm=>by
  unfold Iw at hm;rw[List.mem_append,List.mem_append,List.mem_singleton]at hm
  rcases hm with(hm|hm)|hm
  ·exact Or.inr (List.mem_of_mem_take hm)
  ·exact Or.inl hm
  ·exact Or.inr (List.mem_of_mem_drop hm)
 refine⟨λa hm=>?_,?_⟩
 ·rcases hmem a hm with rfl|hm
  ·exact⟨ys,hs,hf⟩
  ·exact h.code a hm
 ·have hp:=h.apart;rw[<- List.take_append_drop r l,List.pairwise_append]at hp;obtain⟨p1,p2,p3⟩:=hp;unfold Iw;rw[List.pairwise_append,List.pairwise_append];refine⟨⟨p1,List.pairwise_singleton _ _,λa h1 b h2=>?_⟩,p2,λa h1 b h2=>?_⟩
  ·rw[List.mem_singleton]at h2;subst h2;exact ha a (List.mem_of_mem_take h1)
  ·rw[List.mem_append,List.mem_singleton]at h1
   rcases h1 with h1|rfl
   ·exact p3 a h1 b h2
   ·exact(ha b (List.mem_of_mem_drop h2)).symm
theorem Fv.toT{w:E}{lo:X}(h:Fv w lo hi l)(hr:Ck w lo hi 113 2 v l.length (Jc l)):Ec w lo hi v (l.map (·.t)):=by
 have hl:(l.map (·.t)).length=l.length:=qi
 have ht:∀i (hi:i<l.length),tx (l.map (·.t)) i=l[i].t:=λi hi=>by rw[Mk (by simpa using hi)];simp
 refine⟨Jc l,λi=>(l.getD i ⟨⟨ByteArray.empty,[]⟩,nS⟩).c,by rw[hl];exact hr,λi hi=>?_,λi hi=>?_,λi j l7 hj=>?_⟩
 ·rw[hl]at hi;obtain⟨a1,a2⟩:=Yp l i hi;rw[ht i hi,a1,a2];simp[gG,hi]
 ·rw[hl]at hi;rw[ht i hi];obtain⟨ys,k1,k2⟩:=h.code l[i] (List.getElem_mem hi);refine⟨ys,?_,k2⟩;simpa [gG,hi] using k1
 ·rw[hl]at hj;have:=List.pairwise_iff_getElem.mp h.apart i j qg hj l7;simpa [gG,hj,show i<l.length from qg,ApC] using this
open Classical in
noncomputable def ptS (ss:L S2) (ts:L T2) (t:By) (ok:Bool):L S2:=if Cq ss ts t ok=0 then Bl t ss else []
open Classical in
noncomputable def ptT (ss:L S2) (ts:L T2) (t:By) (is:L I3) (ok:Bool):L T2:=if Cq ss ts t ok=0 then Vm (Bj t ts) ⟨t,is⟩ (Ic (Au (Bj t ts)) t) else []
theorem pt_no{t:By}{ok:Bool}(h:Cq ss ts t ok≠0):ptS ss ts t ok=[]/\ptT ss ts t is ok=[]:=by unfold ptS ptT;rw[if_neg h,if_neg h];exact⟨rfl,rfl⟩
theorem Zo{t:By}{ok:Bool}(h:Cq ss ts t ok=0)(hr:AtR (Au (Bj t ts)) t r):ptS ss ts t ok=Bl t ss/\ptT ss ts t is ok=Vm (Bj t ts) ⟨t,is⟩ r:=by unfold ptS ptT;rw[if_pos h,if_pos h,Ws hr];exact⟨rfl,rfl⟩
def Sl(lo:X)(w:E)(e:Ending)(ss:L S2)(ts:L T2)(t:By)(is:L I3)(ok:Bool):Prop:=∃v1 v2,e=.returned (Y #[G #[v1,v2],I (Cq ss ts t ok)])/\Dm w lo w.heap.size v1 (ptS ss ts t ok)/\Ec w lo w.heap.size v2 (ptT ss ts t is ok)
theorem Sl.no{lo:X}{w:E}{c:Int}{t:By}{ok:Bool}(h:Cq ss ts t ok=c)(h0:c≠0):Sl lo w (.returned (Y #[G #[nS,nS],I c])) ss ts t is ok:=by
 have h1:Cq ss ts t ok≠0:=by rw[h];exact h0
 refine⟨_,_,by rw[h],?_,?_⟩
 ·rw[(pt_no (is:=is) h1).1];exact Dm.nil _ _ _
 ·rw[(pt_no (is:=is) h1).2];exact Ec.nil _ _ _
def Jb(AM:L TC)(s:TC)(r k:X)(AB:L TC)(d:Bool):Prop:=(k<=r/\AB=AM.take k/\d=false)\/(r<k/\AB=AM.take r++[s]++(AM.take k).drop r/\d=true)
theorem Ok(h:k<AM.length):AM.take (k+1)=AM.take k++[cx AM k]:=by rw[List.take_succ_eq_append_getElem h,Mu h]
theorem Jb.len{d:Bool}(h:Jb AM s r k AB d)(hk:k<=AM.length):AB.length<=k+1:=by
 exact qky
theorem Jb.before(h:Jb AM s r k AB false)(hk:k<AM.length)(hr:k<r):Jb AM s r (k+1) (AB++[cx AM k]) false:=by
 rcases h with⟨h1,rfl,_⟩|⟨_,_,h⟩
 ·exact Or.inl ⟨qg,(Ok hk).symm,rfl⟩
 ·cases h
theorem Jb.here(h:Jb AM s r r AB false)(hk:r<AM.length):Jb AM s r (r+1) (AB++[s]++[cx AM r]) true:=by
 rcases h with⟨h1,rfl,_⟩|⟨_,_,h⟩
 ·refine Or.inr ⟨qg,?_,rfl⟩;rw[Ok hk,List.drop_append_of_le_length qag,List.drop_of_length_le qag,List.nil_append]
 ·cases h
theorem Jb.past(h:Jb AM s r k AB true)(hk:k<AM.length):Jb AM s r (k+1) (AB++[cx AM k]) true:=by
 rcases h with⟨_,_,h⟩|⟨h1,rfl,_⟩
 ·cases h
 ·refine Or.inr ⟨qg,?_,rfl⟩;rw[Ok hk,List.drop_append_of_le_length qag,List.append_assoc (AM.take r++[s])]
theorem Jb.done(h:Jb AM s r AM.length AB true):AB=Iw AM s r:=by
 exact qkl
theorem Jb.last(h:Jb AM s r AM.length AB false)(hr:r<=AM.length):AB++[s]=Iw AM s r:=by
 rcases h with⟨h1,rfl,_⟩|⟨_,_,h⟩
 ·obtain rfl:r=AM.length:=qg;unfold Iw;rw[List.drop_of_length_le (Nat.le_refl _),List.append_nil]
 ·cases h
theorem tcV_snoc(AB:L TC)(s:TC):Jc AB++[S s.t.name,s.c]=Jc (AB++[s]):=by rw[Kc,tcV_one]
structure LS (w6 w8 wr:E) (g cp:X) (AB:L TC):Prop where
 own:wr.ownsRow w6.heap.size 113 2 (J (p_ g) AB.length cp) AB.length (Jc AB)
 pos:g=w6.heap.size\/w8.heap.size<=g
 keep:Ih (M w6.heap.size) w8 wr
 size:w8.heap.size<=wr.heap.size
 bl:Bw w6 wr
theorem LS.alloc(h:LS w6 w8 wr g cp AB)(h6:w6.heap.size<=w8.heap.size)(o:Obj):LS w6 w8 (wr.alloc o) g cp AB:=
 ⟨h.own.alloc o,h.pos,h.keep.bl h.size ((Below.refl _ _).alloc (Nat.le_refl _) o),by have:=h.size;simp;omega,h.bl.alloc (zo h.size) o⟩
theorem LS.app{W w2:E}{g' cp':X}(h:LS w6 w8 W g cp AB)(h6:w6.heap.size<=w8.heap.size)(ho:w2.ownsRow w6.heap.size 113 2 (J (p_ g') (AB.length+1) cp') (AB.length+1) (Jc AB++[S a.t.name,a.c]))(hg:W.grownBy w2 (M g))(hl:M g=M g'\/g'=W.heap.size):LS w6 w8 w2 g' cp' (AB++[a]):=by
 have hs:=h.size
 have hp:=h.pos
 have uo:=(h.own.lt g rfl).1
 refine⟨?_,?_,λb hb aq=>?_,by have:=hg.size;omega,h.bl.grown hg qg (λm hm=>by cases hm;exact uo)⟩
 ·rw[<- tcV_snoc,show(AB++[a]).length=AB.length+1 from qi];exact ho
 ·rcases hl with e|e
  ·cases e;exact hp
  ·right;omega
 ·have hbn:b≠w6.heap.size:=λe=>aq (by rw[e]);rw[hg.block b qg (λe=>by cases e;omega)];exact h.keep b hb aq
theorem LS.cell(h:LS w6 w8 wr g cp AB){o:X}(hc:w6.cell? ⟨b,o,N⟩=M v):wr.cell? ⟨b,o,N⟩=M v:=Aa h.bl hc
theorem LS.blk{o:Obj}(h:LS w6 w8 wr g cp AB)(hb:w8.heap[b]?=M o)(aq:b≠w6.heap.size):wr.heap[b]?=M o:=by rw[h.keep b (An hb) (λe=>aq (Option.some.inj e))];exact hb
theorem Zd(sa ta:Option Addr)(c1 c2:X)(ss:L S2)(ts:L T2)(t:By)(a:Option Addr)(cap:X)(is:L I3)(w:E)(h:Ku w sa ss ta ts)(nf:Hi ss ts)(ht:t.size<=9223372036854775807)(hr:Dl w a is)(hl:is.length<=1048576)(hx:∀i,(ix is i).text.size<=9223372036854775807):Calls prog 75 #[G #[J sa ss.length c1,J ta ts.length c2],S t,G #[J a is.length cap]] w λe w'=>Bw w w'/\Sl w.heap.size w' e ss ts t is (Aq is):=by
 obtain⟨ok,eok⟩:=Aj (Aq is)
 have im:Hd (Aq is=ok):=eok
 rw[eok]
 clear eok
 obtain⟨i0,hi,bm,bg,bi⟩:=info_parts Tryz.info118b
 have hW0:(((w.alloc (O #[J sa ss.length c1,J ta ts.length c2] 44)).alloc (O #[J a is.length cap] 53)).alloc (O #[nS,nS] 44)).heap[w.heap.size]?=M (O #[J sa ss.length c1,J ta ts.length c2] 44 (0,0)):=by rw[Lib.alloc_old _ _ _ qj,Lib.alloc_old _ _ _ qi];exact Am _ _
 have D9:(((w.alloc (O #[J sa ss.length c1,J ta ts.length c2] 44)).alloc (O #[J a is.length cap] 53)).alloc (O #[nS,nS] 44)).heap[w.heap.size+1]?=M (O #[J a is.length cap] 53 (0,0)):=by
  rw[Lib.alloc_old _ _ _ qi];have h:=Am (w.alloc (O #[J sa ss.length c1,J ta ts.length c2] 44)) (O #[J a is.length cap] 53);rw[show(w.alloc (O #[J sa ss.length c1,J ta ts.length c2] 44)).heap.size=w.heap.size+1 from qi]at h;exact h
 have hW2:(((w.alloc (O #[J sa ss.length c1,J ta ts.length c2] 44)).alloc (O #[J a is.length cap] 53)).alloc (O #[nS,nS] 44)).heap[w.heap.size+1+1]?=M (O #[nS,nS] 44 (0,0)):=by
  have h:=Am ((w.alloc (O #[J sa ss.length c1,J ta ts.length c2] 44)).alloc (O #[J a is.length cap] 53)) (O #[nS,nS] 44);rw[show((w.alloc (O #[J sa ss.length c1,J ta ts.length c2] 44)).alloc (O #[J a is.length cap] 53)).heap.size=w.heap.size+1+1 from qi]at h;exact h
 obtain⟨W,eW⟩:=Aj (((w.alloc (O #[J sa ss.length c1,J ta ts.length c2] 44)).alloc (O #[J a is.length cap] 53)).alloc (O #[nS,nS] 44))
 have hB0:Bw w W:=by rw[<- eW];exact((aN _ _).alloc qi _).alloc qj _
 have sy:W.heap.size=w.heap.size+1+1+1:=by rw[<- eW];simp
 rw[eW]at hW0 D9 hW2
 obtain⟨p0,p1⟩:=Bg hW0
 have p2:=cK D9 0
 have W4:Hd (W.heap[w.heap.size+1]?=M (O #[J a is.length cap] 53 (0,0))):=D9
 have HW2:Hd (W.heap[w.heap.size+1+1]?=M (O #[nS,nS] 44 (0,0))):=hW2
 have HS:Hd (Ku w sa ss ta ts):=h
 have HR:Hd (Dl w a is):=hr
 have HWS:Hd (W.heap.size=w.heap.size+1+1+1):=sy
 have hWl:w.heap.size+1+1<W.heap.size:=qg
 clear hW0 D9 hW2 h hr sy
 have hR:w.heap.size<=w.heap.size+1+1:=qg
 go_enter func75,ntmps75
 go_wp2_with fail
 clear eW
 refine(Fm sa ta c1 c2 ss ts _ (HS.o.bl hB0) nf).mono ?_
 rintro e w1 ⟨ah,rfl⟩
 have db:=bt hB0 ah
 replace p0:=Aa ah p0
 replace p1:=Aa ah p1
 replace p2:=Aa ah p2
 have KR1:Hd (w1.heap[w.heap.size+1+1]?=_):=Ac HW2.o ah
 have KZ1:Hd (w1.heap[w.heap.size+1]?=_):=Ac W4.o ah
 obtain⟨r0,r1⟩:=Bg KR1.o
 have fr:=fZ KR1.o
 clear ah W4 HW2 hB0
 by_cases hc:Gp ss ts=0
 ·have HC:Hd (Sp ss ts):=Vs hc;rw[hc]
  by_cases hn:Ay t
  ·have gy:=Cr hn
   go_wp2_with (go_at_call 59;refine(Bb t _ ht).mono ?_;rintro e w9 ⟨rfl,rfl⟩;rw[gy])
   refine(Ci a cap is _ (HR.o.bl db) hl hx).mono ?_;rw[im.o];rintro e w3 ⟨bh,rfl⟩;have fm:=bt db bh;replace p0:=Aa bh p0;replace p1:=Aa bh p1;replace p2:=Aa bh p2;have KR3:Hd (w3.heap[w.heap.size+1+1]?=_):=Ac KR1.o bh;have KZ3:Hd (w3.heap[w.heap.size+1]?=_):=Ac KZ1.o bh;clear r0 r1 fr bh KR1 KZ1 db;cases ok
   ·have HD:Hd (Cq ss ts t false=2):=Rh hc (λk=>by cases k.2);obtain⟨r0,r1⟩:=Bg KR3.o;have fr:=fZ KR3.o;clear hn hc;go_wp2_with fail;exact bR (v:=Y #[G #[nS,nS],I 2]) qfn rfl ⟨(fm.setCell (p:=⟨w.heap.size+1+1,0,N⟩) hR _).setCell (p:=⟨w.heap.size+1+1,1,N⟩) hR _,Sl.no HD.o qh⟩
   ·go_wp2_with fail;refine(Hg sa ta c1 c2 ss ts t _ (HS.o.rs.bl fm) (HS.o.rt.bl fm) (zo HC.o.len) (zo HC.o.len) HC.o.codes).mono ?_;rintro e w5 ⟨cw,v1,v2,rfl,o1,o2⟩;have mj:=bt fm cw;have hz:w.heap.size+1+1<w3.heap.size:=An KR3.o;have hz5:w3.heap.size<=w5.heap.size:=cw.size;obtain⟨a1,q1,rfl,_⟩:=o1.sl;obtain⟨a2,q2,rfl,_⟩:=o2.sl;obtain⟨w6,e6⟩:=Aj (w5.alloc (O #[J a1 (Bl t ss).length q1,J a2 (Bj t ts).length q2] 44));have cj:Bw w5 w6:=qfc;have wm:=bt mj cj;have KR6:Hd (w6.heap[w.heap.size+1+1]?=_):=Ac (Ac KR3.o cw) cj;have KZ6:Hd (w6.heap[w.heap.size+1]?=_):=Ac (Ac KZ3.o cw) cj;(have B8:Hd (w6.heap[w5.heap.size]?=M (O #[J a1 (Bl t ss).length q1,J a2 (Bj t ts).length q2] 44 (0,0))):=by show _=_;rw[<- e6];exact Am _ _);have hs6:w5.heap.size<w6.heap.size:=An B8.o;obtain⟨s0,s1⟩:=Bg KR6.o;have fs:=fZ KR6.o;obtain⟨x0,x1⟩:=Bg B8.o;have y2:=cK KZ6.o 0;have fc:Hd (Dm w6 w3.heap.size w5.heap.size (J a1 (Bl t ss).length q1) (Bl t ss)):=o1.bl cj;have oq:Hd (Ec w6 w3.heap.size w5.heap.size (J a2 (Bj t ts).length q2) (Bj t ts)):=o2.bl cj;have HDY:Hd (¬ 200<=(Bl t ss).length+(Bj t ts).length->Cq ss ts t true=0):=roomC0 hc ⟨hn,rfl⟩;have HDN:Hd (200<=(Bl t ss).length+(Bj t ts).length->Cq ss ts t true=3):=Zi hc ⟨hn,rfl⟩;(have o6:(Bl t ss).length<=200:=by have h1:=Nw t ss;have h2:=HC.o.len;omega);(have xq:(Bj t ts).length<=200:=by have h1:=Nv t ts;have h2:=HC.o.len;omega);have HAS:Hd (Fg (Au (Bj t ts))):=ascT t HC.o.a2
    have A4:1<=is.length:=by
     have hp:=im.o;exact qlj
    clear o1 o2 cw cj p0 p1 p2 hc hn mj KR3 KZ3 fm
    by_cases hf:200<=(Bl t ss).length+(Bj t ts).length
    ·have HD:Hd (Cq ss ts t true=3):=HDN.o hf;have jj:decide ((200:Int)<=((Bl t ss).length:Int)+((Bj t ts).length:Int))=true:=qj;generalize (Bl t ss).length=n1 at *;generalize (Bj t ts).length=n2 at *;go_wp2_with fail;exact bR (v:=Y #[G #[nS,nS],I 3]) (by simp[results,results75,go_sem,s0,s1]) rfl ⟨(wm.setCell (p:=⟨w.heap.size+1+1,0,N⟩) hR _).setCell (p:=⟨w.heap.size+1+1,1,N⟩) hR _,Sl.no HD.o qh⟩
    ·have HD:Hd (Cq ss ts t true=0):=HDY.o hf;have jj:decide ((200:Int)<=((Bl t ss).length:Int)+((Bj t ts).length:Int))=false:=qj;obtain⟨r,lh⟩:=Ko HAS.o t;(have D0:r<=(Bj t ts).length:=by have:=lh.le;rw[Cb]at this;exact this);obtain⟨l,hlm,hlr,hlc⟩:=oq.o.toC;have gz:l.length=(Bj t ts).length:=by rw[<- hlm];simp
     have iw:∀k,k<l.length->(tx (Bj t ts) k).name=(cx l k).t.name:=λk hk=>by
      rw[Mk qg,Mu hk];simp[<- hlm]
     have iu:Hd (∀k,k<r->Op.bytesLess (cx l k).t.name.toList t.toList=true):=λk hk=>by
      have h1:=lh.lo k hk;rw[Dy,iw k qg]at h1;exact h1
     have jr:Hd (∀k,r<=k->k<l.length->Op.bytesLess (cx l k).t.name.toList t.toList=false/\((cx l k).t.name.toList == t.toList)=false):=λk fh sw=>by
      have h1:=lh.hi k fh (by rw[Cb];omega);rw[Dy,iw k sw]at h1;refine⟨h1,?_⟩;rw[beq_eq_false_iff_ne];intro e;rw[ByteArray.toList_eq,ByteArray.toList_eq]at e;have h3:=fltT_ne t ts (i:=k) qg;rw[iw k sw]at h3;exact h3 (WideShapes.bytes_inj e)
     have HPY:Hd (ptS ss ts t true=Bl t ss/\ptT ss ts t is true=Vm (Bj t ts) ⟨t,is⟩ r):=Zo HD.o lh;have HLM:Hd (l.map (·.t)=Bj t ts):=hlm;have wz:Hd (l.length=(Bj t ts).length):=gz;have HLC:Hd (Fv w6 w3.heap.size w5.heap.size l):=hlc;have me:Hd (Ck w6 w3.heap.size w5.heap.size 113 2 (J a2 (Bj t ts).length q2) (Bj t ts).length (Jc l)):=hlr;(have HLP:Hd ((Bl t ss).length+(Bj t ts).length<200):=by show _<_;omega);clear lh hlm hlr hlc iw hf;obtain⟨n2,V6⟩:=Aj ((Bj t ts).length);have HEN:Hd ((Bj t ts).length=n2):=V6;rw[V6]at gz D0 xq jj me x1 B8 wz HLP oq e6;clear V6 HDY HDN;obtain⟨n1,en1⟩:=Aj ((Bl t ss).length);have HEN1:Hd ((Bl t ss).length=n1):=en1;rw[en1]at o6 jj x0 B8 HLP fc e6;clear en1;obtain⟨w7,e7⟩:=Aj (w6.alloc (O #[] 113));have bv:Bw w6 w7:=by rw[<- e7];exact aN _ _
     have HO7:Hd (w7.ownsRow w6.heap.size 113 2 (J (p_ w6.heap.size) 0 0) 0 []):=by
      show World.ownsRow _ _ _ _ _ _ _;rw[<- e7];exact World.ownsRow_lit (base:=w6.heap.size) (e:=113) (size:=2) w6 #[] 0 (Nat.le_refl _) qn qi
     have y7:=Aa bv y2;rw[HEN.o,HEN1.o];go_wp2_with fail;clear e7 jj x0 x1 s0 s1 fs y2;refine(Jo a cap is w7 (HR.o.bl (bt wm bv)) A4 hl).mono ?_;rintro e wx ⟨ks,gc,cpc,rfl,zz⟩;have T4:w6.heap.size<w7.heap.size:=(HO7.o.lt _ rfl).2;have hsx:w7.heap.size<=wx.heap.size:=ks.size;obtain⟨w8,e8⟩:=Aj (wx.alloc (O #[S t,J (p_ gc) is.length cpc] 113));(have hbx8:Bw wx w8:=by rw[<- e8];exact aN _ _);(have HQ8:Hd (w8.heap[wx.heap.size]?=M (O #[S t,J (p_ gc) is.length cpc] 113 (0,0))):=by show _=_;rw[<- e8];exact Am _ _);have hs8:wx.heap.size<w8.heap.size:=An HQ8.o;have hb78:Bw w7 w8:=bt ks hbx8;have t7:Hd (w8.ownsRow w7.heap.size 103 3 (J (p_ gc) is.length cpc) is.length (Cy is)):=Ae zz hbx8;have HL0:Hd (LS w6 w8 w8 w6.heap.size 0 []):=⟨Ae HO7.o hb78,Or.inl rfl,λ_ _ _=>rfl,Nat.le_refl _,bv.trans (hb78.mono qg)⟩;have Q0:w6.heap.size<=w8.heap.size:=qg;clear zz ks hbx8 hb78 bv HO7 y7;go_wp2_with fail;clear e8
     go_loopw [9,10,12] (λlv dn i wr=>∃(k:X)(AB:L TC)(g cp:X)(d:Bool),k<=l.length/\lv=J (p_ g) AB.length cp/\dn=.bool d/\i=I k/\Hd (LS w6 w8 wr g cp AB)/\Hd (Jb l ⟨⟨t,is⟩,J (p_ gc) is.length cpc⟩ r k AB d)) (λ_ _ i _=>l.length-(intOf i).toNat)
     case atStart=>exact⟨0,[],_,0,false,Nat.zero_le _,rfl,rfl,rfl,HL0.o,(Or.inl ⟨Nat.zero_le _,rfl,rfl⟩:Jb l ⟨⟨t,is⟩,J (p_ gc) is.length cpc⟩ r 0 [] false)⟩
     case round=>
      obtain⟨k,AB,g,cp,d,hk,rfl,rfl,rfl,HL,HM⟩:=hrel;clear HL0;have we:w8.heap.size<=wr.heap.size:=HL.o.size;obtain⟨z0,z1⟩:=Bg (Ac B8.o HL.o.bl);have hml:=HM.o.len hk;have HQr:Hd (wr.heap[wx.heap.size]?=_):=HL.o.blk HQ8.o qg;obtain⟨o0,o1⟩:=Bg HQr.o
      by_cases au:k<l.length
      ·obtain⟨gv,e2⟩:∃gv,a2=p_ gv:=by
        rcases Rl me.o.own with⟨h1,h2⟩|⟨g',c',h1⟩
        ·omega
        ·cases h1;exact⟨g',rfl⟩
       subst e2;have hgv:gv<w5.heap.size:=me.o.top gv rfl;obtain⟨t1,t2⟩:=Yp l k au;rw[<- Mu au]at t1 t2;obtain⟨va,vc,ev⟩:=HLC.o.slice (a:=cx l k) (by rw[Mu au];exact List.getElem_mem au);(have y1:w6.cell? ⟨gv,k*2,N⟩=M (S (cx l k).t.name):=by rw[me.o.own.cellAt _ qg];exact t1);(have y2:w6.cell? ⟨gv,k*2+1,N⟩=M (J va (cx l k).t.code.length vc):=by rw[me.o.own.cellAt _ qg,t2,ev]);have d1:=HL.o.cell y1;have d2:=HL.o.cell y2;have gi:(k:Int)<(n2:Int):=qg;have fe:(0:Int)<=(k:Int):=qg;(have zp:Hd (∀hr:k<r,d=false->Jb l ⟨⟨t,is⟩,J (p_ gc) is.length cpc⟩ r (k+1) (AB++[cx l k]) false):=λhr hd=>by subst hd;exact HM.o.before au hr);(have t8:Hd (∀hr:k=r,d=false->Jb l ⟨⟨t,is⟩,J (p_ gc) is.length cpc⟩ r (k+1) (AB++[⟨⟨t,is⟩,J (p_ gc) is.length cpc⟩]++[cx l k]) true):=λhr hd=>by subst hd;subst hr;exact HM.o.here au);have ou:Hd (d=true->Jb l ⟨⟨t,is⟩,J (p_ gc) is.length cpc⟩ r (k+1) (AB++[cx l k]) true):=λhd=>by subst hd;exact HM.o.past au
       have HRK:Hd (d=false->k<=r):=λhd=>by
        exact qli
       have ve:Hd (k<r->Op.bytesLess (cx l k).t.name.toList t.toList=true):=iu.o k;have ww:Hd (r<=k->Op.bytesLess (cx l k).t.name.toList t.toList=false/\((cx l k).t.name.toList == t.toList)=false):=λh=>jr.o k h au;obtain⟨s,es⟩:=Aj (cx l k);rw[es]at d1 d2 zp t8 ou ve ww ev y1 y2;have HY:Hd (w6.cell? ⟨gv,k*2,N⟩=M (S s.t.name)/\w6.cell? ⟨gv,k*2+1,N⟩=M (J va s.t.code.length vc)/\w6.cell? ⟨w5.heap.size,1,N⟩=M (J (p_ gv) n2 q2)):=⟨y1,y2,(Bg B8.o).2⟩;have EV:Hd (s.c=J va s.t.code.length vc):=ev;clear es y1 y2 HM t1 t2 ev;cases d
       ·rcases Nat.lt_or_ge k r with A3|A3
        ·have hv:=ve.o A3;have M5:Hd (Jb l ⟨⟨t,is⟩,J (p_ gc) is.length cpc⟩ r (k+1) (AB++[s]) false):=zp.o A3 rfl;clear ve ww zp t8 ou;obtain⟨wA,eA⟩:=Aj (wr.alloc (O #[S s.t.name,J va s.t.code.length vc] 113));(have je:Hd (LS w6 w8 wA g cp AB):=by show LS _ _ _ _ _ _;rw[<- eA];exact HL.o.alloc Q0 _);have t9:Hd (wA.heap[wr.heap.size]?=M (O #[S s.t.name,J va s.t.code.length vc] 113 (0,0))):=qfp;have hsA:wr.heap.size<wA.heap.size:=An t9.o
         go_wp2_with (first|(at_builtin;refine wpList_append_lies _ rfl (.tmp 66) (.tmp 72) 42 rfl w6.heap.size 113 i0 (G #[ze,nS]) 2 40 underlying42 hi bm bg bi rfl qh _ _ _ rfl je.o.own ⟨wr.heap.size,0,N⟩ 1 1 [S s.t.name,J va s.t.code.length vc] rfl rfl (World.news_of_block (cs:=#[S s.t.name,J va s.t.code.length vc]) (t:=113) (fr:=(0,0)) t9.o) (by intro u hu;simp at hu;rcases hu with rfl|rfl<;>rfl) qg qn qg qg _ rfl ?_;intro g' cp' w2 af ae br mo;rw[<- EV.o]at af;have ip:Hd (LS w6 w8 w2 g' cp' (AB++[s])):=je.o.app Q0 af ae br;clear af ae br mo))
         clear eA;exact⟨⟨k+1,AB++[s],g',cp',false,qg,qch,rfl,qp,ip.o,M5.o⟩,Yj⟩
        ·have J7:k=r:=zo (HRK.o rfl);obtain⟨hv,hv2⟩:=ww.o A3;have M5:Hd (Jb l ⟨⟨t,is⟩,J (p_ gc) is.length cpc⟩ r (k+1) (AB++[⟨⟨t,is⟩,J (p_ gc) is.length cpc⟩]++[s]) true):=t8.o J7 rfl;clear ve ww zp t8 ou J7;obtain⟨wC,eC⟩:=Aj (wr.alloc (O #[S t,J (p_ gc) is.length cpc] 113));(have je:Hd (LS w6 w8 wC g cp AB):=by show LS _ _ _ _ _ _;rw[<- eC];exact HL.o.alloc Q0 _);have t9:Hd (wC.heap[wr.heap.size]?=M (O #[S t,J (p_ gc) is.length cpc] 113 (0,0))):=qdj;have hsA:wr.heap.size<wC.heap.size:=An t9.o
         go_wp2_with (first|(at_builtin;refine wpList_append_lies _ rfl (.tmp 62) (.tmp 64) 42 rfl w6.heap.size 113 i0 (G #[ze,nS]) 2 40 underlying42 hi bm bg bi rfl qh _ _ _ rfl je.o.own ⟨wr.heap.size,0,N⟩ 1 1 [S t,J (p_ gc) is.length cpc] rfl rfl (World.news_of_block (cs:=#[S t,J (p_ gc) is.length cpc]) (t:=113) (fr:=(0,0)) t9.o) (by intro u hu;simp at hu;rcases hu with rfl|rfl<;>rfl) qg qn qg qg _ rfl ?_;intro g' cp' w2 af ae br mo;have ip:Hd (LS w6 w8 w2 g' cp' (AB++[(⟨⟨t,is⟩,J (p_ gc) is.length cpc⟩:TC)])):=je.o.app (a:=⟨⟨t,is⟩,J (p_ gc) is.length cpc⟩) Q0 af ae br;have fl:=ip.o.size;have m0:=ip.o.cell HY.o.2.2;have m1:=ip.o.cell HY.o.1;have m2:=ip.o.cell HY.o.2.1;clear eC;obtain⟨wE,eE⟩:=Aj (w2.alloc (O #[S s.t.name,J va s.t.code.length vc] 113));have HLE2:Hd (LS w6 w8 wE g' cp' (AB++[(⟨⟨t,is⟩,J (p_ gc) is.length cpc⟩:TC)])):=(by show LS _ _ _ _ _ _;rw[<- eE];exact ip.o.alloc Q0 _);have HOE:Hd (wE.ownsRow w6.heap.size 113 2 (J (p_ g') (AB.length+1) cp') (AB.length+1) (Jc (AB++[(⟨⟨t,is⟩,J (p_ gc) is.length cpc⟩:TC)]))):=(by have hq:=HLE2.o.own;rw[show(AB++[(⟨⟨t,is⟩,J (p_ gc) is.length cpc⟩:TC)]).length=AB.length+1 from qi]at hq;exact hq);have F6:Hd (wE.heap[w2.heap.size]?=M (O #[S s.t.name,J va s.t.code.length vc] 113 (0,0))):=(by show _=_;rw[<- eE];exact Am _ _);have hsE:w2.heap.size<wE.heap.size:=An F6.o;clear af ae br mo)|(at_builtin;refine wpList_append_lies _ rfl (.tmp 66) (.tmp 72) 42 rfl w6.heap.size 113 i0 (G #[ze,nS]) 2 40 underlying42 hi bm bg bi rfl qh _ _ _ rfl HOE.o ⟨w2.heap.size,0,N⟩ 1 1 [S s.t.name,J va s.t.code.length vc] rfl rfl (World.news_of_block (cs:=#[S s.t.name,J va s.t.code.length vc]) (t:=113) (fr:=(0,0)) F6.o) (by intro u hu;simp at hu;rcases hu with rfl|rfl<;>rfl) qg qn qg qg _ rfl ?_;intro g3 cp3 w3' jh pu hlie3 hlt3;clear eE;rw[<- EV.o]at jh;have ye:Hd (LS w6 w8 w3' g3 cp3 (AB++[(⟨⟨t,is⟩,J (p_ gc) is.length cpc⟩:TC)]++[s])):=HLE2.o.app Q0 (by rw[show(AB++[(⟨⟨t,is⟩,J (p_ gc) is.length cpc⟩:TC)]).length=AB.length+1 from qi];exact jh) pu hlie3;clear jh pu hlie3 hlt3))
         exact⟨⟨k+1,AB++[(⟨⟨t,is⟩,J (p_ gc) is.length cpc⟩:TC)]++[s],g3,cp3,true,qg,by rw[List.length_append,List.length_append];rfl,rfl,qp,ye.o,M5.o⟩,Yj⟩
       ·have M5:Hd (Jb l ⟨⟨t,is⟩,J (p_ gc) is.length cpc⟩ r (k+1) (AB++[s]) true):=ou.o rfl;clear ve ww zp t8 ou;obtain⟨wA,eA⟩:=Aj (wr.alloc (O #[S s.t.name,J va s.t.code.length vc] 113));(have je:Hd (LS w6 w8 wA g cp AB):=by show LS _ _ _ _ _ _;rw[<- eA];exact HL.o.alloc Q0 _);have t9:Hd (wA.heap[wr.heap.size]?=M (O #[S s.t.name,J va s.t.code.length vc] 113 (0,0))):=qfp;have hsA:wr.heap.size<wA.heap.size:=An t9.o
        go_wp2_with (first|(at_builtin;refine wpList_append_lies _ rfl (.tmp 66) (.tmp 72) 42 rfl w6.heap.size 113 i0 (G #[ze,nS]) 2 40 underlying42 hi bm bg bi rfl qh _ _ _ rfl je.o.own ⟨wr.heap.size,0,N⟩ 1 1 [S s.t.name,J va s.t.code.length vc] rfl rfl (World.news_of_block (cs:=#[S s.t.name,J va s.t.code.length vc]) (t:=113) (fr:=(0,0)) t9.o) (by intro u hu;simp at hu;rcases hu with rfl|rfl<;>rfl) qg qn qg qg _ rfl ?_;intro g' cp' w2 af ae br mo;rw[<- EV.o]at af;have ip:Hd (LS w6 w8 w2 g' cp' (AB++[s])):=je.o.app Q0 af ae br;clear af ae br mo))
        clear eA;exact⟨⟨k+1,AB++[s],g',cp',true,qg,qch,rfl,qp,ip.o,M5.o⟩,Yj⟩
      ·have ek:k=l.length:=qg;subst ek;(have HRI:Hd (d=true->AB=Iw l ⟨⟨t,is⟩,J (p_ gc) is.length cpc⟩ r):=λhd=>by subst hd;exact HM.o.done);(have HRL:Hd (d=false->AB++[⟨⟨t,is⟩,J (p_ gc) is.length cpc⟩]=Iw l ⟨⟨t,is⟩,J (p_ gc) is.length cpc⟩ r):=λhd=>by subst hd;exact HM.o.last qg);have gi:¬ ((l.length:Int)<(n2:Int)):=qg;clear HM
       have Y2:Hd (∀(W2:E)(g2 ki:X),LS w6 w8 W2 g2 ki (Iw l ⟨⟨t,is⟩,J (p_ gc) is.length cpc⟩ r)->Fv W2 w3.heap.size W2.heap.size (Iw l ⟨⟨t,is⟩,J (p_ gc) is.length cpc⟩ r)):=λW2 g2 ki hL2=>by
        have fl:=hL2.size;refine((HLC.o.bl hL2.bl).wide (Nat.le_refl _) qg).ins ⟨⟨t,is⟩,J (p_ gc) is.length cpc⟩ r (ys:=Cy is) ?_ (Ez is) (λb hb k e1 e3=>?_)
        ·refine⟨Al (Cc t7.o (λb eb=>hL2.keep b (t7.o.lt b eb).2 (λe'=>by have:=(t7.o.lt b eb).1;cases e';omega))) qg,λb eb=>by have:=(t7.o.lt b eb).2;omega⟩
        ·obtain⟨ys,k1,_⟩:=HLC.o.code b hb;have:=k1.top k e1;have:=(t7.o.lt k e3).1;omega
       cases d
       ·have L5:Hd (AB++[⟨⟨t,is⟩,J (p_ gc) is.length cpc⟩]=Iw l ⟨⟨t,is⟩,J (p_ gc) is.length cpc⟩ r):=HRL.o rfl;clear HRI HRL;obtain⟨wC,eC⟩:=Aj (wr.alloc (O #[S t,J (p_ gc) is.length cpc] 113));(have je:Hd (LS w6 w8 wC g cp AB):=by show LS _ _ _ _ _ _;rw[<- eC];exact HL.o.alloc Q0 _);have t9:Hd (wC.heap[wr.heap.size]?=M (O #[S t,J (p_ gc) is.length cpc] 113 (0,0))):=qdj;have hsA:wr.heap.size<wC.heap.size:=An t9.o
        go_wp2_with (first|(at_builtin;refine wpList_append_lies _ rfl (.tmp 76) (.tmp 78) 42 rfl w6.heap.size 113 i0 (G #[ze,nS]) 2 40 underlying42 hi bm bg bi rfl qh _ _ _ rfl je.o.own ⟨wr.heap.size,0,N⟩ 1 1 [S t,J (p_ gc) is.length cpc] rfl rfl (World.news_of_block (cs:=#[S t,J (p_ gc) is.length cpc]) (t:=113) (fr:=(0,0)) t9.o) (by intro u hu;simp at hu;rcases hu with rfl|rfl<;>rfl) qg qn qg qg _ rfl ?_;intro g' cp' w2 af ae br mo;have HL2a:Hd (LS w6 w8 w2 g' cp' (AB++[(⟨⟨t,is⟩,J (p_ gc) is.length cpc⟩:TC)])):=je.o.app (a:=⟨⟨t,is⟩,J (p_ gc) is.length cpc⟩) Q0 af ae br;have ip:Hd (LS w6 w8 w2 g' cp' (Iw l ⟨⟨t,is⟩,J (p_ gc) is.length cpc⟩ r)):=(by show LS _ _ _ _ _ _;rw[<- L5.o];exact HL2a.o);have HLE:Hd (AB.length+1=(Iw l ⟨⟨t,is⟩,J (p_ gc) is.length cpc⟩ r).length):=(by show _=_;rw[<- L5.o];simp);clear af ae br mo eC HL2a;have kr:=Ac KR6.o ip.o.bl;have kp:=Ac B8.o ip.o.bl;have u0:=(Bg kr).1;have u1:=(Bg kr).2;have k0:=(Bg kp).1;have k1:=(Bg kp).2;have uf:∀j,w2.frozen? ⟨w.heap.size+1+1,j,N⟩=false:=(λj=>fH kr j);have vf:∀j,w2.frozen? ⟨w5.heap.size,j,N⟩=false:=(λj=>fH kp j);have bo:Bw w w2:=wm.trans (ip.o.bl.mono qg);have L1:Hd (Ai w2 w5.heap.size 44):=⟨_,kp⟩;have ju:Hd (Ai w2 (w.heap.size+1+1) 44):=⟨_,kr⟩;have HO1r:Hd (Dm w2 w3.heap.size w5.heap.size (J a1 n1 q1) (Bl t ss)):=fc.o.bl ip.o.bl;have fb:Hd (Fv w2 w3.heap.size w2.heap.size (Iw l ⟨⟨t,is⟩,J (p_ gc) is.length cpc⟩ r)):=Y2.o w2 _ _ ip.o;have fl:=ip.o.size;clear kr kp))
        refine bR (v:=Y #[G #[J a1 n1 q1,J (p_ g') (AB.length+1) cp'],I 0]) (by simp[results,results75,go_sem,u0,u1]) rfl ⟨((bo.setCell (p:=⟨w5.heap.size,1,N⟩) qj _).setCell (p:=⟨w.heap.size+1+1,0,N⟩) hR _).setCell (p:=⟨w.heap.size+1+1,1,N⟩) hR _,_,_,by rw[HD.o],?_,?_⟩
        ·exact qjm
        ·rw[HPY.o.2];have jx:=(((fb.o.setT (j:=1) L1.o (J (p_ g') (AB.length+1) cp')).setT (j:=0) (ju.o.set _) (J a1 n1 q1)).setT (j:=1) ((ju.o.set _).set _) (J (p_ g') (AB.length+1) cp')).wide (lo':=w.heap.size) (hi':=w2.heap.size) qg (Nat.le_refl _);have sr:=Ak (j:=1) (Ak (j:=0) (Ak (j:=1) (Al (B':=w.heap.size) ip.o.own qg) L1.o qh (J (p_ g') (AB.length+1) cp')) (ju.o.set _) qh (J a1 n1 q1)) ((ju.o.set _).set _) qh (J (p_ g') (AB.length+1) cp');have hT9:=jx.toT (v:=J (p_ g') (Iw l ⟨⟨t,is⟩,J (p_ gc) is.length cpc⟩ r).length cp') ⟨sr,λb eb=>by have:=(ip.o.own.lt b eb).2;omega⟩;rw[Xo,HLM.o,<- HLE.o]at hT9;refine hT9.wide (Nat.le_refl _) ?_;simp
       ·have L5:Hd (AB=Iw l ⟨⟨t,is⟩,J (p_ gc) is.length cpc⟩ r):=HRI.o rfl;(have ip:Hd (LS w6 w8 wr g cp (Iw l ⟨⟨t,is⟩,J (p_ gc) is.length cpc⟩ r)):=by show LS _ _ _ _ _ _;rw[<- L5.o];exact HL.o);(have HLE:Hd (AB.length=(Iw l ⟨⟨t,is⟩,J (p_ gc) is.length cpc⟩ r).length):=by show _=_;rw[<- L5.o]);clear HRI HRL z0 z1;have kr:=Ac KR6.o ip.o.bl;have kp:=Ac B8.o ip.o.bl;have u0:=(Bg kr).1;have u1:=(Bg kr).2;have k0:=(Bg kp).1;have k1:=(Bg kp).2;have uf:∀j,wr.frozen? ⟨w.heap.size+1+1,j,N⟩=false:=(λj=>fH kr j);have vf:∀j,wr.frozen? ⟨w5.heap.size,j,N⟩=false:=(λj=>fH kp j);have bo:Bw w wr:=wm.trans (ip.o.bl.mono qg);have L1:Hd (Ai wr w5.heap.size 44):=⟨_,kp⟩;have ju:Hd (Ai wr (w.heap.size+1+1) 44):=⟨_,kr⟩;have HO1r:Hd (Dm wr w3.heap.size w5.heap.size (J a1 n1 q1) (Bl t ss)):=fc.o.bl ip.o.bl;have fb:Hd (Fv wr w3.heap.size wr.heap.size (Iw l ⟨⟨t,is⟩,J (p_ gc) is.length cpc⟩ r)):=Y2.o wr _ _ ip.o;have fl:=ip.o.size;clear kr kp;go_wp2_with fail;refine bR (v:=Y #[G #[J a1 n1 q1,J (p_ g) AB.length cp],I 0]) (by simp[results,results75,go_sem,u0,u1]) rfl ⟨((bo.setCell (p:=⟨w5.heap.size,1,N⟩) qj _).setCell (p:=⟨w.heap.size+1+1,0,N⟩) hR _).setCell (p:=⟨w.heap.size+1+1,1,N⟩) hR _,_,_,by rw[HD.o],?_,?_⟩
        ·exact qjm
        ·rw[HPY.o.2];have jx:=(((fb.o.setT (j:=1) L1.o (J (p_ g) AB.length cp)).setT (j:=0) (ju.o.set _) (J a1 n1 q1)).setT (j:=1) ((ju.o.set _).set _) (J (p_ g) AB.length cp)).wide (lo':=w.heap.size) (hi':=wr.heap.size) qg (Nat.le_refl _);have sr:=Ak (j:=1) (Ak (j:=0) (Ak (j:=1) (Al (B':=w.heap.size) ip.o.own qg) L1.o qh (J (p_ g) AB.length cp)) (ju.o.set _) qh (J a1 n1 q1)) ((ju.o.set _).set _) qh (J (p_ g) AB.length cp);have hT9:=jx.toT (v:=J (p_ g) (Iw l ⟨⟨t,is⟩,J (p_ gc) is.length cpc⟩ r).length cp) ⟨sr,λb eb=>by have:=(ip.o.own.lt b eb).2;omega⟩;rw[Xo,HLM.o,<- HLE.o]at hT9;refine hT9.wide (Nat.le_refl _) ?_;simp
  ·have gy:=Cg hn;have HD:Hd (Cq ss ts t ok=2):=Rh hc (λk=>hn k.1);clear hn hc
   go_wp2_with (go_at_call 59;refine(Bb t _ ht).mono ?_;rintro e w9 ⟨rfl,rfl⟩;rw[gy])
   exact bR (v:=Y #[G #[nS,nS],I 2]) qfn rfl ⟨(db.setCell (p:=⟨w.heap.size+1+1,0,N⟩) hR _).setCell (p:=⟨w.heap.size+1+1,1,N⟩) hR _,Sl.no HD.o qh⟩
 ·have mh:(Gp ss ts != 0)=true:=qbj;have HD:Hd (Cq ss ts t ok=1):=Zj hc;clear hc;generalize Gp ss ts=q at *;go_wp2_with fail;exact bR (v:=Y #[G #[nS,nS],I 1]) qfn rfl ⟨(db.setCell (p:=⟨w.heap.size+1+1,0,N⟩) hR _).setCell (p:=⟨w.heap.size+1+1,1,N⟩) hR _,Sl.no HD.o qh⟩
end Go.Proofs.YtoihflimijabjaaGreatDoor
