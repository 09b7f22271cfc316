import Derived.Test.YtjlnkepkkdefdaaGreatDoorDrE
namespace Go.Proofs.YtjlnkepkkdefdaaGreatDoor
set_option maxHeartbeats 8000000
set_option maxRecDepth 100000
open Go.RowKit
set_option linter.unusedVariables false
set_option linter.unusedSimpArgs false
def ProgQ (B R:Nat) (a:Option Addr) (len cap p K:Nat) (w:World) (e:Ending) (w':World):Prop:=
 ∃(g n c:Nat) (is:List I3),e=.returned (.agg #[.slice (some ⟨g,0,none⟩) n c])/\Ow w w' g n c is/\n<=400/\Bd B R a len cap p K w w'
theorem Uu {w:World} {g m:Nat} {is:List I3} (h:Dr w (some ⟨g,0,none⟩) is):∀ j u,(Di is)[j]?=some u->w.cell? ((⟨g,0,none⟩:Addr).add j)=some u:=by
 intro j u hu
 have hj:j<is.length*3:=by
  rcases Nat.lt_or_ge j (is.length*3) with q|q
  ·exact q
  ·rw[List.getElem?_eq_none (by rw[Bu];exact q)] at hu;cases hu
 have e:j=j / 3*3+j % 3:=by omega
 have hi:j / 3<is.length:=by omega
 have hu2:=hu
 rw[e,Ia is (j / 3) (j % 3) hi (by omega)] at hu2
 obtain⟨b,off,eb,c0,c1,c2⟩:=h (j / 3) hi
 cases eb
 rw[Addr.add_lit]
 rcases (show j % 3=0\/j % 3=1\/j % 3=2 from by omega) with q|q|q
 ·rw[q] at hu2;simp[Ex] at hu2;subst hu2;have e2:0+j=0+j / 3*3:=by omega
  rw[e2];exact c0
 ·rw[q] at hu2;simp[Ex] at hu2;subst hu2;have e2:0+j=0+j / 3*3+1:=by omega
  rw[e2];exact c1
 ·rw[q] at hu2;simp[Ex] at hu2;subst hu2;have e2:0+j=0+j / 3*3+2:=by omega
  rw[e2];exact c2
theorem Vb:∀(is:List I3) (i j:Nat) (v:Value) (x:I3),i<is.length->j<3->(Ex (ix is i)).set j v=Ex x->(Di is).set (i*3+j) v=Di (is.set i x)
 | [],i,j,v,x,h,_,_=>by simp at h
 | e :: r,0,j,v,x,h,hj,hx=>by
  have hx2:(Ex e).set j v=Ex x:=hx;unfold Di;rw[List.set_cons_zero,List.flatMap_cons,List.flatMap_cons,<- hx2,List.set_append_left _ _ (by simp[Ex];omega)];rw[show 0*3+j=j from by omega]
 | e :: r,i+1,j,v,x,h,hj,hx=>by
  have:=Vb r i j v x (by simpa using h) hj hx;unfold Di at this ⊢;rw[List.set_cons_succ,List.flatMap_cons,List.flatMap_cons,List.set_append_right _ _ (by simp[Ex];omega)];have e1:(i+1)*3+j-(Ex e).length=i*3+j:=by simp[Ex];omega
  rw[e1,this]
theorem Ow.setF {B R:Nat} {a:Option Addr} {len cap p K:Nat} {w0 w:World} {g n c:Nat} {is:List I3} (h:Ow w0 w g n c is) (hK:Bd B R a len cap p K w0 w) (hB:B<=w0.heap.size) (hR:R<w0.heap.size) (i j:Nat) (v:Value) (x:I3) (hi:i<n) (hj:j<3) (hx:(Ex (ix is i)).set j v=Ex x) (hs:x.text.size<=50000) :
  Ow w0 (w.setCell ⟨g,i*3+j,none⟩ v) g n c (is.set i x)/\Bd B R a len cap p K w0 (w.setCell ⟨g,i*3+j,none⟩ v)/\(∃ v,w.cell? ⟨g,i*3+j,none⟩=some v)/\∀ j,w.frozen? ⟨g,j,none⟩=false:=by
 obtain⟨h1,p',h2,h3⟩:=hK
 have hgB:w0.heap.size<=g:=by
  rcases h.row.2 with ⟨q,_⟩|⟨g1,cap1,cur,q,hg,_⟩
  ·cases q
  ·simp only[Value.slice.injEq,Option.some.injEq,Addr.mk.injEq] at q;omega
 have hl:=h.ln
 have hst:=h.row.stored (i*3+j) v
 rw[Vb is i j v x (by omega) hj hx] at hst
 have hsz:=h1.size
 refine⟨⟨by rw[List.length_set];exact hl,hst.1,fun y hy=>?_⟩,⟨Gh h1 (Ci _ _ _ _) (by intro b hb;cases hb;omega),p',h2,h3.kept (by omega) (Ci _ _ _ _) (by intro b hb;cases hb;omega)⟩,?_,fun j=>h.row.frozenAt j⟩
 ·rcases List.mem_or_eq_of_mem_set hy with q|q
  ·exact h.tx y q
  ·subst q;exact hs
 ·rw[h.row.cellAt (i*3+j) (by omega)];exact⟨_,gQ (by rw[Bu];omega)⟩
theorem insC_take (is:List I3) (i:Nat) (h:i<=is.length):(Di is).take (i*3)=Di (is.take i):=by
 have e:Di is=Di (is.take i)++Di (is.drop i):=by rw[<- Sl,List.take_append_drop]
 rw[e,List.take_left' (by rw[Bu,List.length_take];omega)]
theorem Ow.cut {w0 w:World} {g n c:Nat} {is:List I3} (h:Ow w0 w g n c is) (i:Nat) (hi:i<=n):Ow w0 w g i c (is.take i):=by
 have hl:=h.ln
 have e:(is.take i).length=i:=by rw[List.length_take];omega
 refine⟨e.symm,⟨by rw[Bu,e],?_⟩,fun x hx=>h.tx x (List.mem_of_mem_take hx)⟩
 rcases h.row.2 with ⟨q,_⟩|⟨g1,cap1,cur,q,hg,hh,h1,h2,h3,h4⟩
 ·cases q
 ·simp only[Value.slice.injEq,Option.some.injEq,Addr.mk.injEq] at q;obtain⟨⟨rfl,_⟩,_,rfl⟩:=q;refine Or.inr ⟨g,c,cur,rfl,hg,hh,by omega,h2,h3,?_⟩;rw[<- insC_take is i (by omega),<- h4,List.take_take];congr 1;omega
theorem Ow.capn {w0 w:World} {g n c:Nat} {is:List I3} (h:Ow w0 w g n c is):n<=c:=by
 rcases h.row.2 with ⟨q,_⟩|⟨g1,cap1,cur,q,hg,hh,h1,h2,h3,h4⟩
 ·cases q
 ·simp only[Value.slice.injEq,Option.some.injEq,Addr.mk.injEq] at q;obtain⟨⟨rfl,_⟩,_,rfl⟩:=q;omega
theorem heap_ltD {w:World} {b:Nat} {o:Obj} (h:w.heap[b]?=some o):b<w.heap.size:=by
 rcases Nat.lt_or_ge b w.heap.size with k|k
 ·exact k
 ·rw[Array.getElem?_eq_none k] at h;cases h
def Xr:Value->Nat
 | .slice _ n _=>n
 | _=>0
theorem Ek {B R:Nat} {a:Option Addr} {len cap p K1 K:Nat} {u w V:World} {g n c:Nat} {is:List I3} {o o':Obj} (ew:(u.alloc o).alloc o'=w) (hB:B<=u.heap.size) (ho:Ow w V g n c is) (hk:Bd B R a len cap p K1 w V) (hL:n<=400) (hK:K1<=K) (x:Value) :
  ProgQ B R a len cap p K u (.returned (.agg #[.slice (some ⟨g,0,none⟩) n c])) (V.setCell ⟨u.heap.size+1,0,none⟩ x):=by
 have hw:w.heap.size=u.heap.size+1+1:=by rw[<- ew];simp
 obtain⟨h1,p',h2,h3⟩:=hk
 have hs:=h1.size
 have ho2:Ow w (V.setCell ⟨u.heap.size+1,0,none⟩ x) g n c is:=⟨ho.ln,Fs ho.row (fun b hb _=>hC V ⟨u.heap.size+1,0,none⟩ x b (by simp;omega)),ho.tx⟩
 have hu:u.grownBy w (some R):=by rw[<- ew];exact Dk (World.grownBy_alloc _ _ _) (aN _ _)
 refine⟨g,n,c,is,rfl,ho2.base (by omega),hL,Gh (Ic hu h1) (Ci _ _ _ _) (by intro k hk;cases hk;exact Or.inr (by omega)),p',by omega,h3.kept (by omega) (Ci _ _ _ _) (by intro k hk;cases hk;omega)⟩
theorem Yy (B R:Nat) (a:Option Addr) (len cap p g0 c0:Nat) (is0:List I3) (u:World) (h:Rd B u R a len cap p) (hBu:B<=u.heap.size) (hp:p<=60000) (h3:Dr u (some ⟨g0,0,none⟩) is0) (hm0:0<is0.length) (hm1:is0.length<=400) (ht:∀ x∈is0,x.text.size<=50000) :
  Calls Tryz.prog 100 #[.pointer (some ⟨R,0,none⟩),.agg #[.slice (some ⟨g0,0,none⟩) is0.length c0]] u fun e w'=>ProgQ B R a len cap p 300 u e w':=by
 have hRB:=h.lt
 obtain⟨i0,hi,hz0,hz1,hz2⟩:=info_parts Tryz.info80D
 obtain⟨w,ew⟩:∃ w,(u.alloc (.cells #[.slice (some ⟨g0,0,none⟩) is0.length c0] 37)).alloc (.cells #[.slice none 0 0] 37)=w:=⟨_,rfl⟩
 have hw:w.heap.size=u.heap.size+1+1:=by rw[<- ew];simp
 have hbw:Below u.heap.size u w:=by rw[<- ew];exact(aN _ _).alloc (by simp) _
 have HWS:Hd (w.heap.size=u.heap.size+1+1):=hw
 have hB:B<=w.heap.size:=by omega
 have hwR:R<w.heap.size:=by omega
 have bx1:w.heap[u.heap.size]?=some (.cells #[.slice (some ⟨g0,0,none⟩) is0.length c0] 37 (0,0)):=by
  rw[<- ew,Lib.alloc_old _ _ _ (by simp)];exact Bb _ _
 have bx2:w.heap[u.heap.size+1]?=some (.cells #[.slice none 0 0] 37 (0,0)):=by
  rw[<- ew];have q:=Bb (u.alloc (.cells #[.slice (some ⟨g0,0,none⟩) is0.length c0] 37)) (.cells #[.slice none 0 0] 37);rw[show (u.alloc (.cells #[.slice (some ⟨g0,0,none⟩) is0.length c0] 37)).heap.size=u.heap.size+1 from by simp] at q;exact q
 have HBX:Hd (∀ V,w.grownBy V (some R)->V.cell? ⟨u.heap.size+1,0,none⟩=some (.slice none 0 0)/\V.frozen? ⟨u.heap.size+1,0,none⟩=false/\∀ y,(V.setCell ⟨u.heap.size+1,0,none⟩ y).cell? ⟨u.heap.size+1,0,none⟩=some y):=fun V hV=>by
  have e:V.heap[u.heap.size+1]?=some (.cells #[.slice none 0 0] 37 (0,0)):=by
   rw[hV.block _ (by omega) (fun e=>by injection e with e;omega)];exact bx2
  exact⟨by rw[cH e];rfl,fH e 0,fun y=>by rw[cH (jB e y (i:=0))];rfl⟩
 have hal0:Below w.heap.size w (w.alloc (.cells #[] 106)):=aN _ _
 have k1:(w.alloc (.cells #[] 106)).cell? ⟨u.heap.size,0,none⟩=some (.slice (some ⟨g0,0,none⟩) is0.length c0):=Ab hal0 (by rw[cH bx1];rfl)
 have HK:Hd (Bd B R a len cap p 0 w (w.alloc (.cells #[] 106))):=⟨World.grownBy_alloc _ _ _,p,Nat.le_refl _,(h.bl hBu hbw).bl (by omega) hal0⟩
 have HO:Hd (Ow w (w.alloc (.cells #[] 106)) w.heap.size 0 0 []):=⟨rfl,World.ownsRow_lit (base:=w.heap.size) (e:=106) (size:=3) w #[] 0 (Nat.le_refl _) (by unfold maxLen;omega) rfl,fun x hx=>by cases hx⟩
 have HNW:Hd (∀ j u',(Di is0)[j]?=some u'->(w.alloc (.cells #[] 106)).cell? ((⟨g0,0,none⟩:Addr).add j)=some u'):=Uu (m:=0) (fun i hi=>by obtain⟨b,off,e,c0',c1',c2'⟩:=h3 i hi;exact⟨b,off,e,Ab ((hbw.trans (hal0.mono hbw.size))) c0',Ab ((hbw.trans (hal0.mono hbw.size))) c1',Ab ((hbw.trans (hal0.mono hbw.size))) c2'⟩)
 have HT0:Hd (∀ x∈is0,x.text.size<=50000):=ht
 have EW:Hd ((u.alloc (.cells #[.slice (some ⟨g0,0,none⟩) is0.length c0] 37)).alloc (.cells #[.slice none 0 0] 37)=w):=ew
 have HBW:Hd (Below u.heap.size u w):=hbw
 clear h h3 ht hw bx1 bx2 hal0 hbw
 go_enter Tryz.func100,Tryz.ntmps100
 go_wp2_with (first|(at_builtin;refine wpList_append_own _ rfl _ _ 35 rfl w.heap.size 106 i0 (.agg #[.int .i64 0,.string ⟨#[]⟩,.int .i64 0]) 3 32 Tryz.underlying35 hi hz0 hz1 hz2 rfl (by decide) _ _ _ ?_ HO.o.row ⟨g0,0,none⟩ is0.length c0 (Di is0) ?_ (Bu is0) HNW.o (Bg is0) (by unfold maxLen;omega) (by omega) (by have:=HK.o.1.size;omega) ?_;(focus (first|rfl|(simp[Act.eval];done)));(focus (first|rfl|(simp[Act.eval];done)));intro v8 w8 hown8 hgrow8 hnil8;obtain⟨g8,c8,rfl,ho8,hk8⟩:=Ow.app (Below.refl _ _) HO.o HK.o hB (by omega) (js:=is0) rfl rfl hm0 HT0.o hown8 hgrow8;have HO:Hd (Ow w w8 _ _ _ _):=ho8;have HK:Hd (Bd B R a len cap p _ w w8):=hk8;clear ho8 hk8 hown8 hgrow8 hnil8))
 rw[Nat.zero_add,List.nil_append] at HO
 clear HNW k1
 have hne:((is0.length:Int) == 0)=false:=by rw[beq_eq_false_iff_ne];omega
 obtain⟨n,en⟩:∃ n,is0.length=n:=⟨_,rfl⟩
 rw[en] at HO hm0 hm1 hne ⊢
 refine(HK.o.pick (by omega) _ (by omega) (by omega)).mono ?_
 rintro e wn ⟨i1,rfl,hi1,hk,hg⟩
 have HO:Hd (Ow w wn _ _ _ _):=HO.o.gb hg (by omega)
 have HK:Hd (Bd B R a len cap p _ w wn):=hk
 clear hk hg
 have hi2:i1<n:=by omega
 go_wp2_with fail
 refine(HK.o.pick (by omega) _ (by omega) (by omega)).mono ?_
 rintro e wn ⟨k7,rfl,hk7,hk,hg⟩
 have HO:Hd (Ow w wn _ _ _ _):=HO.o.gb hg (by omega)
 have HK:Hd (Bd B R a len cap p _ w wn):=hk
 clear hk hg
 rcases (show k7=0\/k7=1\/k7=2\/k7=3\/k7=4\/k7=5\/k7=6 from by omega) with rfl|rfl|rfl|rfl|rfl|rfl|rfl
 ·go_wp2_with fail;refine(HK.o.pick (by omega) _ (by omega) (by omega)).mono ?_;rintro e wn ⟨y,rfl,hy,hk,hg⟩;have HO:Hd (Ow w wn _ _ _ _):=HO.o.gb hg (by omega);have HK:Hd (Bd B R a len cap p _ w wn):=hk;clear hk hg;obtain⟨ho8,hk8,⟨vo,hvo⟩,hfo⟩:=HO.o.setF HK.o hB (by omega) i1 0 (.int .i64 ((y:Int)-1)) ⟨(y:Int)-1,(ix is0 i1).text,(ix is0 i1).n⟩ hi2 (by omega) rfl (HO.o.short i1);simp only[Nat.add_zero] at ho8 hk8 hvo;obtain⟨bc,bf,bs⟩:=HBX.o _ hk8.1;go_wp2_with fail;exact bR (v:=.agg #[.slice (some ⟨g8,0,none⟩) n c8]) (by simp[results,Tryz.results100,go_sem,bs]) rfl (Ek EW.o hBu ho8 hk8 (by omega) (by omega) _)
 ·have hc1:=HO.o.row.cellAt (i1*3+2) (by omega);rw[Ia is0 i1 2 (by omega) (by omega)] at hc1;have hc2:wn.cell? ⟨g8,i1*3+2,none⟩=some (.int .i64 (ix is0 i1).n):=hc1;clear hc1;obtain⟨m,em⟩:∃ m,(ix is0 i1).n=m:=⟨_,rfl⟩;obtain⟨ho8,hk8,⟨vo,hvo⟩,hfo⟩:=HO.o.setF HK.o hB (by omega) i1 2 (.int .i64 (wrap64 (m+1))) ⟨(ix is0 i1).op,(ix is0 i1).text,wrap64 (m+1)⟩ hi2 (by omega) rfl (HO.o.short i1);rw[em] at hc2;clear em hvo vo;obtain⟨bc,bf,bs⟩:=HBX.o _ hk8.1;go_wp2_with fail;exact bR (v:=.agg #[.slice (some ⟨g8,0,none⟩) n c8]) (by simp[results,Tryz.results100,go_sem,bs]) rfl (Ek EW.o hBu ho8 hk8 (by omega) (by omega) _)
 ·obtain⟨X,eX⟩:∃ X,wn.alloc (.cells #[.int .i64 (-1),.int .i64 2000,.int .i64 2001,.int .i64 200,.int .i64 201,.int .i64 1000000007] 3)=X:=⟨_,rfl⟩;have hbX:Below wn.heap.size wn X:=eX▸aN _ _;have hXb:X.heap[wn.heap.size]?=some (.cells #[.int .i64 (-1),.int .i64 2000,.int .i64 2001,.int .i64 200,.int .i64 201,.int .i64 1000000007] 3 (0,0)):=eX▸Bb _ _;have hRn:R<wn.heap.size:=Nat.lt_of_lt_of_le hwR HK.o.1.size;have HO:Hd (Ow w X _ _ _ _):=HO.o.bl hbX;have HK:Hd (Bd B R a len cap p _ w X):=HK.o.bl hB hbX;obtain⟨q,eq⟩:∃ q,wn.heap.size=q:=⟨_,rfl⟩;have hqX:q<X.heap.size:=by rw[<- eq];exact heap_ltD hXb
  rw[eq] at hXb hRn;have Eq:Hd (wn.heap.size=q):=eq;clear hbX eq;go_wp2_with fail
  try rw[Eq.o]
  refine(HK.o.pick (by omega) _ (by omega) (by omega)).mono ?_;rintro e w2 ⟨y,rfl,hy,hk,hg⟩;have hlit:w2.heap[q]?=some (.cells #[.int .i64 (-1),.int .i64 2000,.int .i64 2001,.int .i64 200,.int .i64 201,.int .i64 1000000007] 3 (0,0)):=by rw[hg.block q hqX (fun e=>by injection e with e;omega)];exact hXb
  have HO:Hd (Ow w w2 _ _ _ _):=HO.o.gb hg (by omega);have HK:Hd (Bd B R a len cap p _ w w2):=hk;clear hk hg hXb
  rcases (show y=0\/y=1\/y=2\/y=3\/y=4\/y=5 from by omega) with rfl|rfl|rfl|rfl|rfl|rfl
  ·have hcl:w2.cell? ⟨q,0,none⟩=some (.int .i64 (-1)):=by rw[cH hlit];rfl
   obtain⟨ho8,hk8,⟨vo,hvo⟩,hfo⟩:=HO.o.setF HK.o hB (by omega) i1 2 (.int .i64 (-1)) ⟨(ix is0 i1).op,(ix is0 i1).text,-1⟩ hi2 (by omega) rfl (HO.o.short i1);obtain⟨bc,bf,bs⟩:=HBX.o _ hk8.1;go_wp2_with fail;exact bR (v:=.agg #[.slice (some ⟨g8,0,none⟩) n c8]) (by simp[results,Tryz.results100,go_sem,bs]) rfl (Ek EW.o hBu ho8 hk8 (by omega) (by omega) _)
  ·have hcl:w2.cell? ⟨q,1,none⟩=some (.int .i64 (2000)):=by rw[cH hlit];rfl
   obtain⟨ho8,hk8,⟨vo,hvo⟩,hfo⟩:=HO.o.setF HK.o hB (by omega) i1 2 (.int .i64 (2000)) ⟨(ix is0 i1).op,(ix is0 i1).text,2000⟩ hi2 (by omega) rfl (HO.o.short i1);obtain⟨bc,bf,bs⟩:=HBX.o _ hk8.1;go_wp2_with fail;exact bR (v:=.agg #[.slice (some ⟨g8,0,none⟩) n c8]) (by simp[results,Tryz.results100,go_sem,bs]) rfl (Ek EW.o hBu ho8 hk8 (by omega) (by omega) _)
  ·have hcl:w2.cell? ⟨q,2,none⟩=some (.int .i64 (2001)):=by rw[cH hlit];rfl
   obtain⟨ho8,hk8,⟨vo,hvo⟩,hfo⟩:=HO.o.setF HK.o hB (by omega) i1 2 (.int .i64 (2001)) ⟨(ix is0 i1).op,(ix is0 i1).text,2001⟩ hi2 (by omega) rfl (HO.o.short i1);obtain⟨bc,bf,bs⟩:=HBX.o _ hk8.1;go_wp2_with fail;exact bR (v:=.agg #[.slice (some ⟨g8,0,none⟩) n c8]) (by simp[results,Tryz.results100,go_sem,bs]) rfl (Ek EW.o hBu ho8 hk8 (by omega) (by omega) _)
  ·have hcl:w2.cell? ⟨q,3,none⟩=some (.int .i64 (200)):=by rw[cH hlit];rfl
   obtain⟨ho8,hk8,⟨vo,hvo⟩,hfo⟩:=HO.o.setF HK.o hB (by omega) i1 2 (.int .i64 (200)) ⟨(ix is0 i1).op,(ix is0 i1).text,200⟩ hi2 (by omega) rfl (HO.o.short i1);obtain⟨bc,bf,bs⟩:=HBX.o _ hk8.1;go_wp2_with fail;exact bR (v:=.agg #[.slice (some ⟨g8,0,none⟩) n c8]) (by simp[results,Tryz.results100,go_sem,bs]) rfl (Ek EW.o hBu ho8 hk8 (by omega) (by omega) _)
  ·have hcl:w2.cell? ⟨q,4,none⟩=some (.int .i64 (201)):=by rw[cH hlit];rfl
   obtain⟨ho8,hk8,⟨vo,hvo⟩,hfo⟩:=HO.o.setF HK.o hB (by omega) i1 2 (.int .i64 (201)) ⟨(ix is0 i1).op,(ix is0 i1).text,201⟩ hi2 (by omega) rfl (HO.o.short i1);obtain⟨bc,bf,bs⟩:=HBX.o _ hk8.1;go_wp2_with fail;exact bR (v:=.agg #[.slice (some ⟨g8,0,none⟩) n c8]) (by simp[results,Tryz.results100,go_sem,bs]) rfl (Ek EW.o hBu ho8 hk8 (by omega) (by omega) _)
  ·have hcl:w2.cell? ⟨q,5,none⟩=some (.int .i64 (1000000007)):=by rw[cH hlit];rfl
   obtain⟨ho8,hk8,⟨vo,hvo⟩,hfo⟩:=HO.o.setF HK.o hB (by omega) i1 2 (.int .i64 (1000000007)) ⟨(ix is0 i1).op,(ix is0 i1).text,1000000007⟩ hi2 (by omega) rfl (HO.o.short i1);obtain⟨bc,bf,bs⟩:=HBX.o _ hk8.1;go_wp2_with fail;exact bR (v:=.agg #[.slice (some ⟨g8,0,none⟩) n c8]) (by simp[results,Tryz.results100,go_sem,bs]) rfl (Ek EW.o hBu ho8 hk8 (by omega) (by omega) _)
 ·go_wp2_with fail;refine(HK.o.pick (by omega) _ (by omega) (by omega)).mono ?_;rintro e wn ⟨y,rfl,hy,hk,hg⟩;have HO:Hd (Ow w wn _ _ _ _):=HO.o.gb hg (by omega);have HK:Hd (Bd B R a len cap p _ w wn):=hk;clear hk hg;have qm:=Ky ⟨#[116]⟩ (2000+y) wn (by decide) (by omega);rw[show ((2000+y:Nat):Int)=2000+(y:Int) from by omega] at qm;have HM:Hd (Calls Tryz.prog 101 #[.string ⟨#[116]⟩,.int .i64 (2000+(y:Int))] wn _):=qm;clear qm;go_wp2_with fail;refine HM.o.mono ?_;rintro e wx ⟨s,rfl,hs,hw⟩;rw[hw];clear hw wx HM;have hsz:s.size<=50000:=by rw[hs];exact Nat.le_trans (Nat.mul_le_mul (show (⟨#[116]⟩:ByteArray).size<=1 by decide) (show 2000+y<=2002 by omega)) (by omega)
  obtain⟨ho8,hk8,⟨vo,hvo⟩,hfo⟩:=HO.o.setF HK.o hB (by omega) i1 1 (.string s) ⟨(ix is0 i1).op,s,(ix is0 i1).n⟩ hi2 (by omega) rfl (hsz);obtain⟨bc,bf,bs⟩:=HBX.o _ hk8.1;go_wp2_with fail;exact bR (v:=.agg #[.slice (some ⟨g8,0,none⟩) n c8]) (by simp[results,Tryz.results100,go_sem,bs]) rfl (Ek EW.o hBu ho8 hk8 (by omega) (by omega) _)
 ·have ho8:=HO.o.cut i1 (by omega);have hk8:=HK.o;have hcp:=HO.o.capn;have hcp2:(i1:Int)<=(c8:Int):=by omega
  obtain⟨bc,bf,bs⟩:=HBX.o _ hk8.1;go_wp2_with fail;exact bR (v:=.agg #[.slice (some ⟨g8,0,none⟩) i1 c8]) (by simp[results,Tryz.results100,go_sem,bs]) rfl (Ek EW.o hBu ho8 hk8 (by omega) (by omega) _)
 ·go_wp2;obtain⟨n0,en0⟩:∃ n0,n0=n:=⟨_,rfl⟩;have hn0:n0=n:=en0
  go_loopw [5] (fun v wr=>∃(g n c K:Nat) (is:List I3),v=.slice (some ⟨g,0,none⟩) n c/\Hd (Ow w wr g n c is)/\Hd (Bd B R a len cap p K w wr)/\K+n0<=2+n/\n0<=n/\(n=n0\/n<=201)) (fun v _=>500-Xr v)
  case atStart=>exact⟨g8,n,c8,_,is0,rfl,HO.o,HK.o,by omega,by omega,by omega⟩
  case round=>
   clear HO HK;obtain⟨g,m,c,K,is,rfl,HO,HK,hK,hm1',hm2⟩:=hrel;go_wp2_with fail;refine(HK.o.pick (by omega) _ (by omega) (by omega)).mono ?_;rintro e wn ⟨y,rfl,hy,hk,hg⟩;have HO:Hd (Ow w wn _ _ _ _):=HO.o.gb hg (by omega);have HK:Hd (Bd B R a len cap p _ w wn):=hk;clear hk hg
   by_cases hlt:m<200+y
   ·(have dl:decide ((m:Int)<200+(y:Int))=true:=by simp;omega);go_wp2_with fail;refine(Au _ _).mono ?_;rintro e wq ⟨rfl,hb⟩;have HO:Hd (Ow w wq _ _ _ _):=HO.o.bl hb;have HK:Hd (Bd B R a len cap p _ w wq):=HK.o.bl hB hb;clear hb
    go_wp2_with (first|(at_builtin;refine wpList_append_own _ rfl _ _ 35 rfl w.heap.size 106 i0 (.agg #[.int .i64 0,.string ⟨#[]⟩,.int .i64 0]) 3 32 Tryz.underlying35 hi hz0 hz1 hz2 rfl (by decide) _ _ _ ?_ (HO.o.row.alloc _) ⟨wq.heap.size,0,none⟩ 1 1 [.int .i64 9,.string ⟨#[]⟩,.int .i64 0] ?_ rfl (World.news_of_block (cs:=#[.int .i64 9,.string ⟨#[]⟩,.int .i64 0]) (t:=106) (fr:=(0,0)) (Bb _ _)) (fun u hu=>Bg ([⟨9,⟨#[]⟩,0⟩]:List I3) u hu) (by unfold maxLen;omega) (by omega) (by have:=HK.o.1.size;simp;omega) ?_;(focus (first|rfl|(simp[Act.eval];done)));(focus (first|rfl|(simp[Act.eval];done)));intro v8 w8 hown8 hgrow8 hnil8;obtain⟨g9,c9,rfl,ho9,hk9⟩:=Ow.app (aN _ _) HO.o HK.o hB (by omega) (js:=[⟨9,⟨#[]⟩,0⟩]) (k:=1) rfl rfl (by simp) (by intro x hx;simp at hx;subst hx;show 0<=50000;omega) hown8 hgrow8;have HO:Hd (Ow w w8 _ _ _ _):=ho9;have HK:Hd (Bd B R a len cap p _ w w8):=hk9;clear ho9 hk9 hown8 hgrow8 hnil8))
    go_roundw
    case rel=>exact⟨g9,m+1,c9,K+1,_,rfl,HO.o,HK.o,by omega,by omega,by omega⟩
    case measure=>simp[Xr];omega
   ·(have dl:decide ((m:Int)<200+(y:Int))=false:=by simp;omega);have ho8:=HO.o;have hk8:=HK.o;obtain⟨bc,bf,bs⟩:=HBX.o _ hk8.1;go_wp2_with fail;exact bR (v:=.agg #[.slice (some ⟨g,0,none⟩) m c]) (by simp[results,Tryz.results100,go_sem,bs]) rfl (Ek EW.o hBu ho8 hk8 (by omega) (by omega) _)
 ·obtain⟨ho8,hk8,⟨vo,hvo⟩,hfo⟩:=HO.o.setF HK.o hB (by omega) i1 1 (.string ⟨#[121]⟩) ⟨(ix is0 i1).op,⟨#[121]⟩,(ix is0 i1).n⟩ hi2 (by omega) rfl (by show (⟨#[121]⟩:ByteArray).size<=50000;decide);obtain⟨bc,bf,bs⟩:=HBX.o _ hk8.1;go_wp2_with fail;exact bR (v:=.agg #[.slice (some ⟨g8,0,none⟩) n c8]) (by simp[results,Tryz.results100,go_sem,bs]) rfl (Ek EW.o hBu ho8 hk8 (by omega) (by omega) _)
end Go.Proofs.YtjlnkepkkdefdaaGreatDoor
