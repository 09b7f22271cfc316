import Derived.Test.YtjlnkepkkdefdaaGreatDoorFtF
import Derived.Test.YtjlnkepkkdefdaaGreatDoorVsV
namespace Go.Proofs.YtjlnkepkkdefdaaGreatDoor
set_option maxHeartbeats 4000000
set_option maxRecDepth 100000
open Go.RowKit
set_option linter.unusedVariables false
set_option linter.unusedSimpArgs false
def ActP (ts:List T2) (nm:ByteArray) (w:World) (e:Ending):Prop:=
 (∃ q a cap,q<ts.length/\(tx ts q).name=nm/\Dr w a (tx ts q).code/\e=.returned (.tuple #[.agg #[.slice a (tx ts q).code.length cap],.bool true]))\/((∀ q,q<ts.length->(tx ts q).name≠nm)/\e=.returned (.tuple #[.agg #[.slice none 0 0],.bool false]))
theorem Wy (sv:Value) (ta:Option Addr) (c2:Nat) (ts:List T2) (nm:ByteArray) (w:World) (h:Iy w ta ts) (hl:ts.length<=1048576) (hc:∀ i,i<ts.length->(tx ts i).code.length<=1048576) :
  Calls Tryz.prog 6 #[.agg #[sv,.slice ta ts.length c2],.string nm] w fun e w'=>Below w.heap.size w w'/\ActP ts nm w' e:=by
 obtain⟨W,eW⟩:∃ W,(w.alloc (.cells #[sv,.slice ta ts.length c2] 26)).alloc (.cells #[.slice none 0 0] 37)=W:=⟨_,rfl⟩
 have hb:Below w.heap.size w W:=by rw[<- eW];exact(aN _ _).alloc (by simp) _
 have x1:W.cell? ⟨w.heap.size,1,none⟩=some (.slice ta ts.length c2):=by rw[<- eW];simp[go_sem]
 have y0:W.cell? ⟨w.heap.size+1,0,none⟩=some (.slice none 0 0):=by rw[<- eW];simp[go_sem]
 have yf:W.frozen? ⟨w.heap.size+1,0,none⟩=false:=by rw[<- eW];simp[go_sem]
 have HR:=hid h
 have HB:=hid hb
 clear h hb
 go_enter Tryz.func6,Tryz.ntmps6
 go_wp2
 clear eW
 go_loopw [6] (fun i wr=>∃ k:Nat,k<=ts.length/\i=.int .i64 k/\W=wr/\Hd (∀ q,q<k->(tx ts q).name≠nm)) (fun i _=>ts.length-(intOf i).toNat)
 case atStart=>exact⟨0,Nat.zero_le _,rfl,rfl,fun q hq=>by omega⟩
 case round=>
  obtain⟨k,hk,rfl,rfl,HN⟩:=hrel
  by_cases hlt:k<ts.length
  ·have hkI:(k:Int)<(ts.length:Int):=by omega
   obtain⟨b,off,rfl,c1,a',cap',c3,c4⟩:=HR.o k hlt;replace c1:=Ab HB.o c1;replace c3:=Ab HB.o c3;have HC:=hid c4;have hcl:=hc k hlt;clear c4
   by_cases he:(tx ts k).name=nm
   ·have hq:=Eh he;have HE:=hid he;clear he;go_wp2;exact bR (v:=.tuple #[.agg #[.slice a' (tx ts k).code.length cap'],.bool true]) (by simp[results,Tryz.results6,go_sem,y0,yf]) rfl ⟨HB.o.setCell (p:=⟨w.heap.size+1,0,none⟩) (by simp) _,Or.inl ⟨k,a',cap',hlt,HE.o,HC.o.bl (HB.o.setCell (p:=⟨w.heap.size+1,0,none⟩) (by simp) _),rfl⟩⟩
   ·have hq:=Es he
    have HN2:Hd (∀ q,q<k+1->(tx ts q).name≠nm):=fun q hq=>by
     rcases Nat.lt_or_ge q k with h'|h'
     ·exact HN.o q h'
     ·(obtain rfl:q=k:=by omega);exact he
    clear he;go_wp2;go_roundw
    case rel=>exact⟨k+1,by omega,by go_num,trivial,HN2⟩
    case measure=>simp[intOf];omega
  ·have hkI:¬ (k:Int)<(ts.length:Int):=by omega
   have HN2:Hd (∀ q,q<ts.length->(tx ts q).name≠nm):=fun q hq=>HN.o q (by omega);go_wp2;exact bR (v:=.tuple #[.agg #[.slice none 0 0],.bool false]) (by simp[results,Tryz.results6,go_sem,y0,yf]) rfl ⟨HB.o.setCell (p:=⟨w.heap.size+1,0,none⟩) (by simp) _,Or.inr ⟨HN2.o,rfl⟩⟩
theorem take_snoc {ys:List R3} {k:Nat} (h:k<ys.length):ys.take k++[rx ys k]=ys.take (k+1):=by
 unfold rx
 rw[gG,gQ h,List.take_add_one,gQ h]
 rfl
theorem rx_take {ys:List R3} {n i:Nat} (h:i<n):rx (ys.take n) i=rx ys i:=by
 unfold rx;rw[gG,List.getElem?_take_of_lt h,gG]
theorem ev_le {ss:List S2} {ts:List T2} (hv:SpV ss ts) (hS:Pm ts) {nm:ByteArray} {ms:Ms} {d:Md} (hd:Av ss ts [] [] (.make nm) ms (.ok d)):∃ k,k<=61/\Ev ss ts k (.make nm) d:=by
 obtain⟨⟨k,hk⟩,_⟩:=hd.ev (fun nm d h=>by simp[lk] at h) d rfl
 refine⟨k,?_,hk⟩
 obtain⟨f1,f2⟩:=hk.few hv.ascS hv.ascT
 rcases hS with h|⟨h,ha⟩|⟨l,mk,h⟩
 ·omega
 ·have:=f2 ha;have:=List.length_filter_le (fun t:T2=>Js t.code) ts;omega
 ·rcases hk.inv with h0|⟨i,k',e,h1,h2,h3,h4⟩
  ·omega
  ·obtain⟨j,hj,ej⟩:=h.all i h2;have en:nm=l j:=h3.symm.trans ej;subst en
   cases j with
   | zero=>exact absurd hd (h.first hv)
   | succ j=>
    obtain⟨d',h5,_⟩:=h.ev hv (61-(j+1)) (by omega);rw[show 61-(61-(j+1))=j+1 by omega] at h5;have:=(h5.unique hv.ascS hv.ascT hk).1;omega
theorem gx_succ (g:G3) (l:List G3) (i:Nat):gx (g :: l) (i+1)=gx l i:=by unfold gx;rw[List.getD_cons_succ]
theorem rx_succ (g:R3) (l:List R3) (i:Nat):rx (g :: l) (i+1)=rx l i:=by unfold rx;rw[List.getD_cons_succ]
theorem Ev.trace {ss:List S2} {ts:List T2} {k:Nat} {j:Job} {d:Md} (h:Ev ss ts k j d):∀ {is ys ls},j=.run is ys ls->∃(zs:List R3) (ms:List G3) (n:Nat),d.ls=ls++ms/\zs.length=ms.length/\Az is (ys++zs) Gc (.over d.c d.t n)/\∀ i,i<ms.length->(∃ n,Az is (ys++zs.take i) Gc (.wait (gx ms i).ask (gx ms i).name n))/\((gx ms i).ask=false->∃ b,rx zs i=⟨b,0,⟨#[]⟩⟩/\(gx ms i).sum=Cw b)/\((gx ms i).ask=true->∃ k' d',k'<=k/\Ev ss ts k' (.make (gx ms i).name) d'/\rx zs i=Kw ss ts (gx ms i).name d'/\(gx ms i).sum=Bn d'.c d'.t):=by
 induction h with
 | source|missing|made=>intro is ys ls e;cases e
 | @over is ys ls c t n h1=>intro is' ys' ls' e;cases e;exact⟨[],[],n,by simp,rfl,by rw[List.append_nil];exact h1,fun i hi=>by simp at hi⟩
 | has h1 h2 ih=>
  intro is ys ls e;cases e;obtain⟨zs,ms,n,e1,e2,e3,e4⟩:=ih rfl;refine⟨_ :: zs,_ :: ms,n,by rw[e1,List.append_assoc];rfl,by simp[e2],by rw[List.append_assoc] at e3;exact e3,fun i hi=>?_⟩
  cases i with
  | zero=>exact⟨⟨_,by rw[List.take_zero,List.append_nil];exact h1⟩,fun _=>⟨_,rfl,rfl⟩,fun h=>by cases h⟩
  | succ i=>
   obtain⟨⟨m,q1⟩,q2,q3⟩:=e4 i (by simpa using hi);rw[List.append_assoc] at q1;simp only[gx_succ,rx_succ,List.take_succ_cons];exact⟨⟨m,q1⟩,q2,q3⟩
 | @asked is ys ls nm n k k' d d' h1 h2 h3 ih1 ih2=>
  intro is ys ls e;cases e;obtain⟨zs,ms,n,e1,e2,e3,e4⟩:=ih2 rfl;refine⟨_ :: zs,_ :: ms,n,by rw[e1,List.append_assoc];rfl,by simp[e2],by rw[List.append_assoc] at e3;exact e3,fun i hi=>?_⟩
  cases i with
  | zero=>exact⟨⟨_,by rw[List.take_zero,List.append_nil];exact h1⟩,(fun h=>by cases h),fun _=>⟨k,d,by omega,h2,rfl,rfl⟩⟩
  | succ i=>
   obtain⟨⟨m,q1⟩,q2,q3⟩:=e4 i (by simpa using hi);rw[List.append_assoc] at q1;simp only[gx_succ,rx_succ,List.take_succ_cons];exact⟨⟨m,q1⟩,q2,fun h=>by obtain⟨a,b,c,d⟩:=q3 h;exact⟨a,b,by omega,d⟩⟩
section
variable {s:ByteArray->ByteArray}
theorem Sg:∀(a b:List UInt8),Op.bytesLess a b=false->a≠b->Op.bytesLess b a=true
 | [],[]=>by simp
 | [],_ :: _=>by simp[Op.bytesLess]
 | _ :: _,[]=>by simp[Op.bytesLess]
 | a :: ar,b :: bs=>by
  have ih:=Sg ar bs
  by_cases h1:a<b
  ·simp[Op.bytesLess,h1]
  ·by_cases h2:b<a
   ·intro _ _;simp[Op.bytesLess,h2]
   ·have he:a=b:=UInt8.le_antisymm (UInt8.not_lt.mp h2) (UInt8.not_lt.mp h1);subst he;intro k1 k2;simp only[Op.bytesLess,h1] at k1 ⊢;simp at k1 k2 ⊢
    first
     | exact ih k1 k2
     | exact Or.inr (ih k1 k2)
theorem Yr {a b:ByteArray} (h:Aw a b=false) (hne:a≠b):Aw b a=true:=by
 unfold Aw at *
 refine Sg _ _ h (fun e=>hne ?_)
 rw[ByteArray.toList_eq,ByteArray.toList_eq] at e
 exact WideShapes.bytes_inj e
def Lt1 (s:ByteArray->ByteArray) (x y:ByteArray):Prop:=Aw (s x) (s y)=true
theorem Lt1.tot {x y:ByteArray} (h:Aw (s x) (s y)=false) (hne:s x≠s y):Lt1 s y x:=Yr h hne
def So (s:ByteArray->ByteArray) (l:List ByteArray):Prop:=l.Pairwise (Lt1 s)
theorem So.of_asc {l:List ByteArray} (h:Ey (l.map s)):So s l:=by
 refine List.pairwise_iff_getElem.2 fun i j hi hj hij=>?_
 have:=h.pair hij (by simpa using hj)
 unfold nx at this
 rw[gG,List.getElem?_map,gQ hi,gG,List.getElem?_map,gQ hj] at this
 exact this
theorem So.asc {l:List ByteArray} (h:So s l):Ey (l.map s):=by
 intro i h1 h2
 rw[List.length_map] at h2
 have:=List.pairwise_iff_getElem.1 h (i-1) i (by omega) h2 (by omega)
 unfold nx
 rw[gG,List.getElem?_map,gQ (show i-1<l.length by omega),gG,List.getElem?_map,gQ h2]
 exact this
end
theorem Fy {l:List ByteArray} {i:Nat} (h:i<l.length):nx l i=l[i]:=by simp[nx,gG,h]
theorem PlT.none {n:Nat} {L:List ByteArray} {y:ByteArray} {r:Nat} (hL:So (Ap n) L) (hp:PlT n L (Ap n y) r) (ht:¬ Kc n L y r):∀ x∈L,Ap n x≠Ap n y:=fun x hx e=>by
 obtain⟨i,hi,rfl⟩:=List.mem_iff_getElem.1 hx
 rcases Nat.lt_trichotomy i r with q|q|q
 ·have:=hp.lo i q;rw[Fy hi,e,Fa] at this;cases this
 ·subst q;exact ht ⟨hi,by rw[Fy hi];exact e⟩
 ·have h1:Lt1 (Ap n) L[r] L[i]:=List.pairwise_iff_getElem.1 hL r i (by omega) hi q;have h2:=hp.hi (by omega);rw[Fy (by omega)] at h2;unfold Lt1 at h1;rw[e,h2] at h1;cases h1
theorem PlT.ins {n:Nat} {L:List ByteArray} {y:ByteArray} {r:Nat} (hL:So (Ap n) L) (hp:PlT n L (Ap n y) r) (ht:¬ Kc n L y r):So (Ap n) (Jk L y r)/\(∀ x,x∈Jk L y r↔x∈L\/x=y)/\(Jk L y r).length=L.length+1:=by
 have hn:=hp.none hL ht
 have hlo:∀ x∈L.take r,Lt1 (Ap n) x y:=fun x hx=>by
  obtain⟨i,hi,rfl⟩:=List.mem_iff_getElem.1 hx;rw[List.length_take] at hi;rw[List.getElem_take];have:=hp.lo i (by omega);rw[Fy (by omega)] at this;exact this
 have hhi:∀ z∈L.drop r,Lt1 (Ap n) y z:=fun z hz=>by
  have hzL:=List.mem_of_mem_drop hz;obtain⟨i,hi,rfl⟩:=List.mem_iff_getElem.1 hz;rw[List.length_drop] at hi;rw[List.getElem_drop] at hzL ⊢;refine Lt1.tot ?_ (hn _ hzL);have h2:=hp.hi (by omega);rw[Fy (by omega)] at h2
  rcases Nat.eq_zero_or_pos i with q|q
  ·subst q;exact h2
  ·have h1:Lt1 (Ap n) L[r] L[r+i]:=List.pairwise_iff_getElem.1 hL r (r+i) (by omega) (by omega) (by omega)
   cases hb:Aw (Ap n L[r+i]) (Ap n y) with
   | false=>rfl
   | true=>have:=Jx h1 hb;rw[h2] at this;cases this
 have hL':=hL
 rw[<- List.take_append_drop r L] at hL'
 obtain⟨p1,p2,p3⟩:=List.pairwise_append.1 hL'
 refine⟨?_,fun x=>?_,Jz _ _ _ hp.le⟩
 ·unfold Jk;refine List.pairwise_append.2 ⟨List.pairwise_append.2 ⟨p1,List.pairwise_singleton _ _,fun a ha b hb=>?_⟩,p2,fun a ha b hb=>?_⟩
  ·rw[List.mem_singleton] at hb;subst hb;exact hlo a ha
  ·rcases List.mem_append.1 ha with q|q
   ·exact p3 a q b hb
   ·rw[List.mem_singleton] at q;subst q;exact hhi b hb
 ·unfold Jk;rw[List.mem_append,List.mem_append,List.mem_singleton];constructor
  ·rintro ((q|q)|q)
   ·exact Or.inl (List.mem_of_mem_take q)
   ·exact Or.inr q
   ·exact Or.inl (List.mem_of_mem_drop q)
  ·rintro (q|q)
   ·rw[<- List.take_append_drop r L] at q
    rcases List.mem_append.1 q with p|p
    ·exact Or.inl (Or.inl p)
    ·exact Or.inr p
   ·exact Or.inl (Or.inr q)
theorem sum01:Ap 8 ⟨#[48]⟩≠Ap 8 ⟨#[49]⟩:=by
 intro h
 have:(Hj (Bs [48]) 8)=(Hj (Bs [49]) 8):=by
  have:=congrArg (fun b:ByteArray=>b.data.toList) h;simpa [Ap] using this
 revert this
 decide
theorem Oc (n:Nat) (x:ByteArray):(Ap n x).size=n:=by
 have:∀(V:Int) (n:Nat),(Hj V n).length=n:=fun V n=>by induction n with|zero=>rfl|succ n ih=>simp[Hj,ih]
 show ((Hj _ n).toArray).size=n
 simp[this]
theorem step0_four {is:List I3} {s:St} {t:ByteArray} {n:Nat} (h:Bk is s=.over 4 t n):False:=by
 unfold Bk at h
 split at h
 ·cases h
 ·split at h
  ·cases h
  ·unfold Iu at h;dsimp only at h
   repeat' split at h
   all_goals first|cases h|(rename_i h';cases h)
theorem step0_keep {is:List I3} {s s':St} (h:Bk is s=.go s'):s'.looks=s.looks:=by
 unfold Bk at h
 split at h
 ·cases h
 ·split at h
  ·cases h
  ·unfold Iu at h;dsimp only at h
   repeat' split at h
   all_goals first|(cases h;done)|(injection h with h;rw[<- h])
theorem ans_four {ask:Bool} {nm:ByteArray} {y:R3} {s:St} {t:ByteArray} {n:Nat} (h:Dy ask nm y s=.over 4 t n):ask=true/\y.has=false/\t=nm:=by
 unfold Dy at h
 split at h
 ·cases h
 ·split at h
  ·rename_i h1 h2
   injection h with h3 h4;exact⟨by simpa using h1,h2,h4.symm⟩
  ·split at h<;>cases h
theorem ans_keep {ask:Bool} {nm:ByteArray} {y:R3} {s s':St} (h:Dy ask nm y s=.go s'):s'.looks=s.looks:=by
 unfold Dy at h
 split at h
 ·injection h with h;rw[<- h]
 ·split at h
  ·cases h
  ·split at h
   ·cases h
   ·injection h with h;rw[<- h]
theorem Az.four {is:List I3} {ys:List R3} {s:St} {r:Res} (h:Az is ys s r):∀ {t n},r=.over 4 t n->∃ i,s.looks<=i/\i<ys.length/\(rx ys i).has=false/\∃ m,Az is (ys.take i) s (.wait true t m):=by
 induction h with
 | over h1=>intro t n e;cases e;exact(step0_four h1).elim
 | go h1 _ ih=>
  intro t n e;obtain⟨i,k1,k2,k3,m,k4⟩:=ih e;exact⟨i,by rw[<- step0_keep h1];exact k1,k2,k3,m,.go h1 k4⟩
 | wait h1 h2=>intro t n e;cases e
 | ans h1 h2 h3 _ ih=>
  intro t n e;obtain⟨i,k1,k2,k3,m,k4⟩:=ih e;have hl:=(Gm h1).1;have hk:=ans_keep h3;refine⟨i,by omega,k2,k3,m,.ans h1 (by rw[List.length_take];omega) ?_ k4⟩;rw[rx_take (by omega)];exact h3
 | «end» h1 h2 h3=>
  intro t n e;cases e;obtain⟨rfl,k2,rfl⟩:=ans_four h3;exact⟨_,Nat.le_refl _,h2,k2,_,.wait h1 (by rw[List.length_take];omega)⟩
open Classical in
theorem Ev.notown {ss:List S2} {ts:List T2} {k:Nat} {nm:ByteArray} {d:Md} (h:Ev ss ts k (.make nm) d) (ht:Lm ss ts nm):¬ (d.c=4/\d.t=nm):=by
 rintro ⟨h4,h5⟩
 cases h with
 | source h1 h2=>cases h4
 | missing h1=>exact h1 ht
 | made h1 h2 h3 h6=>
  obtain⟨zs,ms,n,e1,e2,e3,e4⟩:=h6.trace rfl;rw[List.nil_append] at e3;rw[h4,h5] at e3;obtain⟨i,k1,k2,k3,m,k4⟩:=e3.four rfl;obtain⟨⟨m',q1⟩,_,q3⟩:=e4 i (by omega);rw[List.nil_append] at q1;have hu:=k4.unique q1;injection hu with u1 u2 u3;obtain⟨k',d',_,_,q6,_⟩:=q3 u1.symm;rw[q6,<- u2] at k3;have:Cb ss ts nm=true:=by unfold Cb;rw[decide_eq_true_iff];exact ht
  unfold Kw at k3;rw[if_pos this] at k3;cases k3
theorem formB_at {c:Int} {t:ByteArray} (h0:0<=c) (h5:c<=5) (ht:t.size<=2000):Xx (Bn c t)/\Wo (Bn c t)=c/\rdT (Bn c t)=t:=by
 have hs:(Bn c t).size=t.size+2:=by
  unfold Bn;rw[ByteArray.size_append,ByteArray.size_append];show 1+1+t.size=t.size+2;omega
 have h0':(Bn c t)[0]'(by omega)=UInt8.ofNat (48+c.toNat):=by
  unfold Bn;rw[ByteArray.getElem_append_left (by rw[ByteArray.size_append];show 0<1+1;omega),ByteArray.getElem_append_left (by show 0<1;omega)];rfl
 have h1':(Bn c t)[1]'(by omega)=58:=by
  unfold Bn;rw[ByteArray.getElem_append_left (by rw[ByteArray.size_append];show 1<1+1;omega),ByteArray.getElem_append_right (by show 1<=1;omega)];rfl
 have hn:((UInt8.ofNat (48+c.toNat)).toNat:Int)=48+c:=by
  rw[UInt8.toNat_ofNat'];omega
 refine⟨⟨by omega,by omega,?_,?_,?_⟩,?_,?_⟩
 ·rw[h0',hn];omega
 ·rw[h0',hn];omega
 ·rw[h1'];rfl
 ·rw[<- rdC_eq (by omega),h0',hn];omega
 ·unfold rdT;rw[hs];apply WideShapes.bytes_inj;unfold Bn;simp[ByteArray.data_extract,ByteArray.data_append];exact List.take_of_length_le (Nat.le_refl _)
theorem Zn {n:Nat} {T:List ByteArray} {x:ByteArray} (ha:Ey (T.map (Ap n))) (hx:x∈T):Got n T (Ap n x)/\Gg n T (Ap n x)=x:=by
 obtain⟨i,hi,rfl⟩:=List.mem_iff_getElem.1 hx
 have hg:Got n T (Ap n T[i]):=⟨i,hi,by rw[Fy hi]⟩
 have:=Wl ha (A:=T[i]) (ok:=true) (Or.inl ⟨rfl,i,hi,by rw[Fy hi],by rw[Fy hi]⟩)
 exact⟨hg,this.1.symm⟩
structure Rpv (ss:List S2) (ts:List T2) (is:List I3) (ls:List G3) (c:Int) (t:ByteArray) (zs:List R3):Prop where
 len:zs.length=ls.length
 le:ls.length<=200
 c0:0<=c
 c5:c<=5
 t2:t.size<=2000
 fin:∃ n,Az is zs Gc (.over c t n)
 stp:∀ i,i<ls.length->(∃ n,Az is (zs.take i) Gc (.wait (gx ls i).ask (gx ls i).name n))/\Aq (gx ls i).name
 sz:∀ i,i<ls.length->(gx ls i).sum.size<=2002
 no:∀ i,i<ls.length->(gx ls i).ask=false->∃ b,rx zs i=⟨b,0,⟨#[]⟩⟩/\(gx ls i).sum=Cw b
 yes:∀ i,i<ls.length->(gx ls i).ask=true->∃ c' t',0<=c'/\c'<=5/\t'.size<=2000/\(gx ls i).sum=Bn c' t'/\rx zs i=if c'=4/\t'=(gx ls i).name then ⟨false,0,⟨#[]⟩⟩ else ⟨true,c',t'⟩
open Classical in
theorem vouch_of {w:World} {sa ta:Option Addr} {ss:List S2} {ts:List T2} (ho:Mx w sa ss ta ts) (hS:Pm ts) {nm:ByteArray} {ls:List G3} {c:Int} {t:ByteArray} {ch:List ByteArray} (h:Dh ss ts nm ls c t ch) (h5:c<=5) {q:Nat} (hq:q<ts.length) (en:(tx ts q).name=nm):Ah (tx ts q).code=true/\∃ zs,Rpv ss ts (tx ts q).code ls c t zs:=by
 have hle:=(h.len ho).1
 rcases h with ⟨_,_,rfl,_⟩|⟨hc,hnb,ms,a,hd,q'⟩
 ·omega
 ·have hE:=Qh ho hc
  cases a with
  | circle l=>obtain⟨_,rfl,_⟩:=q';omega
  | deep x=>obtain⟨_,rfl,_⟩:=q';omega
  | ok d=>
   obtain⟨rfl,rfl,rfl,rfl⟩:=q';refine⟨hE.v.pr q hq,?_⟩;obtain⟨k,hk,hev⟩:=ev_le hE.v hS hd;have ht:Fi (Ae ts) nm:=en▸Dv hq
   have hok0:0<=d.c/\d.t.size<=2000:=by
    obtain⟨i1,_,i3⟩:=Av.inv hE.v hd (Ja.nil ss ts) (by by_cases h:Aq nm;exact h;rw[Cq h] at hnb;cases hnb) trivial d rfl;have ok:=i1.done _ _ i3;exact⟨ok.c0,ok.t2⟩
   cases hev with
   | source h1 h2=>exact absurd ht (hE.v.dis _ (h2▸Dm h1))
   | missing h1=>exact absurd (Or.inr ht) h1
   | made h1 h2 h3 h4=>
    cases Il hE.v.ascT h2 hq (h3.trans en.symm)
    obtain⟨zs,ms,n,e1,e2,e3,e4⟩:=h4.trace rfl;rw[List.nil_append] at e1 e3;rw[e1] at hle
    have hyes:∀ i,i<ms.length->(gx ms i).ask=true->∃ c' t',0<=c'/\c'<=5/\t'.size<=2000/\(gx ms i).sum=Bn c' t'/\rx zs i=if c'=4/\t'=(gx ms i).name then ⟨false,0,⟨#[]⟩⟩ else ⟨true,c',t'⟩:=by
     intro i hi ha;obtain⟨⟨m,hm⟩,_,q3⟩:=e4 i hi;obtain⟨k',d',q4,q5,q6,q7⟩:=q3 ha;have hnm:=Vd hm rfl;obtain⟨ms',hd'⟩:=q5.clean hE.v.ascS hE.v.ascT (by omega);obtain⟨i1,_,i3⟩:=Av.inv hE.v hd' (Ja.nil ss ts) hnm trivial d' rfl;have ok:=i1.done _ _ i3;refine⟨d'.c,d'.t,ok.c0,ok.c5,ok.t2,q7,?_⟩;rw[q6];unfold Kw
     by_cases hth:Lm ss ts (gx ms i).name
     ·rw[if_pos (by unfold Cb;rw[decide_eq_true_iff];exact hth),if_neg (q5.notown hth)]
     ·rw[if_neg (by unfold Cb;rw[decide_eq_true_iff];exact hth)]
      cases q5 with
      | source a1 a2=>exact absurd (Or.inl (a2▸Dm a1)) hth
      | missing a1=>rw[if_pos ⟨rfl,rfl⟩]
      | made a1 a2 a3 a4=>exact absurd (Or.inr (a3▸Dv a2)) hth
    refine⟨zs,?_⟩;rw[e1];refine⟨e2,hle,hok0.1,h5,hok0.2,⟨n,e3⟩,fun i hi=>?_,fun i hi=>?_,fun i hi=>(e4 i hi).2.1,hyes⟩
    ·obtain⟨⟨m,hm⟩,_⟩:=e4 i hi;rw[List.nil_append] at hm;exact⟨⟨m,hm⟩,Vd hm rfl⟩
    ·cases ha:(gx ms i).ask with
     | true=>
      obtain⟨c',t',_,_,k3,k4,_⟩:=hyes i hi ha;rw[k4];exact Hr k3
     | false=>
      obtain⟨b,_,k2⟩:=(e4 i hi).2.1 ha;rw[k2]
      cases b<;>decide
structure Kq (ls:List G3) (k:Nat) (T:List ByteArray):Prop where
 so:So (Ap 8) T
 len:T.length<=k
 sz:∀ x∈T,x.size<=2002
 has:∀ j,j<k->(gx ls j).ask=true->(gx ls j).sum∈T
theorem Kq.nil (ls:List G3):Kq ls 0 []:=⟨List.Pairwise.nil,Nat.le_refl _,fun x hx=>by simp at hx,fun j hj=>by omega⟩
theorem Kq.skip {ls:List G3} {k:Nat} {T:List ByteArray} (h:Kq ls k T) (ha:(gx ls k).ask=false):Kq ls (k+1) T:=
 ⟨h.so,by have:=h.len;omega,h.sz,fun j hj hq=>by
  rcases Nat.lt_or_ge j k with h'|h'
  ·exact h.has j h' hq
  ·obtain rfl:j=k:=by omega
   rw[ha] at hq;cases hq⟩
theorem Kq.wd {ls:List G3} {k:Nat} {T:List ByteArray} (h:Kq ls k T) (hk:k<=300):Kh 8 T []:=
 ⟨by omega,by omega,⟨by have:=h.len;omega,fun i hi=>by rw[Fy hi];exact h.sz _ (List.getElem_mem _),h.so.asc⟩,by simp,fun i hi=>by simp at hi⟩
theorem Kq.put {ls:List G3} {k:Nat} {T:List ByteArray} (h:Kq ls k T) (hk:k<=300) {x:ByteArray} (hx:x.size<=2002) {cd wd:Int} {T':List ByteArray} {rs':List T3} {A B:ByteArray} (hp:KpP 8 T [] x cd wd T' rs' A B) :
  (cd=2/\A≠B/\Ap 8 A=Ap 8 B/\A.size<=2002/\B.size<=2002)\/(cd=0/\wd=8/\rs'=[]/\So (Ap 8) T'/\T'.length<=k+1/\(∀ y∈T',y.size<=2002)/\(∀ y∈T,y∈T')/\x∈T'):=by
 have hw:=h.wd hk
 rcases hp with ⟨hn,_⟩|⟨_,r,hp,hc⟩
 ·exact absurd ⟨hw,hx⟩ hn
 ·rcases hc with ⟨h1,h2,rfl,rfl,rfl,rfl,rfl,rfl⟩|⟨h1,h2,rfl,rfl,rfl,rfl,rfl,rfl⟩|⟨h1,h2,rfl,rfl,rfl,rfl,rfl,rfl⟩|⟨h1,h2,rfl,rfl,rfl,rfl,rfl,rfl⟩
  ·exact Or.inl ⟨rfl,h2,h1.2,by rw[Fy h1.1];exact h.sz _ (List.getElem_mem _),hx⟩
  ·exact Or.inr ⟨rfl,rfl,rfl,h.so,by have:=h.len;omega,h.sz,fun y hy=>hy,by rw[<- h2,Fy h1.1];exact List.getElem_mem _⟩
  ·exact absurd h2 (by have:=h.len;omega)
  ·obtain⟨p1,p2,p3⟩:=hp.ins h.so h1;refine Or.inr ⟨rfl,rfl,rfl,p1,by have:=h.len;omega,fun y hy=>?_,fun y hy=>(p2 y).2 (Or.inl hy),(p2 x).2 (Or.inr rfl)⟩
   rcases (p2 y).1 hy with q|q
   ·exact h.sz y q
   ·rw[q];exact hx
theorem Kq.next {ls:List G3} {k:Nat} {T T':List ByteArray} (h:Kq ls k T) (h1:So (Ap 8) T') (h2:T'.length<=k+1) (h3:∀ y∈T',y.size<=2002) (h4:∀ y∈T,y∈T') (h5:(gx ls k).sum∈T'):Kq ls (k+1) T':=
 ⟨h1,h2,h3,fun j hj hq=>by
  rcases Nat.lt_or_ge j k with h'|h'
  ·exact h4 _ (h.has j h' hq)
  ·obtain rfl:j=k:=by omega
   exact h5⟩
theorem Rpv.tell {ss:List S2} {ts:List T2} {is:List I3} {ls:List G3} {c:Int} {t:ByteArray} {zs:List R3} (h:Rpv ss ts is ls c t zs) {T:List ByteArray} (hs:So (Ap 8) T) (hm:∀ j,j<ls.length->(gx ls j).ask=true->(gx ls j).sum∈T) {i:Nat} (hi:i<ls.length):Gd 8 T (Hg 8 (gx ls i))=some (rx zs i):=by
 cases ha:(gx ls i).ask with
 | false=>
  obtain⟨b,k1,k2⟩:=h.no i hi ha;rw[k1]
  cases b with
  | true=>exact Ps ha (by show Ap 8 _=_;rw[k2];rfl)
  | false=>exact Pt ha (by show ¬ Ap 8 _=_;rw[k2];exact sum01) (by show Ap 8 _=_;rw[k2];rfl)
 | true=>
  obtain⟨c',t',k1,k2,k3,k4,k5⟩:=h.yes i hi ha;obtain⟨g1,g2⟩:=Zn hs.asc (hm i hi ha);obtain⟨f1,f2,f3⟩:=formB_at k1 k2 k3;have hg:Gg 8 T (Hg 8 (gx ls i)).sum=Bn c' t':=by rw[<- k4];exact g2
  rw[k5]
  by_cases hq:c'=4/\t'=(gx ls i).name
  ·rw[if_pos hq];exact Ku ha (by rw[hg];exact f1) (by rw[hg,f2,f3];exact hq)
  ·rw[if_neg hq];have:=Ob (g:=Hg 8 (gx ls i)) (n:=8) (ts:=T) ha (by rw[hg];exact f1) (by rw[hg,f2,f3];exact hq);rw[hg,f2,f3] at this;exact this
theorem Rpv.vou {ss:List S2} {ts:List T2} {is:List I3} {ls:List G3} {c:Int} {t:ByteArray} {zs:List R3} (h:Rpv ss ts is ls c t zs) {T:List ByteArray} (hs:So (Ap 8) T) (hm:∀ j,j<ls.length->(gx ls j).ask=true->(gx ls j).sum∈T) (out:ByteArray):Mv 8 T is (ls.map (Hg 8)) out (Lb 8 T out c t):=by
 have key:∀ m k,k+m=ls.length->Mw is (ls.map (Hg 8)) (Gd 8 T) (Lb 8 T out) (zs.take k) (Lb 8 T out c t):=by
  intro m
  induction m with
  | zero=>
   intro k hk;obtain⟨n,hf⟩:=h.fin;rw[List.take_of_length_le (by rw[h.len];omega)];exact .fin hf (by rw[List.length_map,h.len];exact Nat.le_refl _)
  | succ m ih=>
   intro k hk;have hkl:k<ls.length:=by omega
   obtain⟨⟨n,hf⟩,_⟩:=h.stp k hkl;have hl:(zs.take k).length=k:=by rw[List.length_take,h.len];omega
   refine .go hf (by rw[List.length_map,hl];exact hkl) (by rw[hl,Sq 8 ls k hkl];exact⟨rfl,rfl⟩) (y:=rx zs k) (by rw[hl,Sq 8 ls k hkl];exact h.tell hs hm hkl) ?_;rw[take_snoc (by rw[h.len];exact hkl)];exact ih (k+1) (by omega)
 have:=key ls.length 0 (by omega)
 rw[List.take_zero] at this
 exact this
open Classical in
theorem fin_yes {T:List ByteArray} (hs:So (Ap 8) T) {c:Int} {t:ByteArray} (hm:Bn c t∈T):Lb 8 T (Ap 8 (Bn c t)) c t=0:=by
 unfold Lb
 rw[if_pos (Zn hs.asc hm)]
open Classical in
theorem fin_no {T:List ByteArray} (hs:So (Ap 8) T) {c:Int} {t x:ByteArray} (hne:x≠Ap 8 (Bn c t)):Lb 8 T x c t=4:=by
 unfold Lb
 rw[if_neg]
 rintro ⟨hg,he⟩
 have h2:Ap 8 (Gg 8 T x)=x:=by
  unfold Gg;rw[dif_pos hg];exact hg.choose_spec.2
 rw[he] at h2
 exact hne h2.symm
theorem Rpv.rc {ss:List S2} {ts:List T2} {is:List I3} {ls:List G3} {c:Int} {t:ByteArray} {zs:List R3} (h:Rpv ss ts is ls c t zs) (hp:Ah is=true) (x:ByteArray):Kt 8 ⟨is,ls.map (Hg 8),Ap 8 x⟩:=
 ⟨hp,Oc 8 x,by rw[List.length_map];exact h.le,fun i hi=>by rw[List.length_map] at hi;show GlOk 8 (gx (ls.map (Hg 8)) i);rw[Sq 8 ls i hi];exact⟨(h.stp i hi).2,Oc 8 _⟩⟩
theorem Rpv.code {ss:List S2} {ts:List T2} {is:List I3} {ls:List G3} {c:Int} {t:ByteArray} {zs:List R3} (h:Rpv ss ts is ls c t zs) (hp:Ah is=true) {T:List ByteArray} (hw:Kh 8 T []) (hm:∀ j,j<ls.length->(gx ls j).ask=true->(gx ls j).sum∈T) (x:ByteArray) {r:Int} (hv:VouO 8 T [] is (ls.map (Hg 8)) (Ap 8 x) r):r=Lb 8 T (Ap 8 x) c t:=by
 rcases hv with ⟨_,h2⟩|⟨h1,_⟩
 ·exact Mw.unique (h.vou (So.of_asc hw.2.2.1.2.2) hm (Ap 8 x)) h2
 ·exact absurd ⟨hw,h.rc hp x⟩ h1
end Go.Proofs.YtjlnkepkkdefdaaGreatDoor
